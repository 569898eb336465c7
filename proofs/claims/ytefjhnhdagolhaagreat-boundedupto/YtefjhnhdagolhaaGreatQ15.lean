import Derived.Test.YtefjhnhdagolhaaGreatQ14
import Derived.Test.YtefjhnhdagolhaaGreatQ10
set_option maxHeartbeats 8000000
set_option maxRecDepth 20000
namespace Go.Proofs.YtefjhnhdagolhaaGreat
open Go.RowKit
open M (aI aC aD aP bA Dd PI)
theorem CC {w:World} {base:Nat} {e:TypeId} {size:Nat} {v:Value} {n:Nat} {xs:List Value} (h:w.ownsRow base e size v n xs) {g:Nat} (hg:v.ownBlock=some g) (k:Nat) (u:Value):(w.setCell ⟨g,k,none⟩ u).ownsRow base e size v n (xs.set k u):=by
 rcases h.2 with ⟨rfl,-⟩|⟨g',cap,cur,rfl,h3,h4,h5,h6,h7,h8⟩
 ·cases hg
 ·have:g'=g:=by simpa [Value.ownBlock] using hg
  subst this
  refine ⟨by rw [List.length_set];exact h.1,.inr ⟨g',cap,cur.set! k u,rfl,h3,?_,h5,h6,by simpa using h7,?_⟩⟩
  ·simp [World.setCell,Array.getElem?_modify,h4]
  ·rw [←h8]
   simp [List.take_set]
theorem fD {w:World} {base:Nat} {e:TypeId} {size:Nat} {v:Value} {n:Nat} {xs:List Value} (h:w.ownsRow base e size v n xs) {g:Nat} (hg:v.ownBlock=some g) (k:Nat):w.frozen? ⟨g,k,none⟩=false:=by
 rcases h.2 with ⟨rfl,-⟩|⟨g',cap,cur,rfl,h3,h4,-⟩
 ·cases hg
 ·have:g'=g:=by simpa [Value.ownBlock] using hg
  subst this
  simp [World.frozen?,h4]
theorem iV {w:World} {base:Nat} {e t:TypeId} {size:Nat} {v:Value} {n:Nat} {xs ys:List Value} {b:Nat} (h:w.ownsRow base e size v n xs) (hr:Row w b t ys) (hne:e≠t):v.ownBlock≠some b:=by
 intro q
 rcases h.2 with ⟨rfl,-⟩|⟨g,cap,cur,rfl,-,h4,-⟩
 ·cases q
 ·have:g=b:=by simpa [Value.ownBlock] using q
  subst this
  unfold Row at hr
  rw [h4] at hr
  injection hr with hr
  injection hr with _ hr _
  exact hne hr
structure QW where
 w:World
 q:Nat→Prop
theorem uP {w0 w w':World} {q U:Nat→Prop} (h:Fr (fun k=>¬q k) w0 w) (hf:Fr U w w') (hU:∀ k,U k→¬q k):Fr (fun k=>¬q k) w0 w' :=
 h.trans ⟨hf.os,hf.tape,hf.output,hf.size,fun k hk hn=>hf.block k hk (fun c=>hn (hU k c))⟩
def wI (d:Dd):List Value:=[.int .i64 d.op.c,.int .i64 d.op.a,.int .i64 d.op.b,.int .i64 (d.t:Int),.int .i64 (d.s:Int),.int .i64 (d.bg:Int),.int .i64 (d.fl:Int),.int .i64 (d.en:Int),.int .i64 (d.nb:Int),.int .i64 (d.st:Int),.int .i64 d.an.v,.int .i64 d.an.s]
def sI (l:List Dd):List Value:=l.flatMap wI
theorem KP (l m:List Dd):sI (l++m)=sI l++sI m:=by simp [sI]
theorem CD:∀ {l:List Dd} {i:Nat} {d:Dd} (f:Nat),l[i]?=some d→f<12→(sI l)[i*12+f]?=(wI d)[f]?
 |[],i,d,f,h,_=>by simp at h
 |a::l,0,d,f,h,hf=>by
  simp at h
  subst h
  show (wI a++sI l)[0*12+f]?=_
  rw [List.getElem?_append_left (by simp [wI];omega)]
  simp
 |a::l,i+1,d,f,h,hf=>by
  show (wI a++sI l)[(i+1)*12+f]?=_
  rw [List.getElem?_append_right (by simp [wI];omega),←CD (l:=l) (i:=i) f (by simpa using h) hf]
  congr 1
  simp [wI]
  omega
theorem KQ:∀ {l:List Dd} {i:Nat} {d d':Dd} (f:Nat) (v:Value),l[i]?=some d→f<12→wI d'=(wI d).set f v→sI (l.set i d')=(sI l).set (i*12+f) v
 |[],i,d,d',f,v,h,_,_=>by simp at h
 |a::l,0,d,d',f,v,h,hf,e=>by
  simp at h
  subst h
  show wI d'++sI l=(wI a++sI l).set (0*12+f) v
  rw [List.set_append_left _ _ (by simp [wI];omega),e]
  simp
 |a::l,i+1,d,d',f,v,h,hf,e=>by
  show wI a++sI (l.set i d')=(wI a++sI l).set ((i+1)*12+f) v
  rw [List.set_append_right _ _ (by simp [wI];omega),KQ (l:=l) (i:=i) f v (by simpa using h) hf e]
  congr 2
  simp [wI]
  omega
theorem ints_set (l:List Int) (i:Nat) (x:Int):ints (l.set i x)=(ints l).set i (.int .i64 x):=by simp [ints,List.map_set]
theorem rS {l:List Int} {i:Nat} {x:Int} (h:l[i]?=some x):(ints l)[i]?=some (.int .i64 x):=by rw [ints,List.getElem?_map,h];rfl
structure PL where
 bP:Nat
 bX:Nat
 tE:TypeId
 bN:Nat
 kd:Int
 st:Int
 co:Int
 vn:Value
 vo:Value
def ZJ (D:DL) (A:PL) (vd vu vs:Value) (c:Nat):List Value:=[.pointer (some ⟨A.bX,0,none⟩),.int .i64 A.kd,.int .i64 (D.n:Int),.int .i64 (D.cap:Int),.int .i64 A.st,.int .i64 A.co,A.vn,A.vo,vd,vu,vs,.int .i64 (c:Int)]
structure PM (X:(Nat→Prop)→aP→World→Prop) (D:DL) (A:PL) (w0:QW) (S:Nat→Prop) (vd vu vs:Value) (Y:aP) (ds:List Dd) (us ss:List Int) (c:Nat) (w:World):Prop where
 row:Row w A.bP 69 (ZJ D A vd vu vs c)
 obj:Row w A.bX 74 [.iface A.tE (.pointer (some ⟨A.bN,0,none⟩))]
 x:X S Y w
 xl:∀ k,S k→k<w.heap.size
 od:w.ownsRow 0 77 12 vd ds.length (sI ds)
 ou:w.ownsRow 0 3 1 vu us.length (ints us)
 os:w.ownsRow 0 3 1 vs ss.length (ints ss)
 sx:∀ k,S k→k≠A.bP∧k≠A.bX∧vd.ownBlock≠some k∧vu.ownBlock≠some k∧vs.ownBlock≠some k
 nu:∀ k,vu.ownBlock=some k→vs.ownBlock≠some k
 lo:¬w0.q A.bP∧¬w0.q A.bX∧(∀ k,S k→¬w0.q k)∧∀ k,vd.ownBlock=some k∨vu.ownBlock=some k∨vs.ownBlock=some k→¬w0.q k
 ql:∀ k,w0.q k→k<w0.w.heap.size
 bl:Fr (fun k=>¬w0.q k) w0.w w
section
variable {σ:Type} {P:M.Plain σ} {tell:σ→List Int} {D:DL} {X:(Nat→Prop)→aP→World→Prop} {A:PL} {S:Nat→Prop} {w0:QW} {w w1:World} {vd vu vs:Value} {Y Y':aP} {ds:List Dd} {us ss:List Int} {c:Nat} {nJ nK nL nM nN nO nP:Nat}
theorem PM.below (xo:wH P tell D A.tE A.bN X nJ nK nL nM nN nO nP) (h:PM X D A w0 S vd vu vs Y ds us ss c w) (hb:Below w.heap.size w w1):PM X D A w0 S vd vu vs Y ds us ss c w1 where
 row:=h.row.old hb
 obj:=h.obj.old hb
 x:=xo.stay _ _ _ _ _ h.x (fun k hS=>hb.block k (h.xl k hS)) (fun _ q=>q) (fun k hS=>Nat.lt_of_lt_of_le (h.xl k hS) hb.size)
 xl k hS:=Nat.lt_of_lt_of_le (h.xl k hS) hb.size
 od:=gI h.od hb
 ou:=gI h.ou hb
 os:=gI h.os hb
 sx:=h.sx
 nu:=h.nu
 lo:=h.lo
 ql:=h.ql
 bl:=h.bl.trans (Fr.eW hb)
theorem PM.RT (xo:wH P tell D A.tE A.bN X nJ nK nL nM nN nO nP) (h:PM X D A w0 S vd vu vs Y ds us ss c w) (hg:XY X S w Y' w1):PM X D A w0 (Grow S w w1) vd vu vs Y' ds us ss c w1:=by
 have hk:∀ k,k<w.heap.size→¬S k→w1.heap[k]?=w.heap[k]?:=hg.fr.block
 have hz:=hg.fr.size
 have hz0:=h.bl.size
 have hr:=h.row.lt
 have hx:=h.obj.lt
 exact {
  row:=h.row.of_block (hk _ hr (fun q=>(h.sx _ q).1 rfl))
  obj:=h.obj.of_block (hk _ hx (fun q=>(h.sx _ q).2.1 rfl))
  x:=hg.x
  xl:=xo.lt _ _ _ hg.x
  od:=bZ h.od fun k e=>hk k (h.od.lt k e).2 (fun q=>(h.sx k q).2.2.1 e)
  ou:=bZ h.ou fun k e=>hk k (h.ou.lt k e).2 (fun q=>(h.sx k q).2.2.2.1 e)
  os:=bZ h.os fun k e=>hk k (h.os.lt k e).2 (fun q=>(h.sx k q).2.2.2.2 e)
  sx:=fun k hS=>by
   rcases hS with q|q
   ·exact h.sx k q
   ·exact ⟨by omega,by omega,fun e=>by have:=(h.od.lt k e).2;omega,fun e=>by have:=(h.ou.lt k e).2;omega,fun e=>by have:=(h.os.lt k e).2;omega⟩
  nu:=h.nu
  lo:=⟨h.lo.1,h.lo.2.1,fun k hS=>by
   rcases hS with q|q
   ·exact h.lo.2.2.1 k q
   ·exact fun c=>by have:=h.ql k c;omega,h.lo.2.2.2⟩
  ql:=h.ql
  bl:=uP h.bl hg.fr h.lo.2.2.1}
theorem cI {w:World} {b o k:Nat} {v:Value} (h:k≠b):(w.setCell ⟨b,o,none⟩ v).heap[k]?=w.heap[k]?:=Below.heap_setCell _ _ _ k h
theorem PM.ZK (xo:wH P tell D A.tE A.bN X nJ nK nL nM nN nO nP) (h:PM X D A w0 S vd vu vs Y ds us ss c w) {b:Nat} (hb:¬S b) (o:Nat) (v:Value):X S Y (w.setCell ⟨b,o,none⟩ v)∧∀ k,S k→k<(w.setCell ⟨b,o,none⟩ v).heap.size:=by
 have hz:(w.setCell ⟨b,o,none⟩ v).heap.size=w.heap.size:=by simp [World.setCell]
 refine ⟨xo.stay _ _ _ _ _ h.x (fun k hS=>cI (fun q=>hb (by rw [←q];exact hS))) (fun _ q=>q) (fun k hS=>by rw [hz];exact h.xl k hS),fun k hS=>by rw [hz];exact h.xl k hS⟩
theorem mB {w0 w:World} {q:Nat→Prop} {b:Nat} (h:Fr (fun k=>¬q k) w0 w) (hb:¬q b) (o:Nat) (v:Value):Fr (fun k=>¬q k) w0 (w.setCell ⟨b,o,none⟩ v):=h.here (b:=b) hb o v
theorem PM.ne (h:PM X D A w0 S vd vu vs Y ds us ss c w):A.bP≠A.bX∧vd.ownBlock≠some A.bP∧vu.ownBlock≠some A.bP∧vs.ownBlock≠some A.bP∧vd.ownBlock≠some A.bX∧vu.ownBlock≠some A.bX∧vs.ownBlock≠some A.bX∧(∀ k,vd.ownBlock=some k→vu.ownBlock≠some k∧vs.ownBlock≠some k):=by
 have n3:∀ {v v':Value} {n n':Nat} {xs ys:List Value} {s s':Nat} {e e':TypeId},w.ownsRow 0 e s v n xs→w.ownsRow 0 e' s' v' n' ys→e≠e'→∀ k,v.ownBlock=some k→v'.ownBlock≠some k:=by
  intro v v' n n' xs ys s s' e e' h1 h2 hne k q1 q2
  rcases h1.2 with ⟨rfl,-⟩|⟨g,cap,cur,rfl,-,h4,-⟩
  ·cases q1
  ·rcases h2.2 with ⟨rfl,-⟩|⟨g2,aKT,aKU,rfl,-,h42,-⟩
   ·cases q2
   ·have a:g=k:=by simpa [Value.ownBlock] using q1
    have b:g2=k:=by simpa [Value.ownBlock] using q2
    subst a b
    rw [h4] at h42
    injection h42 with h42
    injection h42 with _ h43 _
    exact hne h43
 exact ⟨Row.apart h.row h.obj (by decide),iV h.od h.row (by decide),iV h.ou h.row (by decide),iV h.os h.row (by decide),iV h.od h.obj (by decide),iV h.ou h.obj (by decide),iV h.os h.obj (by decide),fun k e=>⟨n3 h.od h.ou (by decide) k e,n3 h.od h.os (by decide) k e⟩⟩
theorem PM.aDu (xo:wH P tell D A.tE A.bN X nJ nK nL nM nN nO nP) (h:PM X D A w0 S vd vu vs Y ds us ss c w) (c':Nat) (x:Int) (hx:x=(c':Int)):PM X D A w0 S vd vu vs Y ds us ss c' (w.setCell ⟨A.bP,11,none⟩ (.int .i64 x)):=by
 subst hx
 obtain ⟨n1,n2,n3,n4,-⟩:=h.ne
 have hb:¬S A.bP:=fun q=>(h.sx _ q).1 rfl
 have hne:∀ {v:Value} {k:Nat},v.ownBlock≠some A.bP→v.ownBlock=some k→k≠A.bP:=fun hv e q=>hv (by rw [←q];exact e)
 obtain ⟨x1,x2⟩:=h.ZK xo hb 11 (.int .i64 (c':Int))
 exact {
  row:=h.row.set 11 _
  obj:=h.obj.setOther (Ne.symm n1) _
  x:=x1
  xl:=x2
  od:=bZ h.od fun k e=>cI (hne n2 e)
  ou:=bZ h.ou fun k e=>cI (hne n3 e)
  os:=bZ h.os fun k e=>cI (hne n4 e)
  sx:=h.sx
  nu:=h.nu
  lo:=h.lo
  ql:=h.ql
  bl:=mB h.bl h.lo.1 _ _}
theorem PM.aDv (xo:wH P tell D A.tE A.bN X nJ nK nL nM nN nO nP) (h:PM X D A w0 S vd vu vs Y ds us ss c w) {g:Nat} (hg:vu.ownBlock=some g) (k:Nat) (x:Int):PM X D A w0 S vd vu vs Y ds (us.set k x) ss c (w.setCell ⟨g,k,none⟩ (.int .i64 x)):=by
 obtain ⟨-,-,n3,-,-,n6,-,n8⟩:=h.ne
 have hb:¬S g:=fun q=>(h.sx _ q).2.2.2.1 hg
 obtain ⟨x1,x2⟩:=h.ZK xo hb k (.int .i64 x)
 exact {
  row:=h.row.setOther (fun q=>n3 (by rw [q];exact hg)) _
  obj:=h.obj.setOther (fun q=>n6 (by rw [q];exact hg)) _
  x:=x1
  xl:=x2
  od:=bZ h.od fun j e=>cI (fun q=>(n8 j e).1 (by rw [q];exact hg))
  ou:=by rw [List.length_set,ints_set];exact CC h.ou hg k _
  os:=bZ h.os fun j e=>cI (fun q=>h.nu g hg (by rw [←q];exact e))
  sx:=h.sx
  nu:=h.nu
  lo:=h.lo
  ql:=h.ql
  bl:=mB h.bl (h.lo.2.2.2 g (.inr (.inl hg))) _ _}
theorem PM.aDw (xo:wH P tell D A.tE A.bN X nJ nK nL nM nN nO nP) (h:PM X D A w0 S vd vu vs Y ds us ss c w) {g:Nat} (hg:vs.ownBlock=some g) (k:Nat) (x:Int):PM X D A w0 S vd vu vs Y ds us (ss.set k x) c (w.setCell ⟨g,k,none⟩ (.int .i64 x)):=by
 obtain ⟨-,-,-,n4,-,-,n7,n8⟩:=h.ne
 have hb:¬S g:=fun q=>(h.sx _ q).2.2.2.2 hg
 obtain ⟨x1,x2⟩:=h.ZK xo hb k (.int .i64 x)
 exact {
  row:=h.row.setOther (fun q=>n4 (by rw [q];exact hg)) _
  obj:=h.obj.setOther (fun q=>n7 (by rw [q];exact hg)) _
  x:=x1
  xl:=x2
  od:=bZ h.od fun j e=>cI (fun q=>(n8 j e).2 (by rw [q];exact hg))
  ou:=bZ h.ou fun j e=>cI (fun q=>h.nu j e (by rw [q];exact hg))
  os:=by rw [List.length_set,ints_set];exact CC h.os hg k _
  sx:=h.sx
  nu:=h.nu
  lo:=h.lo
  ql:=h.ql
  bl:=mB h.bl (h.lo.2.2.2 g (.inr (.inr hg))) _ _}
theorem PM.RU (xo:wH P tell D A.tE A.bN X nJ nK nL nM nN nO nP) (h:PM X D A w0 S vd vu vs Y ds us ss c w) {g:Nat} (hg:vd.ownBlock=some g) {i:Nat} {d d':Dd} (f:Nat) (v:Value) (hd:ds[i]?=some d) (hf:f<12) (e:wI d'=(wI d).set f v):PM X D A w0 S vd vu vs Y (ds.set i d') us ss c (w.setCell ⟨g,i*12+f,none⟩ v):=by
 obtain ⟨-,n2,-,-,n5,-,-,n8⟩:=h.ne
 have hb:¬S g:=fun q=>(h.sx _ q).2.2.1 hg
 obtain ⟨x1,x2⟩:=h.ZK xo hb (i*12+f) v
 exact {
  row:=h.row.setOther (fun q=>n2 (by rw [q];exact hg)) _
  obj:=h.obj.setOther (fun q=>n5 (by rw [q];exact hg)) _
  x:=x1
  xl:=x2
  od:=by rw [List.length_set,KQ f v hd hf e];exact CC h.od hg _ _
  ou:=bZ h.ou fun j q=>cI (fun q2=>(n8 g hg).1 (by rw [←q2];exact q))
  os:=bZ h.os fun j q=>cI (fun q2=>(n8 g hg).2 (by rw [←q2];exact q))
  sx:=h.sx
  nu:=h.nu
  lo:=h.lo
  ql:=h.ql
  bl:=mB h.bl (h.lo.2.2.2 g (.inl hg)) _ _}
theorem PM.deed (h:PM X D A w0 S vd vu vs Y ds us ss c w) {i:Nat} {d:Dd} (hd:ds[i]?=some d):∃ g cp,vd = .slice (some ⟨g,0,none⟩) ds.length cp∧∀ f v,(wI d)[f]?=some v→w.cell? ⟨g,i*12+f,none⟩=some v:=by
 have h0:=CD (l:=ds) 0 hd (by decide)
 obtain ⟨g,cp,e,-⟩:=gA h.od (i:=i*12+0) (u:=.int .i64 d.op.c) (by rw [h0];rfl)
 refine ⟨g,cp,e,fun f v hv=>?_⟩
 have hf:f<12:=by have:=(List.getElem?_eq_some_iff.mp hv).1;simpa [wI] using this
 obtain ⟨g',cp',e',q⟩:=gA h.od (i:=i*12+f) (u:=v) (by rw [CD f hd hf];exact hv)
 rw [e] at e'
 injection e' with e1 _ _
 injection e1 with e1
 injection e1 with e1
 rw [e1];exact q
end
attribute [local go_sem ↓] Go.wp_at_zero Go.wp_at_succ
theorem RV:(Tryz.prog.info? 77).map (fun i=>(i.zero,i.size,i.bytes))=some (some (.agg #[.int .i64 0,.int .i64 0,.int .i64 0,.int .i64 0,.int .i64 0,.int .i64 0,.int .i64 0,.int .i64 0,.int .i64 0,.int .i64 0,.int .i64 0,.int .i64 0]),12,96):=by kernel_rfl
def uv (u:Nat→Option Nat) (t:Nat):Int:=match u t with|none=>-1|some i=>(i:Int)
def zO (n:Nat) (u:Nat→Option Nat):List Int:=(List.range n).map (uv u)
def GR (n:Nat) (Y:aP):List Int:=(List.range n).map fun t=>((Y.th t).ops.length:Int)
theorem gM {f:Nat→Int} {n t:Nat} (h:t<n):((List.range n).map f)[t]?=some (f t):=by rw [List.getElem?_map,List.getElem?_range h];rfl
theorem rC {f g:Nat→Int} {n t:Nat} {x:Int} (h:t<n) (hx:g t=x) (ho:∀ k,k≠t→g k=f k):((List.range n).map f).set t x=(List.range n).map g:=by
 apply List.ext_getElem?
 intro j
 by_cases e:j=t
 ·subst e
  rw [List.getElem?_set_self (by simpa using h),gM h,hx]
 ·rw [List.getElem?_set_ne (Ne.symm e),List.getElem?_map,List.getElem?_map]
  by_cases hj:j<n
  ·rw [List.getElem?_range hj];show some (f j)=some (g j);rw [ho j e]
  ·rw [List.getElem?_eq_none (by simpa using hj)];rfl
theorem QB {n t:Nat} {u:Nat→Option Nat} (h:t<n) (i:Nat):(zO n u).set t (i:Int)=zO n (aI u t (some i)) :=
 rC h (by unfold uv;rw [aC]) (fun k hk=>by unfold uv;rw [aD _ _ hk])
theorem VG {n t:Nat} {u:Nat→Option Nat} (h:t<n):(zO n u).set t (-1)=zO n (aI u t none) :=
 rC h (by unfold uv;rw [aC]) (fun k hk=>by unfold uv;rw [aD _ _ hk])
theorem FG {n t:Nat} {Y:aP} {o:M.Op} (h:t<n):(GR n Y).set t (((Y.th t).ops.length:Int)+1)=GR n (M.bG Y t o) :=
 rC h (by simp [M.bG,aP.set,aC]) (fun k hk=>by simp only [M.bG,aP.set,aD _ _ hk])
theorem VH {n cap t m:Nat} {Y:aP}:GR m (M.bD n cap Y t).1=GR m Y:=by unfold GR;simp only [M.uO]
section
variable {σ:Type} {P:M.Plain σ} {tell:σ→List Int} {D:DL} {X:(Nat→Prop)→aP→World→Prop} {A:PL} {S:Nat→Prop} {w0:QW} {w w1:World} {vd vu vs:Value} {Y Y':aP} {ds:List Dd} {us ss:List Int} {c:Nat} {nJ nK nL nM nN nO nP K t:Nat} {u:Nat→Option Nat}
def PS (P:M.Plain σ) (X:(Nat→Prop)→aP→World→Prop) (D:DL) (A:PL) (w0:QW) (K:Nat) (Y:aP) (ds:List Dd) (u:Nat→Option Nat) (c:Nat) (w:World):Prop :=
 ∃ S vd vu vs,PM X D A w0 S vd vu vs Y ds (zO D.n u) (GR D.n Y) c w∧PI P D.n D.cap Y ds u c∧wG D K Y∧c≤K
theorem PS.below (xo:wH P tell D A.tE A.bN X nJ nK nL nM nN nO nP) (h:PS P X D A w0 K Y ds u c w) (hb:Below w.heap.size w w1):PS P X D A w0 K Y ds u c w1:=by
 obtain ⟨S,vd,vu,vs,hm,hp⟩:=h
 exact ⟨S,vd,vu,vs,hm.below xo hb,hp⟩
theorem PS.mono (h:PS P X D A w0 K Y ds u c w) {K':Nat} (hk:K≤K'):PS P X D A w0 K' Y ds u c w:=by
 obtain ⟨S,vd,vu,vs,hm,hp,hl,hc⟩:=h
 exact ⟨S,vd,vu,vs,hm,hp,hl.mono hk,by omega⟩
theorem aAC {w w':World} {a1 a2 a3 a4 a5 a6 o1 o2 o3 o4 o5 o6 b o n:Nat} {v1 v2 v3 v4 v5 v6:Value} (hb:Below w.heap.size w w') (h:w.cell? ⟨a1,o1,none⟩=some v1∧w.cell? ⟨a2,o2,none⟩=some v2∧w.cell? ⟨a3,o3,none⟩=some v3∧w.cell? ⟨a4,o4,none⟩=some v4∧w.cell? ⟨a5,o5,none⟩=some v5∧w.cell? ⟨a6,o6,none⟩=some v6∧w.there b o n) :
  w'.cell? ⟨a1,o1,none⟩=some v1∧w'.cell? ⟨a2,o2,none⟩=some v2∧w'.cell? ⟨a3,o3,none⟩=some v3∧w'.cell? ⟨a4,o4,none⟩=some v4∧w'.cell? ⟨a5,o5,none⟩=some v5∧w'.cell? ⟨a6,o6,none⟩=some v6∧w'.there b o n :=
 ⟨cell_later hb h.1,cell_later hb h.2.1,cell_later hb h.2.2.1,cell_later hb h.2.2.2.1,cell_later hb h.2.2.2.2.1,cell_later hb h.2.2.2.2.2.1,aT hb h.2.2.2.2.2.2⟩
theorem VI {w w':World} {row:Option Nat} {a1 a2 a3 a4 a5 a6 o1 o2 o3 o4 o5 o6 b o:Nat} {v1 v2 v3 v4 v5 v6:Value} (hg:w.grownBy w' row) (n1:some a1≠row) (n2:some a2≠row) (n3:some a3≠row) (n4:some a4≠row) (n5:some a5≠row) (n6:some a6≠row) (n7:some b≠row) (h:w.cell? ⟨a1,o1,none⟩=some v1∧w.cell? ⟨a2,o2,none⟩=some v2∧w.cell? ⟨a3,o3,none⟩=some v3∧w.cell? ⟨a4,o4,none⟩=some v4∧w.cell? ⟨a5,o5,none⟩=some v5∧w.cell? ⟨a6,o6,none⟩=some v6∧w.there b o 1) :
  w'.cell? ⟨a1,o1,none⟩=some v1∧w'.cell? ⟨a2,o2,none⟩=some v2∧w'.cell? ⟨a3,o3,none⟩=some v3∧w'.cell? ⟨a4,o4,none⟩=some v4∧w'.cell? ⟨a5,o5,none⟩=some v5∧w'.cell? ⟨a6,o6,none⟩=some v6∧w'.there b o 1 :=
 ⟨hg.cell h.1 n1,hg.cell h.2.1 n2,hg.cell h.2.2.1 n3,hg.cell h.2.2.2.1 n4,hg.cell h.2.2.2.2.1 n5,hg.cell h.2.2.2.2.2.1 n6,(aBj hg ⟨h.1,h.2.2.2.2.2.2⟩ n7 n1).2⟩
theorem PM.push (xo:wH P tell D A.tE A.bN X nJ nK nL nM nN nO nP) (h:PM X D A w0 S vd vu vs Y ds us ss c w) {W w7:World} (hb:Below w.heap.size w W) (hg:W.grownBy w7 vd.ownBlock) {g gc:Nat} {d:Dd} (ho:w7.ownsRow 0 77 12 (.slice (some ⟨g,0,none⟩) (ds.length+1) gc) (ds.length+1) (sI ds++wI d)) (hat:vd.ownBlock=some g∨g=W.heap.size) :
  PM X D A w0 S (.slice (some ⟨g,0,none⟩) (ds.length+1) gc) vu vs Y (ds++[d]) us ss c (w7.setCell ⟨A.bP,8,none⟩ (.slice (some ⟨g,0,none⟩) (ds.length+1) gc)):=by
 have hz:=hb.size
 have hr:=h.row.lt
 have hx:=h.obj.lt
 obtain ⟨n1,n2,n3,n4,n5,n6,n7,n8⟩:=h.ne
 have hk:∀ k,k<w.heap.size→vd.ownBlock≠some k→w7.heap[k]?=w.heap[k]?:=fun k hk hn=>(hg.block k (by omega) (fun e=>hn e.symm)).trans (hb.block k hk)
 have XZ:∀ k,k<w.heap.size→vd.ownBlock≠some k→k≠g:=fun k hk hn e=>by
  rcases hat with q|q
  ·exact hn (by rw [e];exact q)
  ·omega
 have MG:¬w0.q g:=by
  rcases hat with q|q
  ·exact h.lo.2.2.2 g (.inl q)
  ·exact fun c=>by have:=h.ql g c;have:=h.bl.size;omega
 have hgP:g≠A.bP:=fun e=>XZ A.bP hr n2 e.symm
 have hz7:=hg.size
 have YA:(w7.setCell ⟨A.bP,8,none⟩ (.slice (some ⟨g,0,none⟩) (ds.length+1) gc)).heap.size=w7.heap.size:=by simp [World.setCell]
 have zM:(Value.slice (some ⟨g,0,none⟩) (ds.length+1) gc).ownBlock=some g:=rfl
 have hne:∀ k,S k→k≠A.bP:=fun k hS=>(h.sx k hS).1
 exact {
  row:=(h.row.of_block (hk _ hr n2)).set 8 _
  obj:=(h.obj.of_block (hk _ hx n5)).setOther (Ne.symm n1) _
  x:=xo.stay _ _ _ _ _ h.x (fun k hS=>(cI (hne k hS)).trans (hk k (h.xl k hS) (h.sx k hS).2.2.1)) (fun _ q=>q) (fun k hS=>by rw [YA];have:=h.xl k hS;omega)
  xl:=fun k hS=>by rw [YA];have:=h.xl k hS;omega
  od:=by
   rw [List.length_append,KP]
   have e:sI [d]=wI d:=by simp [sI]
   rw [e]
   exact bZ ho fun k e=>cI (by rw [zM] at e;injection e with e;rw [←e];exact hgP)
  ou:=bZ h.ou fun k e=>(cI (fun q=>n3 (by rw [←q];exact e))).trans (hk k (h.ou.lt k e).2 (fun q=>(n8 k q).1 e))
  os:=bZ h.os fun k e=>(cI (fun q=>n4 (by rw [←q];exact e))).trans (hk k (h.os.lt k e).2 (fun q=>(n8 k q).2 e))
  sx:=fun k hS=>⟨(h.sx k hS).1,(h.sx k hS).2.1,fun e=>by rw [zM] at e;injection e with e;exact XZ k (h.xl k hS) (h.sx k hS).2.2.1 e.symm,(h.sx k hS).2.2.2⟩
  nu:=h.nu
  lo:=⟨h.lo.1,h.lo.2.1,h.lo.2.2.1,fun k e=>by
   rcases e with e|e
   ·rw [zM] at e;injection e with e;rw [←e];exact MG
   ·exact h.lo.2.2.2 k (.inr e)⟩
  ql:=h.ql
  bl:=mB (uP (h.bl.trans (Fr.eW hb)) (U:=fun k=>vd.ownBlock=some k) ⟨hg.os,hg.tape,hg.output,hg.size,fun k hk hn=>hg.block k hk (fun e=>hn e.symm)⟩ (fun q e=>h.lo.2.2.2 q (.inl e))) h.lo.1 _ _}
theorem KR (xo:wH P tell D A.tE A.bN X nJ nK nL nM nN nO nP) (h:PS P X D A w0 K Y ds u c w) (lG:D.n≤64) (ht:t<D.n) (o:M.Op) (hK:K+1≤900000000) :
  Calls Tryz.prog 69 #[.pointer (some ⟨A.bP,0,none⟩),.int .i64 (t:Int),.agg #[.int .i64 o.c,.int .i64 o.a,.int .i64 o.b]] w fun e w'=>e = .returned (.bool true)∧∃ ds' u',PS P X D A w0 (K+1) (VE D.n Y (t:Int) o) ds' u' (c+1) w':=by
 obtain ⟨di,hdi,hdz⟩:=Option.map_eq_some_iff.1 RV
 simp only [Prod.mk.injEq] at hdz
 obtain ⟨hd1,hd2,hd3⟩:=hdz
 have HDI:=aA hdi
 have HD1:=aA hd1
 have HD2:=aA hd2
 have HD3:=aA hd3
 clear hdi hd1 hd2 hd3
 obtain ⟨S,vd,vu,vs,hm,hp,hl,hc⟩:=h
 have hmx:=xo.mBe
 have hcx:=xo.cBe
 have TK:NM D.n (t:Int):=⟨by omega,by omega⟩
 have hdl:ds.length≤100000000000:=by
  have h1:∀ d∈ds,d.t<D.n:=fun d hd=>(hp.lt hd).1
  have h2:=M.qZ D.n K (ds.map Dd.t) (fun k hk=>by obtain ⟨d,hd,e⟩:=List.mem_map.mp hk;rw [←e];exact h1 d hd) (fun k hk=>by rw [←hp.ln k hk];exact hl.1 k hk)
  rw [List.length_map] at h2
  have:D.n*K≤64*K:=Nat.mul_le_mul_right _ lG
  omega
 have hw:IntKind.i64.wrap ((c:Int)+1)=(c:Int)+1:=dP _ (by omega) (by omega)
 go_enter Tryz.func69,Tryz.ntmps69
 go_upto_region 1 with fail
 generalize hW:World.alloc w _=W
 have hb:Below w.heap.size w W:=by rw [←hW];exact aB w _
 have hr:Row W w.heap.size 36 [.int .i64 o.c,.int .i64 o.a,.int .i64 o.b]:=by rw [←hW];exact Row.new' rfl
 have hbP:w.heap.size≠A.bP:=by have:=hm.row.lt;omega
 have AA:=hm.below xo hb
 have p11:W.cell? ⟨A.bP,11,none⟩=some (.int .i64 (c:Int)):=AA.row.cell_of rfl
 have q11:=AA.row.frozen 11
 have hm2:=AA.aDu xo (c+1) ((c:Int)+1) (by push_cast;rfl)
 have FH:=hr.setOther (a:=⟨A.bP,11,none⟩) hbP (.int .i64 ((c:Int)+1))
 have YA:=hm.xl
 have HX:=aA xo
 have HP:=aA hp
 have HL:=aA hl
 have RX:=aA hm2
 have ZL:=aA FH
 clear hW hr hb hm AA hm2 FH xo hp hl
 go_upto_region 2 with fail
 generalize kE:World.setCell W ⟨A.bP,11,none⟩ (.int .i64 ((c:Int)+1))=W2 at *
 have EB:w.heap.size<W2.heap.size:=ZL.out.lt
 have d0:W2.cell? ⟨A.bP,0,none⟩=some (.pointer (some ⟨A.bX,0,none⟩)):=RX.out.row.cell_of (i:=0) rfl
 have dx:W2.cell? ⟨A.bX,0,none⟩=some (.iface A.tE (.pointer (some ⟨A.bN,0,none⟩))):=RX.out.obj.cell_of (i:=0) rfl
 have b0:=ZL.out.cell_of (i:=0) rfl
 have b1:=ZL.out.cell_of (i:=1) rfl
 have b2:=ZL.out.cell_of (i:=2) rfl
 have hdr:Below W2.heap.size W2 W2.drew:=Below.drew (Below.refl _ _)
 have YB:=aA (RX.out.below HX.out hdr)
 have HBX:=aA (HX.out.be _ _ _ (t:Int) o YB.out.x)
 have hnS:¬S w.heap.size:=fun q=>by have:=YA _ q;omega
 have aDx:=aA (show ∀ w3,XY X S W2.drew (VE D.n Y (t:Int) o) w3→Row w3 w.heap.size 36 [.int .i64 o.c,.int .i64 o.a,.int .i64 o.b]∧PM X D A w0 (Grow S W2.drew w3) vd vu vs (VE D.n Y (t:Int) o) ds (zO D.n u) (GR D.n Y) (c+1) w3 from fun w3 hg=>⟨ZL.out.of_block (hg.fr.block _ EB hnS),YB.out.RT HX.out hg⟩)
 clear p11 q11 kE hdr
 refine fR (S:=(fun w'=>w'.cell? ⟨A.bP,0,none⟩=some (.pointer (some ⟨A.bX,0,none⟩))∧w'.cell? ⟨A.bX,0,none⟩=some (.iface A.tE (.pointer (some ⟨A.bN,0,none⟩)))∧w'.cell? ⟨w.heap.size,0,none⟩=some (.int .i64 o.c)∧w'.cell? ⟨w.heap.size,1,none⟩=some (.int .i64 o.a)∧w'.cell? ⟨w.heap.size,2,none⟩=some (.int .i64 o.b))) 11 rfl (by kernel_rfl) ?_ (fun hHeld=>?_)
 ·exact ⟨d0,dx,b0,b1,b2⟩
 iterate 9 (refine tk 10 (by rfl) (by kernel_rfl) (by exact fun _ _ _ h=>h) (.inl ⟨by rfl,fun w hS=>by (try dsimp only at hS);go_simp;(try with_reducible rfl)⟩) (by assumption) ?_;try go_frame)
 refine bQ 9 (by rfl) (by kernel_rfl) (fun K hK=>?_)
 go_simp
 refine HBX.out.mono ?_
 rintro e w3 ⟨rfl,hg⟩
 obtain ⟨r3,r1⟩:=aDx.out w3 hg
 clear hg
 go_wp2_with fail
 refine hK.out _ _ ?_ (fun hHeld=>?_)
 ·exact ⟨r1.row.cell_of rfl,r1.obj.cell_of rfl,r3.cell_of rfl,r3.cell_of rfl,r3.cell_of rfl⟩
 clear hK K
 (try go_frame)
 iterate 1 (refine tk 10 (by rfl) (by kernel_rfl) (by exact fun _ _ _ h=>h) (.inl ⟨by rfl,fun w hS=>by (try dsimp only at hS);go_simp;(try with_reducible rfl)⟩) (by assumption) ?_;try go_frame)
 refine wpAnyH_done (by kernel_rfl) ?_ _
 clear hHeld d0 dx b0 b1 b2 hmx hcx HBX aDx RX YB hnS
 have YC:(ints (zO D.n u))[t]?=some (.int .i64 (uv u t)):=rS (gM ht)
 obtain ⟨gu,cu,rfl,cut⟩:=gA r1.ou YC
 have e9:w3.cell? ⟨A.bP,9,none⟩=some (.slice (some ⟨gu,0,none⟩) (zO D.n u).length cu):=r1.row.cell_of rfl
 have YE:(zO D.n u).length=D.n:=by simp [zO]
 have nQ:(0:Int)≤(t:Int):=by omega
 have iZ:(t:Int)<((zO D.n u).length:Int):=by omega
 by_cases tG:(Y.th t).part=0
 ·have hu0:u t=none:=(HP.out.un t ht).2 tG
  have VJ:uv u t = -1:=by unfold uv;rw [hu0]
  have ebe:beE D.n Y (t:Int)=0:=by unfold beE;rw [if_pos TK,Int.toNat_natCast,if_pos tG]
  have ebY:VE D.n Y (t:Int) o=M.bG Y t o:=by unfold VE;rw [if_pos TK,Int.toNat_natCast,if_pos tG]
  rw [VJ] at cut
  rw [ebe]
  rw [ebY] at r1
  have EBY:=aA ebY
  clear ebY ebe VJ
  have fu:=fD r1.ou (g:=gu) rfl t
  have e8:w3.cell? ⟨A.bP,8,none⟩=some vd:=r1.row.cell_of rfl
  obtain ⟨⟨va,vc,rfl⟩,-⟩:=fJ r1.od
  have ZM:gu≠w.heap.size:=fun q=>iV r1.ou r3 (by decide) (by rw [q];rfl)
  have HM4:=aA (r1.aDv HX.out (g:=gu) rfl t (ds.length:Int))
  have HR4:=aA (r3.setOther (a:=⟨gu,t,none⟩) (Ne.symm ZM) (.int .i64 (ds.length:Int)))
  clear r1 r3
  go_upto_region 5 with fail
  go_region
  generalize yY:World.drew _=W5
  have EE:=aA (show PM X D A w0 _ _ _ _ _ _ _ _ _ W5 by rw [←yY];exact HM4.out.below HX.out (Below.drew (Below.refl _ _)))
  have TL:=aA (show Row W5 w.heap.size 36 [.int .i64 o.c,.int .i64 o.a,.int .i64 o.b] by rw [←yY];exact HR4.out.old (Below.drew (Below.refl _ _)))
  clear yY e9 cut fu e8 HM4 HR4
  have hst:(ints (GR D.n Y))[t]?=some (.int .i64 ((Y.th t).ops.length:Int)):=rS (gM ht)
  obtain ⟨gs,cs,rfl,cst⟩:=gA EE.out.os hst
  have EL:(GR D.n Y).length=D.n:=by simp [GR]
  have hs1:(t:Int)<((GR D.n Y).length:Int):=by omega
  have VK:W5.cell? ⟨A.bP,10,none⟩=some (.slice (some ⟨gs,0,none⟩) (GR D.n Y).length cs):=EE.out.row.cell_of rfl
  have YF:W5.cell? ⟨A.bP,11,none⟩=some (.int .i64 ((c:Int)+1)):=EE.out.row.cell_of rfl
  have HE8:=aA (show W5.cell? ⟨A.bP,8,none⟩=some (.slice va ds.length vc) from EE.out.row.cell_of rfl)
  have th8:W5.there A.bP 8 1:=EE.out.row.there (by simp [ZJ])
  have b0:=TL.out.cell_of (i:=0) rfl
  have b1:=TL.out.cell_of (i:=1) rfl
  have b2:=TL.out.cell_of (i:=2) rfl
  obtain ⟨-,n2,-,n4,-,-,-,n8⟩:=EE.out.ne
  have RY:some A.bP≠(Value.slice va ds.length vc).ownBlock:=fun q=>n2 q.symm
  have RZ:some w.heap.size≠(Value.slice va ds.length vc).ownBlock:=fun q=>iV EE.out.od TL.out (by decide) q.symm
  have EK:some gs≠(Value.slice va ds.length vc).ownBlock:=fun q=>(n8 gs q.symm).2 rfl
  have hPs:gs≠A.bP:=fun q=>n4 (by rw [←q];rfl)
  have hsz:(Tryz.prog.info? 67).map (·.size)=some 1:=by kernel_rfl
  have HOW:=aA EE.out.od
  go_upto_region 6 with fail
  refine fR (S:=(fun w'=>w'.cell? ⟨w.heap.size,0,none⟩=some (.int .i64 o.c)∧w'.cell? ⟨w.heap.size,1,none⟩=some (.int .i64 o.a)∧w'.cell? ⟨w.heap.size,2,none⟩=some (.int .i64 o.b)∧w'.cell? ⟨A.bP,10,none⟩=some (.slice (some ⟨gs,0,none⟩) (GR D.n Y).length cs)∧w'.cell? ⟨gs,t,none⟩=some (.int .i64 ((Y.th t).ops.length:Int))∧w'.cell? ⟨A.bP,11,none⟩=some (.int .i64 ((c:Int)+1))∧w'.there A.bP 8 1)) 24 rfl (by kernel_rfl) ?_ (fun hHeld=>?_)
  ·exact ⟨b0,b1,b2,VK,cst,YF,th8⟩
  iterate 4 (refine tk 23 (by rfl) (by kernel_rfl) (by exact fun _ _ _ h=>h) (.inl ⟨by rfl,fun w hS=>by (try dsimp only at hS);go_simp;(try with_reducible rfl)⟩) (by assumption) ?_;try go_frame)
  iterate 14 (refine tk 24 (by rfl) (by kernel_rfl) (by exact fun _ _ _ h=>h) (.inl ⟨by rfl,fun w hS=>by (try dsimp only at hS);go_simp;(try with_reducible rfl)⟩) (by assumption) ?_;try go_frame)
  refine wpAnyH_ready (rs:=[4,19]) (by kernel_rfl) (by simp) (rc (by rfl) (fun K hK=>?_) (rc (by rfl) (fun K hK=>?_) AllReadyH.nil))
  ·rw [if_pos (by rfl)]
   refine mQ _ _ rfl _ _ (.slice va ds.length vc) rfl (by kernel_rfl) (by refine cell_later ?_ HE8.out;repeat (first|exact Below.refl _ _|refine Below.drew ?_|refine Below.alloc ?_ (by first|(simp;done)|(simp;omega)) _)) ?_
   refine hK.out _ _ ?_ (fun hHeld=>?_)
   ·exact hHeld
   clear hK K
   (try go_frame)
   refine bQ 19 (by rfl) (by kernel_rfl) (fun K hK=>?_)
   go_simp
   refine hK.out _ _ ?_ (fun hHeld=>?_)
   ·exact aAC (aB _ _) hHeld
   clear hK K
   (try go_frame)
   refine bQ 20 (by rfl) (by kernel_rfl) (fun K hK=>?_)
   refine step_append_lies _ rfl (.tmp 50) (.tmp 65) 67 rfl 0 77 di (.agg #[.int .i64 0,.int .i64 0,.int .i64 0,.int .i64 0,.int .i64 0,.int .i64 0,.int .i64 0,.int .i64 0,.int .i64 0,.int .i64 0,.int .i64 0,.int .i64 0]) 12 96 Tryz.underlying67 HDI.out HD1.out HD2.out HD3.out rfl (by decide) (.slice va ds.length vc) ds.length (sI ds) rfl ?_ ⟨W5.heap.size,0,none⟩ 1 1 [.int .i64 o.c,.int .i64 o.a,.int .i64 o.b,.int .i64 (t:Int),.int .i64 ((Y.th t).ops.length:Int),.int .i64 ((c:Int)+1),.int .i64 0,.int .i64 0,.int .i64 0,.int .i64 0,.int .i64 0,.int .i64 0] rfl rfl ?_ (by simp [Value.oneCell']) (by decide) (by unfold maxLen;omega) (by omega) (Nat.zero_le _) _ rfl ?_
   ·exact HOW.out.alloc _
   ·exact World.news_of_block (Row.new' (by simp))
   intro g gc w4 hown mR hat tF
   have HO:=aA hown
   have HG:=aA mR
   have HA:=aA hat
   clear hown mR hat tF
   refine hK.out _ _ ?_ (fun hHeld=>?_)
   ·exact VI HG.out RZ RZ RZ RY EK RY RY hHeld
   clear hK K
   (try go_frame)
   iterate 2 (refine tk 23 (by rfl) (by kernel_rfl) (by exact fun _ _ _ h=>h) (.inl ⟨by rfl,fun w hS=>by (try dsimp only at hS);go_simp;(try with_reducible rfl)⟩) (by assumption) ?_;try go_frame)
   refine bQ 23 (by rfl) (by kernel_rfl) (fun K hK=>?_)
   rw [if_pos (by rfl)]
   refine aU _ _ _ rfl A.bP 8 (.slice (some ⟨g,0,none⟩) (ds.length+1) gc) rfl rfl rfl rfl hHeld.2.2.2.2.2.2 hsz ?_
   refine hK.out _ _ ?_ (fun hHeld=>?_)
   ·exact ⟨aH hHeld.1 (.inl hbP),aH hHeld.2.1 (.inl hbP),aH hHeld.2.2.1 (.inl hbP),aH hHeld.2.2.2.1 (.inr (by dsimp only;omega)),aH hHeld.2.2.2.2.1 (.inl hPs),aH hHeld.2.2.2.2.2.1 (.inr (by dsimp only;omega)),cR hHeld.2.2.2.2.2.2 _ rfl _⟩
   clear hK K
   (try go_frame)
   refine wpAnyH_done (by kernel_rfl) ?_ _
   have VL:Below W5.heap.size W5 (World.drew (World.alloc W5 (.cells #[.int .i64 o.c,.int .i64 o.a,.int .i64 o.b,.int .i64 (t:Int),.int .i64 ((Y.th t).ops.length:Int),.int .i64 ((c:Int)+1),.int .i64 0,.int .i64 0,.int .i64 0,.int .i64 0,.int .i64 0,.int .i64 0] 77))):=Below.drew (aB W5 _)
   have FI:=aA (EE.out.push HX.out (d:=⟨o,t,(Y.th t).ops.length,c+1,0,0,0,0,⟨0,0⟩⟩) VL HG.out HO.out HA.out)
   clear hHeld HG HA HO VL VK YF cst th8 b0 b1 b2 HOW HE8 EE TL
   generalize World.setCell w4 ⟨A.bP,8,none⟩ (.slice (some ⟨g,0,none⟩) (ds.length+1) gc)=W7 at *
   have VK:W7.cell? ⟨A.bP,10,none⟩=some (.slice (some ⟨gs,0,none⟩) (GR D.n Y).length cs):=FI.out.row.cell_of rfl
   obtain ⟨gs',cs',q1,cst⟩:=gA FI.out.os hst
   injection q1 with q1 _ _
   injection q1 with q1
   injection q1 with q1
   subst q1
   have fs:=fD FI.out.os (g:=gs) rfl t
   have hol:(Y.th t).ops.length≤900000000:=by have:=HL.out.1 t ht;omega
   have hws:IntKind.i64.wrap (((Y.th t).ops.length:Int)+1)=((Y.th t).ops.length:Int)+1:=dP _ (by omega) (by omega)
   have HM8:=aA (FI.out.aDw HX.out (g:=gs) rfl t (((Y.th t).ops.length:Int)+1))
   clear FI
   go_upto_region 7 with fail
   go_region
   generalize hW9:World.drew _=W9
   have HM9:=aA (show PM X D A w0 _ _ _ _ _ _ _ _ _ W9 by rw [←hW9];exact HM8.out.below HX.out (Below.drew (Below.refl _ _)))
   clear hW9 VK cst fs HM8
   go_wp2
   go_ret
   rw [EBY.out]
   have hM9:=HM9.out
   rw [QB ht,FG (o:=o) ht] at hM9
   exact ⟨rfl,_,_,⟨_,_,_,_,hM9,HP.out.begin ht tG o,HL.out.begin t o,by omega⟩⟩
  ·go_simp
   refine hK.out _ _ ?_ (fun hHeld=>?_)
   ·exact aAC (aB _ _) hHeld
   clear hK K
   (try go_frame)
   refine bQ 4 (by rfl) (by kernel_rfl) (fun K hK=>?_)
   rw [if_pos (by rfl)]
   refine mQ _ _ rfl _ _ (.slice va ds.length vc) rfl (by kernel_rfl) (by refine cell_later ?_ HE8.out;repeat (first|exact Below.refl _ _|refine Below.drew ?_|refine Below.alloc ?_ (by first|(simp;done)|(simp;omega)) _)) ?_
   refine hK.out _ _ ?_ (fun hHeld=>?_)
   ·exact hHeld
   clear hK K
   (try go_frame)
   refine bQ 20 (by rfl) (by kernel_rfl) (fun K hK=>?_)
   refine step_append_lies _ rfl (.tmp 50) (.tmp 65) 67 rfl 0 77 di (.agg #[.int .i64 0,.int .i64 0,.int .i64 0,.int .i64 0,.int .i64 0,.int .i64 0,.int .i64 0,.int .i64 0,.int .i64 0,.int .i64 0,.int .i64 0,.int .i64 0]) 12 96 Tryz.underlying67 HDI.out HD1.out HD2.out HD3.out rfl (by decide) (.slice va ds.length vc) ds.length (sI ds) rfl ?_ ⟨W5.heap.size,0,none⟩ 1 1 [.int .i64 o.c,.int .i64 o.a,.int .i64 o.b,.int .i64 (t:Int),.int .i64 ((Y.th t).ops.length:Int),.int .i64 ((c:Int)+1),.int .i64 0,.int .i64 0,.int .i64 0,.int .i64 0,.int .i64 0,.int .i64 0] rfl rfl ?_ (by simp [Value.oneCell']) (by decide) (by unfold maxLen;omega) (by omega) (Nat.zero_le _) _ rfl ?_
   ·exact HOW.out.alloc _
   ·exact World.news_of_block (Row.new' (by simp))
   intro g gc w4 hown mR hat tF
   have HO:=aA hown
   have HG:=aA mR
   have HA:=aA hat
   clear hown mR hat tF
   refine hK.out _ _ ?_ (fun hHeld=>?_)
   ·exact VI HG.out RZ RZ RZ RY EK RY RY hHeld
   clear hK K
   (try go_frame)
   iterate 2 (refine tk 23 (by rfl) (by kernel_rfl) (by exact fun _ _ _ h=>h) (.inl ⟨by rfl,fun w hS=>by (try dsimp only at hS);go_simp;(try with_reducible rfl)⟩) (by assumption) ?_;try go_frame)
   refine bQ 23 (by rfl) (by kernel_rfl) (fun K hK=>?_)
   rw [if_pos (by rfl)]
   refine aU _ _ _ rfl A.bP 8 (.slice (some ⟨g,0,none⟩) (ds.length+1) gc) rfl rfl rfl rfl hHeld.2.2.2.2.2.2 hsz ?_
   refine hK.out _ _ ?_ (fun hHeld=>?_)
   ·exact ⟨aH hHeld.1 (.inl hbP),aH hHeld.2.1 (.inl hbP),aH hHeld.2.2.1 (.inl hbP),aH hHeld.2.2.2.1 (.inr (by dsimp only;omega)),aH hHeld.2.2.2.2.1 (.inl hPs),aH hHeld.2.2.2.2.2.1 (.inr (by dsimp only;omega)),cR hHeld.2.2.2.2.2.2 _ rfl _⟩
   clear hK K
   (try go_frame)
   refine wpAnyH_done (by kernel_rfl) ?_ _
   have VL:Below W5.heap.size W5 (World.drew (World.alloc W5 (.cells #[.int .i64 o.c,.int .i64 o.a,.int .i64 o.b,.int .i64 (t:Int),.int .i64 ((Y.th t).ops.length:Int),.int .i64 ((c:Int)+1),.int .i64 0,.int .i64 0,.int .i64 0,.int .i64 0,.int .i64 0,.int .i64 0] 77))):=Below.drew (aB W5 _)
   have FI:=aA (EE.out.push HX.out (d:=⟨o,t,(Y.th t).ops.length,c+1,0,0,0,0,⟨0,0⟩⟩) VL HG.out HO.out HA.out)
   clear hHeld HG HA HO VL VK YF cst th8 b0 b1 b2 HOW HE8 EE TL
   generalize World.setCell w4 ⟨A.bP,8,none⟩ (.slice (some ⟨g,0,none⟩) (ds.length+1) gc)=W7 at *
   have VK:W7.cell? ⟨A.bP,10,none⟩=some (.slice (some ⟨gs,0,none⟩) (GR D.n Y).length cs):=FI.out.row.cell_of rfl
   obtain ⟨gs',cs',q1,cst⟩:=gA FI.out.os hst
   injection q1 with q1 _ _
   injection q1 with q1
   injection q1 with q1
   subst q1
   have fs:=fD FI.out.os (g:=gs) rfl t
   have hol:(Y.th t).ops.length≤900000000:=by have:=HL.out.1 t ht;omega
   have hws:IntKind.i64.wrap (((Y.th t).ops.length:Int)+1)=((Y.th t).ops.length:Int)+1:=dP _ (by omega) (by omega)
   have HM8:=aA (FI.out.aDw HX.out (g:=gs) rfl t (((Y.th t).ops.length:Int)+1))
   clear FI
   go_upto_region 7 with fail
   go_region
   generalize hW9:World.drew _=W9
   have HM9:=aA (show PM X D A w0 _ _ _ _ _ _ _ _ _ W9 by rw [←hW9];exact HM8.out.below HX.out (Below.drew (Below.refl _ _)))
   clear hW9 VK cst fs HM8
   go_wp2
   go_ret
   rw [EBY.out]
   have hM9:=HM9.out
   rw [QB ht,FG (o:=o) ht] at hM9
   exact ⟨rfl,_,_,⟨_,_,_,_,hM9,HP.out.begin ht tG o,HL.out.begin t o,by omega⟩⟩
 ·obtain ⟨i,hui⟩:∃ i,u t=some i:=by
   cases q:u t with
   |none=>exact (tG ((HP.out.un t ht).1 q)).elim
   |some i=>exact ⟨i,rfl⟩
  have VJ:uv u t=(i:Int):=by unfold uv;rw [hui]
  have ebe:beE D.n Y (t:Int)=4:=by unfold beE;rw [if_pos TK,Int.toNat_natCast,if_neg tG]
  have ebY:VE D.n Y (t:Int) o=Y:=by unfold VE;rw [if_pos TK,Int.toNat_natCast,if_neg tG]
  rw [VJ] at cut
  rw [ebe]
  rw [ebY] at r1
  have EBY:=aA ebY
  clear ebY ebe VJ
  have hi0:(0:Int)≤(i:Int):=by omega
  have HM4:=aA r1
  clear r1 r3
  go_wp2
  go_ret
  rw [EBY.out]
  exact ⟨rfl,ds,u,⟨_,_,_,_,HM4.out,HP.out.tick,HL.out.mono (by omega),by omega⟩⟩
end
namespace M
theorem VM {bs:List (List Nat)} (hb:BOk bs) (h:bs≠[]):∃ l t,tagged (num bs)=l++[(bs.length,t)]:=by
 obtain ⟨cs,p,rfl⟩:∃ cs p,bs=cs++[p]:=by
  rcases List.eq_nil_or_concat bs with q|⟨cs,p,q⟩
  ·exact absurd q h
  ·exact ⟨cs,p,by simpa using q⟩
 rw [rZ,tJ]
 have hp:=(hb p (by simp)).1
 obtain ⟨q,t,rfl⟩:∃ q t,p=q++[t]:=by
  rcases List.eq_nil_or_concat p with c|⟨q,t,c⟩
  ·exact absurd c hp
  ·exact ⟨q,t,by simpa using c⟩
 exact ⟨tagged (num cs)++q.map fun t=>(cs.length+1,t),t,by simp⟩
theorem NN {Y:aP} (hb:BOk Y.bs):(Y.bs.length=0→Y.order.length=0)∧(Y.bs.length≠0→∃ k,Y.order.length=k+1∧∃ m,Y.order[k]?=some m∧m.b=Y.bs.length):=by
 refine ⟨fun h=>?_,fun h=>?_⟩
 ·have:Y.bs=[]:=List.length_eq_zero_iff.mp h
  unfold aP.order aP.all
  rw [this];rfl
 ·obtain ⟨l,t,e⟩:=VM hb (fun q=>h (by rw [q];rfl))
  unfold aP.order aP.all
  rw [e,BJ,List.length_append]
  exact ⟨(marks l).length,by simp,_,by rw [List.getElem?_append_right (Nat.le_refl _)];simp;rfl,rfl⟩
end M
section
variable {σ:Type} {P:M.Plain σ} {tell:σ→List Int} {D:DL} {X:(Nat→Prop)→aP→World→Prop} {A:PL} {S:Nat→Prop} {w0:QW} {w w1:World} {vd vu vs:Value} {Y Y':aP} {ds:List Dd} {us ss:List Int} {c:Nat} {nJ nK nL nM nN nO nP K t:Nat} {u:Nat→Option Nat}
theorem FJ (xo:wH P tell D A.tE A.bN X nJ nK nL nM nN nO nP) (c0:w.cell? ⟨A.bP,0,none⟩=some (.pointer (some ⟨A.bX,0,none⟩))) (cx:w.cell? ⟨A.bX,0,none⟩=some (.iface A.tE (.pointer (some ⟨A.bN,0,none⟩)))) (hx:X S Y w) (hL:wG D 1000000000 Y) (hb:M.BOk Y.bs) (hz:Y.order.length≤1000000000000) :
  Calls Tryz.prog 39 #[.pointer (some ⟨A.bP,0,none⟩)] w fun e w'=>e = .returned (.int .i64 (Y.bs.length:Int))∧Below w.heap.size w w':=by
 have hm:=xo.mOr
 have hc:=xo.cOr
 have HO:=aA (xo.or _ _ _ hx hL)
 have YG:=aA (M.NN hb)
 clear hx xo hL hb
 go_enter Tryz.func39,Tryz.ntmps39
 go_wp2_with fail
 refine HO.out.mono ?_
 rintro e w1 ⟨va,rfl,ho,kS⟩
 obtain ⟨⟨a,cp,rfl⟩,-⟩:=fJ ho
 have HB:=aA kS
 have HOW:=aA ho
 clear ho kS c0 cx hm hc
 by_cases h0:Y.bs.length=0
 ·have hl:Y.order.length=0:=YG.out.1 h0
  have H0:=aA h0
  rw [hl]
  clear h0 hl
  go_wp2
  go_ret
  exact ⟨by rw [H0.out];rfl,HB.out⟩
 ·obtain ⟨k,hk,m,hm2,hmb⟩:=YG.out.2 h0
  have hkl:k<Y.order.length:=by omega
  have hme:Y.order[k]=m:=(List.getElem?_eq_some_iff.mp hm2).2
  have hg:=(CB Y.order k hkl).1
  rw [hme,hmb] at hg
  obtain ⟨g,cp',e',q⟩:=gA HOW.out hg
  injection e' with e1 _ _
  subst e1
  rw [hk]
  have hw:IntKind.i64.wrap (((k+1:Nat):Int)-1)=(k:Int):=by rw [dP _ (by omega) (by omega)];omega
  have hw2:IntKind.i64.wrap ((k:Int)+1-1)=(k:Int):=by rw [dP _ (by omega) (by omega)];omega
  have hw3:wrap64 (k:Int)=(k:Int):=by unfold wrap64;omega
  have i0:(0:Int)≤(k:Int):=by omega
  have i1:(k:Int)<((k+1:Nat):Int):=by omega
  have i2:(k:Int)<(k:Int)+1:=by omega
  have i3:¬((k:Int)+1=0):=by omega
  have HK:=aA hk
  clear hk hm2 hmb hme hg h0 hkl
  go_wp2
  go_ret
  exact ⟨rfl,HB.out⟩
end
end Go.Proofs.YtefjhnhdagolhaaGreat
