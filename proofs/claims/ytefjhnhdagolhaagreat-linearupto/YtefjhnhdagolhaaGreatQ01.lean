import Derived.Test.YtefjhnhdagolhaaGreatQ00
namespace Go.Proofs.YtefjhnhdagolhaaGreat.M
def aI {α:Type} (f:Nat→α) (i:Nat) (v:α):Nat→α:=fun k=>if k=i then v else f k
theorem aC {α:Type} (f:Nat→α) (i:Nat) (v:α):aI f i v i=v:=by simp [aI]
theorem aD {α:Type} (f:Nat→α) {i k:Nat} (v:α) (h:k≠i):aI f i v k=f k:=by simp [aI,h]
structure Op where
 c:Int
 a:Int
 b:Int
def Op.w (o:Op) (i:Nat):Int:=if i=0 then o.c else if i=1 then o.a else o.b
structure TF where
 s:Int
 v:Int
structure Plain (σ:Type) where
 first:σ
 apply:σ→Op→σ×TF
structure cY (σ:Type) where
 st:σ
 bs:List (Nat×List Nat)
structure aS (σ:Type) where
 phase:Nat
 past:Nat
 op:Op
 cQ:Bool
 aG:Nat
 again:Bool
 spare:Nat
 kept:Nat
 stamp:Nat
 aR:Nat
 dw:Nat→Int
 now:Option (cY σ)
 cD:Option (cY σ)
 tg:Nat→Int
 aJ:List Nat
 heard:Nat→Int
 found:Nat
 yA:Int
 val:Int
 ended:Bool
structure aK (σ:Type) where
 bC:Nat→Int
 eH:Nat→Nat→Int
 rw:Nat→Nat→Int
 eX:Nat→Option (cY σ×cY σ)
 cZ:Nat
 prec:Nat
 th:Nat→aS σ
def tw (n:Nat):Nat:=(n+15) / 16
def aQ (n:Nat):Nat:=tw n+2*n
def aL (n t:Nat):Nat:=tw n+t
def aN (n t:Nat):Nat:=tw n+n+t
def lA (f:Nat→Int) (t:Nat):Bool:=decide ((f (t / 16) / 2 ^ (t % 16)) % 2=1)
section
variable {σ:Type}
def aS.enter (e:aS σ) (p:Nat):aS σ:={e with phase:=p,past:=0}
def aS.pass (e:aS σ) (steps next:Nat):aS σ:=if e.past+1=steps then e.enter next else {e with past:=e.past+1}
def aS.bK (e:aS σ):aS σ:=if 0<e.aG then e.enter 3 else e.enter 4
def aS.fail (e:aS σ) (cap:Nat):aS σ:=if e.again then aS.enter {e with aG:=min (2*e.aG+1) cap} 11 else aS.bK {e with aG:=min (2*e.aG+1) cap,again:=true}
def aS.waiting (e:aS σ) (n:Nat):List Nat:=(List.range n).filter fun i=>lA e.tg i != lA e.dw i
def fS (h:Nat→Int):Op:=⟨h 0,h 1,h 2⟩
def aS.apply (P:Plain σ) (n:Nat) (e:aS σ) (k:Nat):aS σ :=
 match e.now with
 |none=>e
 |some v=>{e with now:=some {v with st:=(P.apply v.st (fS e.heard)).1},dw:=aI (aI e.dw (aL n k) (P.apply v.st (fS e.heard)).2.s) (aN n k) (P.apply v.st (fS e.heard)).2.v}
def aS.close (n:Nat) (e:aS σ):aS σ :=
 {e with dw:=fun i=>if i<tw n then e.tg i else e.dw i,now:=e.now.map fun v=>{v with bs:=(e.cD.map cY.bs).getD []++[(e.stamp+1,e.aJ)]}}
def step (P:Plain σ) (n cap:Nat) (E:aK σ) (t:Nat):aK σ :=
 let e:=E.th t
 match e.phase with
 |1=>{E with eH:=aI E.eH t (aI (E.eH t) e.past (e.op.w e.past)),th:=aI E.th t (e.pass 3 2)}
 |2=>{E with bC:=aI E.bC (t / 16) (E.bC (t / 16)+(if e.cQ then -(2 ^ (t % 16)) else 2 ^ (t % 16))),th:=aI E.th t (aS.bK {e with cQ:=!e.cQ})}
 |3=>{E with th:=aI E.th t (e.pass e.aG 4)}
 |4=>{E with th:=aI E.th t (aS.enter {e with stamp:=E.cZ,aR:=E.prec} 5)}
 |5=>{E with th:=aI E.th t (aS.pass (if e.past<aQ n then {e with dw:=aI e.dw e.past (E.rw e.aR e.past)} else {e with now:=(E.eX e.aR).map Prod.fst,cD:=(E.eX e.aR).map Prod.fst}) (aQ n+1) 6)}
 |6=>{E with th:=aI E.th t (aS.pass {e with tg:=aI e.tg e.past (E.bC e.past)} (tw n) 7)}
 |7=>{E with th:=aI E.th t (if E.cZ=e.stamp then aS.enter {e with aJ:=e.waiting n} (if t∈e.waiting n then 8 else 11) else e.fail cap)}
 |8 =>
  let k:=e.aJ.getD (e.past / 3) 0
  let e1:={e with heard:=aI e.heard (e.past % 3) (E.eH k (e.past % 3))}
  let e2:=if e.past % 3=2 then e1.apply P n k else e1
  let e3:=if e.past+1=3*e.aJ.length then e2.close n else e2
  {E with th:=aI E.th t (e3.pass (3*e.aJ.length) 9)}
 |9 =>
  if e.past<aQ n then {E with rw:=aI E.rw e.spare (aI (E.rw e.spare) e.past (e.dw e.past)),th:=aI E.th t (e.pass (aQ n+1) 10)}
  else {E with eX:=aI E.eX e.spare (e.now.bind fun v=>e.cD.map fun f=>(v,f)),th:=aI E.th t (e.pass (aQ n+1) 10)}
 |10 =>
  if E.cZ=e.stamp∧E.prec=e.aR then {E with cZ:=e.stamp+1,prec:=e.spare,th:=aI E.th t (aS.enter {e with spare:=e.kept,kept:=e.spare,aG:=e.aG / 2} 11)}
  else {E with th:=aI E.th t (e.fail cap)}
 |11=>{E with th:=aI E.th t (aS.enter {e with found:=E.prec} 12)}
 |12=>{E with th:=aI E.th t (aS.enter {e with yA:=E.rw e.found (aL n t)} 13)}
 |13=>{E with th:=aI E.th t (aS.enter {e with val:=E.rw e.found (aN n t),ended:=true} 0)}
 |_=>E
def begin (E:aK σ) (t:Nat) (op:Op):aK σ:={E with th:=aI E.th t (aS.enter {E.th t with op:=op,again:=false} 1)}
end
structure bA where
 ops:List Op
 ended:Nat
 aM:Nat
 part:Nat
 left:Nat
 aG:Nat
 tries:Nat
 stamp:Nat
 flipped:Nat→Nat
 aJ:List Nat
structure aP where
 th:Nat→bA
 bs:List (List Nat)
def cnt (bs:List (List Nat)) (k:Nat):Nat:=bs.flatten.count k
def bA.len (n:Nat) (x:bA) (part:Nat):Nat :=
 if part=1∨part=11 then 3 else if part=3 then x.aG else if part=5∨part=9 then aQ n+1 else if part=6 then tw n else if part=8 then 3*x.aJ.length else 1
def bA.enter (n:Nat) (x:bA) (part:Nat):bA :=
 if x.len n part=0 then {x with part:=part+1,left:=x.len n (part+1)} else {x with part:=part,left:=x.len n part}
def bA.fail (n cap:Nat) (x:bA):bA :=
 if x.tries=2 then bA.enter n {x with aG:=min (2*x.aG+1) cap} 11 else bA.enter n {x with aG:=min (2*x.aG+1) cap,tries:=2} 3
def aP.pending (n:Nat) (Y:aP) (x:bA):List Nat:=(List.range n).filter fun k=>decide ((x.flipped k+cnt Y.bs k) % 2=1)
def aP.set (Y:aP) (t:Nat) (x:bA):aP:={Y with th:=aI Y.th t x}
def over (n cap:Nat) (Y:aP) (t:Nat) (x:bA):aP×Bool :=
 match x.part with
 |2=>(Y.set t (bA.enter n {x with aM:=x.aM+1,tries:=1} 3),false)
 |4=>(Y.set t (bA.enter n {x with stamp:=Y.bs.length} 5),false)
 |7=>(Y.set t (if Y.bs.length=x.stamp then bA.enter n {x with aJ:=Y.pending n x} (if t∈Y.pending n x then 8 else 11) else x.fail n cap),false)
 |10=>if Y.bs.length=x.stamp then ({th:=aI Y.th t (bA.enter n {x with aJ:=[],aG:=x.aG / 2} 11),bs:=Y.bs++[x.aJ]},false) else (Y.set t (x.fail n cap),false)
 |11=>(Y.set t {x with part:=0,ended:=x.ended+1},true)
 |p=>(Y.set t (x.enter n (p+1)),false)
def bD (n cap:Nat) (Y:aP) (t:Nat):aP×Bool :=
 let x:=Y.th t
 let x1:={x with left:=x.left-1,flipped:=if x.part=6 then fun k=>if k / 16=tw n-(x.left-1)-1∧k<n then (Y.th k).aM else x.flipped k else x.flipped}
 if 0<x.left-1 then (Y.set t x1,false) else over n cap Y t x1
def bG (Y:aP) (t:Nat) (op:Op):aP:=Y.set t {Y.th t with ops:=(Y.th t).ops++[op],tries:=0,part:=1,left:=3}
def val (d:Nat→Nat):Nat→Nat
 |0=>0
 |m+1=>val d m+d m*2 ^ m
theorem MK {d:Nat→Nat} (h:∀ i,d i≤1):∀ m,val d m<2 ^ m
 |0=>by simp [val]
 |m+1=>by
  have h1:=MK h m
  have h2:d m*2 ^ m≤1*2 ^ m:=Nat.mul_le_mul_right _ (h m)
  simp only [val,Nat.pow_succ]
  omega
theorem PO {d:Nat→Nat} (h:∀ i,d i≤1):∀ (m j:Nat),j<m→val d m / 2 ^ j % 2=d j
 |0,j,hj=>absurd hj (Nat.not_lt_zero _)
 |m+1,j,hj=>by
  simp only [val]
  by_cases e:j=m
  ·subst e
   rw [Nat.add_mul_div_right _ _ (Nat.two_pow_pos j),Nat.div_eq_of_lt (MK h j),Nat.zero_add,Nat.mod_eq_of_lt (by have:=h j;omega)]
  ·have hjm:j<m:=by omega
   obtain ⟨q,rfl⟩:∃ q,m=j+1+q:=⟨m-j-1,by omega⟩
   rw [show d (j+1+q)*2 ^ (j+1+q)=(d (j+1+q)*2 ^ q*2)*2 ^ j by rw [Nat.pow_add,Nat.pow_succ];ac_rfl,Nat.add_mul_div_right _ _ (Nat.two_pow_pos j),Nat.add_mod,Nat.mul_mod_left,Nat.add_zero,Nat.mod_mod]
   exact PO h (j+1+q) j (by omega)
theorem val_congr {d d':Nat→Nat}:∀ (m:Nat),(∀ i,i<m→d i=d' i)→val d m=val d' m
 |0,_=>rfl
 |m+1,h=>by simp only [val];rw [val_congr m (fun i hi=>h i (by omega)),h m (by omega)]
theorem PR (d:Nat→Nat) (j v:Nat):∀ m,j<m→(val (aI d j v) m:Int)=(val d m:Int)+((v:Int)-(d j:Int))*2 ^ j
 |0,h=>absurd h (Nat.not_lt_zero _)
 |m+1,h=>by
  simp only [val]
  by_cases e:j=m
  ·subst e
   rw [val_congr (d':=d) j (fun i hi=>aD _ _ (by omega)),aC]
   push_cast
   rw [Int.sub_mul]
   omega
  ·have:=PR d j v m (by omega)
   rw [aD _ _ (Ne.symm e)]
   push_cast
   rw [this]
   omega
def MB (n:Nat) (f:Nat→Nat) (w i:Nat):Nat:=if 16*w+i<n then f (16*w+i) % 2 else 0
def bits (n:Nat) (f:Nat→Nat) (w:Nat):Int:=(val (MB n f w) 16:Nat)
theorem TZ (n:Nat) (f:Nat→Nat) (w i:Nat):MB n f w i≤1:=by unfold MB;split<;>omega
theorem tI (n:Nat) (f:Nat→Nat) (w:Nat):0≤bits n f w:=by unfold bits;omega
theorem FY (n:Nat) (f:Nat→Nat) (w:Nat):bits n f w<65536:=by
 have:=MK (TZ n f w) 16
 unfold bits
 omega
theorem yU (n:Nat) (f:Nat→Nat) (g:Nat→Int) (t:Nat) (ht:t<n) (hg:g (t / 16)=bits n f (t / 16)):lA g t=decide (f t % 2=1):=by
 have h:=PO (TZ n f (t / 16)) 16 (t % 16) (Nat.mod_lt _ (by decide))
 unfold lA
 rw [hg]
 have e:(bits n f (t / 16) / 2 ^ (t % 16)) % 2=((val (MB n f (t / 16)) 16 / 2 ^ (t % 16) % 2:Nat):Int):=by unfold bits;push_cast;rfl
 rw [e,h]
 unfold MB
 have e2:16*(t / 16)+t % 16=t:=by omega
 rw [e2,if_pos ht]
 by_cases q:f t % 2=1<;>simp [q]<;>omega
theorem rX {n:Nat} {f g:Nat→Nat} {w:Nat} (h:∀ k,k / 16=w→k<n→f k % 2=g k % 2):bits n f w=bits n g w:=by
 unfold bits
 rw [val_congr 16 (d':=MB n g w)]
 intro i hi
 unfold MB
 split
 ·rename_i q;exact h _ (by omega) q
 ·rfl
theorem RA (n:Nat) (f:Nat→Nat) (t:Nat) (ht:t<n):bits n (aI f t (f t+1)) (t / 16)=bits n f (t / 16)+(if f t % 2=1 then -(2 ^ (t % 16)) else 2 ^ (t % 16)):=by
 have e2:16*(t / 16)+t % 16=t:=by omega
 have h1:val (MB n (aI f t (f t+1)) (t / 16)) 16=val (aI (MB n f (t / 16)) (t % 16) ((f t+1) % 2)) 16:=by
  apply val_congr
  intro i hi
  unfold MB aI
  by_cases q:i=t % 16
  ·subst q;simp [e2,ht]
  ·rw [if_neg q]
   have:¬(16*(t / 16)+i=t):=by omega
   simp [this]
 have h2:=PR (MB n f (t / 16)) (t % 16) ((f t+1) % 2) 16 (Nat.mod_lt _ (by decide))
 have h3:MB n f (t / 16) (t % 16)=f t % 2:=by unfold MB;rw [e2,if_pos ht]
 unfold bits
 rw [h1,h2,h3]
 by_cases q:f t % 2=1
 ·rw [if_pos q,q,show (f t+1) % 2=0 by omega];simp
 ·rw [if_neg q,show f t % 2=0 by omega,show (f t+1) % 2=1 by omega];simp
theorem ML (n:Nat) (f:Nat→Nat) (t v w:Nat) (hw:w≠t / 16):bits n (aI f t v) w=bits n f w:=by
 apply rX
 intro k hk _
 rw [aD]
 rintro rfl
 exact hw hk.symm
theorem MM (bs:List (List Nat)) (p:List Nat) (k:Nat):cnt (bs++[p]) k=cnt bs k+p.count k:=by simp [cnt]
theorem pY (bs:List (List Nat)) (s k:Nat):cnt (bs.take s) k≤cnt bs k:=by
 have e:cnt bs k=cnt (bs.take s) k+cnt (bs.drop s) k:=by
  unfold cnt
  rw [←List.count_append,←List.flatten_append,List.take_append_drop]
 omega
theorem EF (bs:List (List Nat)) {s s':Nat} (h:s≤s') (k:Nat):cnt (bs.take s) k≤cnt (bs.take s') k:=by
 have:bs.take s=(bs.take s').take s:=by rw [List.take_take,Nat.min_eq_left h]
 rw [this]
 exact pY _ _ _
theorem rY (bs:List (List Nat)) {s:Nat} (h:bs.length≤s) (k:Nat):cnt (bs.take s) k=cnt bs k:=by rw [List.take_of_length_le h]
theorem BG (bs:List (List Nat)) (p:List Nat) {s:Nat} (h:s≤bs.length):(bs++[p]).take s=bs.take s:=by
 rw [List.take_append_of_le_length h]
def num (bs:List (List Nat)):List (Nat×List Nat):=bs.mapIdx fun i p=>(i+1,p)
theorem rZ (bs:List (List Nat)) (p:List Nat):num (bs++[p])=num bs++[(bs.length+1,p)]:=by simp [num,List.mapIdx_append]
section
variable {σ:Type}
structure Rp (σ:Type) where
 st:σ
 c:Nat→Nat
 an:Nat→TF
def Rp.next (P:Plain σ) (ops:Nat→Nat→Op) (r:Rp σ) (k:Nat):Rp σ :=
 {st:=(P.apply r.st (ops k (r.c k))).1,c:=aI r.c k (r.c k+1),an:=aI r.an k (P.apply r.st (ops k (r.c k))).2}
def Rp.run (P:Plain σ) (ops:Nat→Nat→Op) (r:Rp σ) (l:List Nat):Rp σ:=l.foldl (Rp.next P ops) r
def Rp.new (P:Plain σ):Rp σ:={st:=P.first,c:=fun _=>0,an:=fun _=>⟨0,0⟩}
def replay (P:Plain σ) (ops:Nat→Nat→Op) (bs:List (List Nat)):Rp σ:=(Rp.new P).run P ops bs.flatten
theorem EG (P:Plain σ) (ops:Nat→Nat→Op) (bs:List (List Nat)) (p:List Nat):replay P ops (bs++[p])=(replay P ops bs).run P ops p:=by
 simp [replay,Rp.run,List.foldl_append]
theorem KA (P:Plain σ) (ops:Nat→Nat→Op) (r:Rp σ) (l:List Nat) (k:Nat):r.run P ops (l++[k])=(r.run P ops l).next P ops k:=by simp [Rp.run]
theorem KC (P:Plain σ) (ops:Nat→Nat→Op) (k:Nat):∀ (l:List Nat) (r:Rp σ),(r.run P ops l).c k=r.c k+l.count k
 |[],r=>by simp [Rp.run]
 |a::l,r=>by
  have:=KC P ops k l (r.next P ops a)
  simp only [Rp.run,List.foldl_cons] at this ⊢
  rw [this,List.count_cons]
  by_cases e:a=k
  ·subst e;simp [Rp.next,aC];omega
  ·rw [show (r.next P ops a).c k=r.c k from aD _ _ (Ne.symm e)];simp [e]
theorem BH (P:Plain σ) (ops:Nat→Nat→Op) (bs:List (List Nat)) (k:Nat):(replay P ops bs).c k=cnt bs k:=by
 unfold replay
 rw [KC]
 simp [Rp.new,cnt]
theorem uJ (P:Plain σ) {ops ops':Nat→Nat→Op}:∀ (l:List Nat) (r:Rp σ),(∀ k i,i<r.c k+l.count k→ops k i=ops' k i)→r.run P ops l=r.run P ops' l
 |[],_,_=>rfl
 |a::l,r,h=>by
  have e:r.next P ops a=r.next P ops' a:=by
   unfold Rp.next
   rw [h a (r.c a) (by simp)]
  show (r.next P ops a).run P ops l=(r.next P ops' a).run P ops' l
  rw [←e]
  refine uJ P l _ fun k i hi=>h k i ?_
  rw [List.count_cons]
  by_cases q:a=k
  ·subst q
   simp only [Rp.next,aC,beq_self_eq_true,if_true] at hi ⊢
   omega
  ·rw [show (r.next P ops a).c k=r.c k from aD _ _ (Ne.symm q)] at hi
   simp [q]
   exact hi
theorem FZ (P:Plain σ) {ops ops':Nat→Nat→Op} {bs:List (List Nat)} (h:∀ k i,i<cnt bs k→ops k i=ops' k i):replay P ops bs=replay P ops' bs :=
 uJ P _ _ fun k i hi=>h k i (by simpa [Rp.new,cnt] using hi)
theorem MO (P:Plain σ) (ops:Nat→Nat→Op) (k:Nat):∀ (l:List Nat) (r:Rp σ),k ∉ l→(r.run P ops l).an k=r.an k
 |[],_,_=>rfl
 |a::l,r,h=>by
  simp only [List.mem_cons,not_or] at h
  show ((r.next P ops a).run P ops l).an k=_
  rw [MO P ops k l _ h.2]
  exact aD _ _ h.1
end
def vR (n cap:Nat):Nat:=cap+3+2*(aQ n+1)+tw n+3*n
def bound (n cap:Nat):Nat:=4+2*vR n cap+3
def after (n cap p:Nat):Nat :=
 if p=1 then 1+vR n cap+3 else if p=2 then vR n cap+3 else if p=3 then vR n cap-cap+3 else if p=4 then 2*(aQ n+1)+tw n+3*n+2+3
 else if p=5 then aQ n+1+tw n+3*n+2+3 else if p=6 then aQ n+1+3*n+2+3 else if p=7 then aQ n+1+3*n+1+3 else if p=8 then aQ n+1+1+3 else if p=9 then 1+3 else if p=10 then 3 else 0
def bA.kC (n cap:Nat) (x:bA):Nat:=if x.part=0 then 0 else x.left+after n cap x.part+if x.tries≠2∧x.part≤10 then vR n cap else 0
structure TOk (n cap:Nat) (x:bA):Prop where
 p1:x.part≤11
 p2:x.part≠0→1≤x.left∧x.left≤x.len n x.part
 bc:x.aG≤cap
 t0:x.part=1∨x.part=2→x.tries≠2
theorem YT {n:Nat} (h:0<n):0<tw n:=by unfold tw;omega
def mx (n cap p:Nat):Nat:=if p=1∨p=11 then 3 else if p=3 then cap else if p=5∨p=9 then aQ n+1 else if p=6 then tw n else if p=8 then 3*n else 1
theorem UA {p:Nat} (h1:1≤p) (h2:p≤11):p=1∨p=2∨p=3∨p=4∨p=5∨p=6∨p=7∨p=8∨p=9∨p=10∨p=11:=by omega
theorem BI (n cap:Nat) {p:Nat} (h1:1≤p) (h2:p≤10):after n cap p=mx n cap (p+1)+after n cap (p+1):=by
 have hc:=UA h1 (by omega)
 rcases hc with rfl|rfl|rfl|rfl|rfl|rfl|rfl|rfl|rfl|rfl|rfl<;>simp [after,mx,vR]<;>omega
theorem UB {n cap:Nat} {x:bA} (p:Nat) (hb:x.aG≤cap) (hl:p=8→x.aJ.length≤n):x.len n p≤mx n cap p:=by
 unfold bA.len mx
 repeat (first|(split<;>try omega)|omega)
theorem UC {n:Nat} {x:bA} {p:Nat} (hn:0<n) (h:x.len n p=0):p=3∨p=8:=by
 have hw:=YT hn
 unfold bA.len at h
 repeat (first|omega|split at h)
theorem sA {n cap:Nat} {x:bA} {p:Nat} (hn:0<n) (h1:1≤p) (h2:p≤11) (hb:x.aG≤cap) (hl:p=8→x.aJ.length≤n):(x.enter n p).kC n cap≤mx n cap p+after n cap p+(if x.tries≠2∧p≤10 then vR n cap else 0):=by
 unfold bA.enter
 split
 ·rename_i q
  have hp:=UC hn q
  have e:=BI n cap h1 (by omega)
  have l:=UB (n:=n) (cap:=cap) (x:=x) (p+1) hb (by omega)
  have g:bA.kC n cap {x with part:=p+1,left:=x.len n (p+1)} = x.len n (p+1)+after n cap (p+1)+if x.tries≠2∧p+1≤10 then vR n cap else 0:=by unfold bA.kC;rw [if_neg (Nat.succ_ne_zero _)]
  rw [g]
  have c:(x.tries≠2∧p+1≤10)↔(x.tries≠2∧p≤10):=by omega
  simp only [c]
  omega
 ·have l:=UB (n:=n) (cap:=cap) (x:=x) p hb hl
  have g:bA.kC n cap {x with part:=p,left:=x.len n p} = x.len n p+after n cap p+if x.tries≠2∧p≤10 then vR n cap else 0:=by
   unfold bA.kC
   rw [if_neg (by dsimp only;omega)]
  rw [g]
  omega
theorem fZ (n:Nat) (x:bA) (p:Nat):(x.enter n p).ops=x.ops∧(x.enter n p).ended=x.ended∧(x.enter n p).aM=x.aM∧(x.enter n p).aG=x.aG∧(x.enter n p).tries=x.tries∧(x.enter n p).stamp=x.stamp∧(x.enter n p).flipped=x.flipped∧(x.enter n p).aJ=x.aJ:=by
 unfold bA.enter
 split<;>exact ⟨rfl,rfl,rfl,rfl,rfl,rfl,rfl,rfl⟩
theorem KD (n:Nat) (Y:aP) (x:bA):(Y.pending n x).length≤n:=by
 unfold aP.pending
 exact Nat.le_trans (List.length_filter_le _ _) (by simp)
theorem RB {n cap:Nat} {x:bA} (hn:0<n):(x.fail n cap).kC n cap≤if x.tries=2 then 3 else vR n cap+3:=by
 unfold bA.fail
 split
 ·rename_i q
  have h:=sA (n:=n) (cap:=cap) (x:={x with aG:=min (2*x.aG+1) cap}) (p:=11) hn (by decide) (by decide) (Nat.min_le_right _ _) (by omega)
  simp [after,mx] at h
  exact h
 ·have h:=sA (n:=n) (cap:=cap) (x:={x with aG:=min (2*x.aG+1) cap,tries:=2}) (p:=3) hn (by decide) (by decide) (Nat.min_le_right _ _) (by omega)
  simp [after,mx] at h
  have:cap≤vR n cap:=by unfold vR;omega
  omega
theorem rM {n cap:Nat} {Y:aP} {t:Nat} (hn:0<n) (h:TOk n cap (Y.th t)) (hp:(Y.th t).part≠0):((bD n cap Y t).1.th t).kC n cap+1≤(Y.th t).kC n cap:=by
 obtain ⟨p1,p2,bc,t0⟩:=h
 obtain ⟨l1,l2⟩:=p2 hp
 unfold bD
 dsimp only
 generalize (if (Y.th t).part=6 then fun k=>if k / 16=tw n-((Y.th t).left-1)-1∧k<n then (Y.th k).aM else (Y.th t).flipped k else (Y.th t).flipped)=fl
 by_cases q:0<(Y.th t).left-1
 ·rw [if_pos q]
  simp only [aP.set,aC,bA.kC,if_neg hp]
  omega
 ·rw [if_neg q]
  have hl:(Y.th t).left=1:=by omega
  generalize hx:(Y.th t)=x at *
  have ha:vR n cap=cap+3+2*(aQ n+1)+tw n+3*n:=rfl
  have G:x.kC n cap=1+after n cap x.part+if x.tries≠2∧x.part≤10 then vR n cap else 0:=by unfold bA.kC;rw [if_neg hp,hl]
  rw [G]
  have N:∀ x':bA,x'.aG≤cap→∀ p,1≤p→p≤10→(p=7→x'.aJ.length≤n)→(x'.tries=x.tries∨x'.tries=1∧x.tries≠2)→(x'.enter n (p+1)).kC n cap+1≤1+after n cap p+if x.tries≠2∧p≤10 then vR n cap else 0:=by
   intro x' a3 p a1 a2 a4 a5
   have h:=sA (n:=n) (cap:=cap) (x:=x') (p:=p+1) hn (by omega) (by omega) a3 (by intro q;exact a4 (by omega))
   rw [BI n cap a1 a2]
   by_cases c:x.tries=2
   ·have:x'.tries=2:=by omega
    simp [c,this] at h ⊢
    omega
   ·have:x'.tries≠2:=by omega
    simp only [c,this,ne_eq,not_false_eq_true,true_and] at h ⊢
    rw [if_pos a2]
    have:(if p+1≤10 then vR n cap else 0)≤vR n cap:=by split<;>omega
    omega
  have F:∀ x':bA,x'.tries=x.tries→∀ p,7≤p→p≤10→(x'.fail n cap).kC n cap+1≤1+after n cap p+if x.tries≠2∧p≤10 then vR n cap else 0:=by
   intro x' a5 p a1 a2
   have h:=RB (n:=n) (cap:=cap) (x:=x') hn
   have h3:3≤after n cap p:=by
    have hc:p=7∨p=8∨p=9∨p=10:=by omega
    rcases hc with rfl|rfl|rfl|rfl<;>simp [after]<;>omega
   rw [a5] at h
   by_cases c:x.tries=2
   ·simp [c] at h ⊢;omega
   ·simp only [c,if_false,ne_eq,not_false_eq_true,true_and] at h ⊢
    rw [if_pos a2]
    omega
  have hc:=UA (by omega) p1
  unfold over
  dsimp only
  rcases hc with c|c|c|c|c|c|c|c|c|c|c<;>rw [c]
  ·simp only [aP.set,aC];exact N _ (by exact bc) 1 (by decide) (by decide) (fun q=>absurd q (by decide)) (.inl (by rfl))
  ·simp only [aP.set,aC]
   exact N _ (by exact bc) 2 (by decide) (by decide) (fun q=>absurd q (by decide)) (.inr ⟨by rfl,t0 (.inr c)⟩)
  ·simp only [aP.set,aC];exact N _ (by exact bc) 3 (by decide) (by decide) (fun q=>absurd q (by decide)) (.inl (by rfl))
  ·simp only [aP.set,aC];exact N _ (by exact bc) 4 (by decide) (by decide) (fun q=>absurd q (by decide)) (.inl (by rfl))
  ·simp only [aP.set,aC];exact N _ (by exact bc) 5 (by decide) (by decide) (fun q=>absurd q (by decide)) (.inl (by rfl))
  ·simp only [aP.set,aC];exact N _ (by exact bc) 6 (by decide) (by decide) (fun q=>absurd q (by decide)) (.inl (by rfl))
  ·simp only [aP.set,aC]
   split
   ·split
    ·exact N _ (by exact bc) 7 (by decide) (by decide) (fun _=>by exact KD _ _ _) (.inl (by rfl))
    ·refine Nat.le_trans (Nat.succ_le_succ (sA hn (by decide) (by decide) (by exact bc) (fun q=>absurd q (by decide)))) ?_
     simp [mx,after]
     omega
   ·exact F _ (by rfl) 7 (by decide) (by decide)
  ·simp only [aP.set,aC];exact N _ (by exact bc) 8 (by decide) (by decide) (fun q=>absurd q (by decide)) (.inl (by rfl))
  ·simp only [aP.set,aC];exact N _ (by exact bc) 9 (by decide) (by decide) (fun q=>absurd q (by decide)) (.inl (by rfl))
  ·simp only [aP.set]
   split
   ·simp only [aC];exact N _ (by exact (Nat.le_trans (Nat.div_le_self _ _) bc)) 10 (by decide) (by decide) (fun q=>absurd q (by decide)) (.inl (by rfl))
   ·simp only [aC];exact F _ (by rfl) 10 (by decide) (by decide)
  ·simp only [aP.set,aC]
   simp [bA.kC]
structure View (σ:Type) where
 bs:List (List Nat)
 aM:Nat→Nat
 ops:Nat→List Op
 bC:Nat→Int
 eH:Nat→Nat→Int
 rw:Nat→Nat→Int
 eX:Nat→Option (cY σ×cY σ)
 prec:Nat
 pb:Nat→Nat
 nf:Nat→Nat
section
variable {σ:Type}
def View.N (V:View σ):Nat:=V.bs.length
def View.op (V:View σ) (k i:Nat):Op:=(V.ops k).getD i ⟨0,0,0⟩
def View.rp (P:Plain σ) (V:View σ):Rp σ:=replay P V.op V.bs
def View.A (P:Plain σ) (V:View σ) (t:Nat):TF:=(V.rp P).an t
def View.at (V:View σ) (s k:Nat):Nat:=cnt (V.bs.take s) k
def View.quiet (V:View σ) (s t:Nat):Prop:=V.aM t=cnt V.bs t∧V.at s t=cnt V.bs t
structure gO (P:Plain σ) (n:Nat) (V:View σ):Prop where
 fl:∀ t,t<n→cnt V.bs t≤V.aM t∧V.aM t≤cnt V.bs t+1
 XT:∀ t,t<n→V.aM t≤(V.ops t).length
 UD:∀ t,t<n→cnt V.bs t<V.aM t→∀ i,i<3→V.eH t i=(V.op t (cnt V.bs t)).w i
 mem:∀ b∈V.bs,∀ k∈b,k<n
 bC:∀ w,w<tw n→V.bC w=bits n V.aM w
 RD:∀ w,w<tw n→V.rw V.prec w=bits n (cnt V.bs) w
 MP:∀ t,t<n→V.rw V.prec (aL n t)=(V.A P t).s∧V.rw V.prec (aN n t)=(V.A P t).v
 zJ:∃ f,V.eX V.prec=some (⟨(V.rp P).st,num V.bs⟩,f)
 recs:∀ r t,t<n→V.quiet (V.pb r) t→V.rw r (aL n t)=(V.A P t).s∧V.rw r (aN n t)=(V.A P t).v
 pbN:∀ r,V.pb r≤V.N
 pbc:V.pb V.prec=V.N
 nfN:∀ t,V.nf t≤V.N
 RF:∀ t,t<n→V.nf t+2≤V.N→V.aM t=cnt V.bs t
def kP (P:Plain σ) (n:Nat) (V:View σ) (s c:Nat) (dw:Nat→Int):Prop :=
 ∀ k,k<n→V.quiet s k→(aL n k<c→dw (aL n k)=(V.A P k).s)∧(aN n k<c→dw (aN n k)=(V.A P k).v)
def kJ (n:Nat) (V:View σ) (t s c:Nat) (tg:Nat→Int) (fd:Nat→Nat):Prop :=
 (∀ w,w<c→tg w=bits n fd w)∧∀ k,k<n→k / 16<c→V.at s k≤fd k∧fd k≤V.aM k∧(k=t∨V.nf k<s→fd k=V.aM k)
def tA (n:Nat) (V:View σ) (s t:Nat) (aJ:List Nat) (fd:Nat→Nat):Prop :=
 aJ=(List.range n).filter (fun k=>decide (fd k=V.at s k+1))∧t∈aJ∧∀ k,k<n→fd k≤V.at s k+1
def oV (n:Nat) (r:Rp σ) (dw:Nat→Int):Prop:=∀ k,k<n→dw (aL n k)=(r.an k).s∧dw (aN n k)=(r.an k).v
structure eU (P:Plain σ) (n cap:Nat) (V:View σ) (t:Nat) (e:aS σ) (x:bA):Prop where
 p1:x.part≤11
 p2:x.part<11→e.phase=x.part
 p3:x.part≠0→x.part<11→e.past+x.left=x.len n x.part∧0<x.left
 p4:x.part=11→1≤x.left∧x.left≤3∧e.phase=14-x.left
 xo:x.ops=V.ops t
 xf:x.aM=V.aM t
 bk:e.aG=x.aG
 bc:x.aG≤cap
 ag:x.part≠0→e.again=decide (x.tries=2)
 wK:e.cQ=decide (V.aM t % 2=1)
 yD:x.part≠0→(V.ops t).length≠0∧e.op=V.op t ((V.ops t).length-1)
 c0:x.part=0→(V.ops t).length=V.aM t∧x.ended=V.aM t∧cnt V.bs t=V.aM t
 c1:x.part=1∨x.part=2→(V.ops t).length=V.aM t+1∧x.ended=V.aM t∧cnt V.bs t=V.aM t
 c3:3≤x.part→(V.ops t).length=V.aM t∧x.ended+1=V.aM t
 vS:x.part=11→cnt V.bs t=V.aM t
 RG:x.part=1→∀ i,i<e.past→V.eH t i=e.op.w i
 yE:2≤x.part→∀ i,i<3→V.eH t i=e.op.w i
 sp:(e.spare=2*t+1∧e.kept=2*t+2)∨(e.spare=2*t+2∧e.kept=2*t+1)
 wL:e.spare≠V.prec
 en:e.ended=decide (0<x.ended)
 a0:x.part=0→0<x.ended→e.yA=(V.A P t).s∧e.val=(V.A P t).v
 a1:x.part=11→x.left=1→e.yA=(V.A P t).s
 fd:x.part=11→x.left≤2→V.at (V.pb e.found) t=cnt V.bs t
 t0:x.part=1∨x.part=2→x.tries≠2
 tr:3≤x.part→x.tries=1∨x.tries=2
 tn:3≤x.part→x.tries=2→V.nf t<V.N
 s1:5≤x.part→x.part≤10→x.stamp=e.stamp∧e.stamp≤V.N∧e.stamp≤V.pb e.aR∧(e.stamp=V.N→e.aR=V.prec)∧V.nf t≤e.stamp∧(x.tries=2→V.nf t<e.stamp)∧V.pb e.spare≤e.stamp∧(V.eX e.aR).isSome
 d5:x.part=5→kP P n V e.stamp e.past e.dw∧(e.stamp=V.N→∀ i,i<e.past→i<aQ n→e.dw i=V.rw V.prec i)
 d6:6≤x.part→x.part≤10→kP P n V e.stamp (aQ n) e.dw∧e.now.isSome∧e.cD.isSome
 d7:x.part=6∨x.part=7→e.stamp=V.N→(∀ i,i<aQ n→e.dw i=V.rw V.prec i)∧e.now=some ⟨(V.rp P).st,num V.bs⟩∧e.cD=some ⟨(V.rp P).st,num V.bs⟩
 t6:x.part=6→kJ n V t e.stamp e.past e.tg x.flipped
 t7:7≤x.part→x.part≤10→kJ n V t e.stamp (tw n) e.tg x.flipped
 h8:8≤x.part→x.part≤10→e.aJ=x.aJ∧tA n V e.stamp t e.aJ x.flipped
 JU:x.part=8→e.stamp=V.N→e.cD=some ⟨(V.rp P).st,num V.bs⟩∧e.now=some ⟨((V.rp P).run P V.op (e.aJ.take (e.past / 3))).st,num V.bs⟩∧oV n ((V.rp P).run P V.op (e.aJ.take (e.past / 3))) e.dw∧∀ q,q<e.past % 3→e.heard q=V.eH (e.aJ.getD (e.past / 3) 0) q
 h9:x.part=9∨x.part=10→e.stamp=V.N→e.now=some ⟨((V.rp P).run P V.op e.aJ).st,num (V.bs++[e.aJ])⟩∧oV n ((V.rp P).run P V.op e.aJ) e.dw∧∀ w,w<tw n→e.dw w=bits n x.flipped w
 w9:x.part=9→∀ i,i<e.past→i<aQ n→V.rw e.spare i=e.dw i
 MC:x.part=10→(∀ i,i<aQ n→V.rw e.spare i=e.dw i)∧V.eX e.spare=e.now.bind fun v=>e.cD.map fun f=>(v,f)
def view (E:aK σ) (Y:aP) (pb nf:Nat→Nat):View σ :=
 {bs:=Y.bs,aM:=fun k=>(Y.th k).aM,ops:=fun k=>(Y.th k).ops,bC:=E.bC,eH:=E.eH,rw:=E.rw,eX:=E.eX,prec:=E.prec,pb:=pb,nf:=nf}
def tC (P:Plain σ) (n cap:Nat) (E:aK σ) (Y:aP) (nf:Nat→Nat):Prop :=
 ∃ pb,E.cZ=Y.bs.length∧gO P n (view E Y pb nf)∧∀ t,t<n→eU P n cap (view E Y pb nf) t (E.th t) (Y.th t)
def Inv (P:Plain σ) (n cap:Nat) (E:aK σ) (Y:aP):Prop :=
 ∃ pb nf,E.cZ=Y.bs.length∧gO P n (view E Y pb nf)∧∀ t,t<n→eU P n cap (view E Y pb nf) t (E.th t) (Y.th t)
end
structure Mark where
 b:Nat
 t:Nat
 s:Nat
def marks (l:List (Nat×Nat)):List Mark:=l.mapIdx fun i x=>⟨x.1,x.2,((l.take i).map Prod.snd).count x.2⟩
theorem uK (l:List (Nat×Nat)):(marks l).length=l.length:=by simp [marks]
theorem BJ (l:List (Nat×Nat)) (b t:Nat):marks (l++[(b,t)])=marks l++[⟨b,t,(l.map Prod.snd).count t⟩]:=by
 unfold marks
 rw [List.mapIdx_append]
 congr 1
 ·apply List.ext_getElem?
  intro i
  simp only [List.getElem?_mapIdx]
  by_cases h:i<l.length
  ·rw [List.take_append_of_le_length (Nat.le_of_lt h)]
  ·rw [List.getElem?_eq_none (Nat.le_of_not_lt h)];rfl
 ·simp
def tagged (bs:List (Nat×List Nat)):List (Nat×Nat):=bs.flatMap fun x=>x.2.map fun t=>(x.1,t)
theorem tJ (bs:List (Nat×List Nat)) (q:Nat) (p:List Nat):tagged (bs++[(q,p)])=tagged bs++p.map fun t=>(q,t):=by simp [tagged]
theorem BK:∀ bs:List (List Nat),(tagged (num bs)).map Prod.snd=bs.flatten:=by
 intro bs
 have:∀ (k:Nat) (bs:List (List Nat)),((bs.mapIdx fun i p=>(i+k,p)).flatMap fun x=>x.2.map fun t=>(x.1,t)).map Prod.snd=bs.flatten:=by
  intro k bs
  induction bs generalizing k with
  |nil=>rfl
  |cons p bs ih =>
   simp only [List.mapIdx_cons,List.flatMap_cons,List.map_append,List.flatten_cons,List.map_map]
   have:=ih (k+1)
   rw [show (fun i p=>(i+1+k,p):Nat→List Nat→Nat×List Nat)=fun i p=>(i+(k+1),p) by funext i p;rw [Nat.add_assoc,Nat.add_comm 1 k],this]
   congr 1
   induction p with
   |nil=>rfl
   |cons a p ihp=>simp [Function.comp_def]
 exact this 1 bs
def aP.all (Y:aP):List (Nat×Nat):=tagged (num Y.bs)
def aP.order (Y:aP):List Mark:=marks Y.all
theorem aP.wM (Y:aP):Y.all.map Prod.snd=Y.bs.flatten:=BK Y.bs
theorem zW (bs:List (List Nat)):(num bs).length=bs.length:=by simp [num]
structure YOk (n cap:Nat) (Y:aP):Prop where
 th:∀ t,t<n→TOk n cap (Y.th t)
 mem:∀ b∈Y.bs,∀ k∈b,k<n
 ops:∀ t,t<n→cnt Y.bs t≤(Y.th t).ops.length
 idle:∀ t,t<n→(Y.th t).part=0→(Y.th t).ended=cnt Y.bs t
 fl:∀ t,t<n→(Y.th t).aM≤(Y.th t).ops.length∧(Y.th t).ended≤(Y.th t).ops.length
 pl:∀ t,t<n→8≤(Y.th t).part→(Y.th t).part≤10→(Y.th t).aJ.length≤n
 ide:∀ t,t<n→(Y.th t).part=0→(Y.th t).ended=(Y.th t).ops.length
 rd:∀ t,t<n→7≤(Y.th t).part→(Y.th t).part≤10→∀ k,k<n→(Y.th t).flipped k≤(Y.th k).aM
theorem Inv.yok {σ:Type} {P:Plain σ} {n cap:Nat} {E:aK σ} {Y:aP} (h:Inv P n cap E Y):YOk n cap Y:=by
 obtain ⟨pb,nf,-,G,T⟩:=h
 refine ⟨fun t ht=>?_,G.mem,fun t ht=>Nat.le_trans (G.fl t ht).1 (G.XT t ht),fun t ht h0=>?_,fun t ht=>?_,fun t ht h8 MD=>?_,fun t ht h0=>?_,fun t ht h7 MD k hk=>?_⟩
 ·have X:=T t ht
  refine ⟨X.p1,fun hp=>?_,X.bc,X.t0⟩
  ·have h1:=X.p1
   by_cases c:(Y.th t).part=11
   ·obtain ⟨a,b,-⟩:=X.p4 c
    exact ⟨a,by rw [c];simpa [bA.len] using b⟩
   ·obtain ⟨a,b⟩:=X.p3 hp (by omega)
    omega
 ·obtain ⟨a,b,c⟩:=(T t ht).c0 h0
  rw [b,←c];rfl
 ·have X:=T t ht
  have o:=G.XT t ht
  have e1:(Y.th t).aM=(view E Y pb nf).aM t:=rfl
  have e2:(Y.th t).ops=(view E Y pb nf).ops t:=rfl
  have h1:=X.p1
  refine ⟨by rw [e1,e2];exact o,?_⟩
  rw [e2]
  by_cases c0:(Y.th t).part=0
  ·have:=X.c0 c0;omega
  ·by_cases c1:(Y.th t).part≤2
   ·have:=X.c1 (by omega);omega
   ·have:=X.c3 (by omega);omega
 ·obtain ⟨e,q,-⟩:=(T t ht).h8 h8 MD
  rw [←e,q]
  exact Nat.le_trans (List.length_filter_le _ _) (by simp)
 ·obtain ⟨a,b,-⟩:=(T t ht).c0 h0
  have e2:(Y.th t).ops=(view E Y pb nf).ops t:=rfl
  rw [b,e2,a]
 ·have htw:k / 16<tw n:=by unfold tw;omega
  exact (((T t ht).t7 h7 MD).2 k hk htw).2.1
end Go.Proofs.YtefjhnhdagolhaaGreat.M
