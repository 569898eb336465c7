import Derived.Test.YtefjhnhdagolhaaGreatRows
import Derived.Test.YtefjhnhdagolhaaGreatQ14
import Derived.Test.YtefjhnhdagolhaaGreatQ41
import Derived.Test.YtefjhnhdagolhaaGreatQ48
import Derived.Test.YtefjhnhdagolhaaGreatQ49
import Derived.Test.YtefjhnhdagolhaaGreatQ45
import Derived.Test.YtefjhnhdagolhaaGreatQ39
import Derived.Test.YtefjhnhdagolhaaGreatQ44
import Derived.Test.YtefjhnhdagolhaaGreatQ46
set_option maxHeartbeats 20000000
set_option maxRecDepth 100000
namespace Go.Proofs.YtefjhnhdagolhaaGreat
open Go.ChangeShapes Go.WideShapes Go.ChangeAt Go.RowKit Go.Joins Go.Deep
theorem LX:Tryz.prog.cellsOf 38=6:=by kernel_rfl
theorem aAz:Tryz.prog.cellsOf 36=3:=by kernel_rfl
theorem aE1 {α:Type} {l:List α} (h:l.length=6):∃ c0 c1 c2 c3 c4 c5,l=[c0,c1,c2,c3,c4,c5]:=by
 match l,h with
 |[c0,c1,c2,c3,c4,c5],_=>exact ⟨c0,c1,c2,c3,c4,c5,rfl⟩
theorem TB {W:World} {base:Nat} {a:Addr} {n:Nat} {cs:List Value} (h:W.cells? base a n=some cs) (i:Nat) (hi:i<n):W.cell? (a.add i)=cs[i]?:=by
 unfold World.cells? at h
 split at h
 ·exact mapM_some_get h i i (by simp [hi])
 ·cases h
theorem wf_i64 {x:Int} (h:(Lit.int .i64 x).wf=true):tU x:=by
 have m1:IntKind.min .i64 = -9223372036854775808:=by decide +kernel
 have m2:IntKind.max .i64=9223372036854775807:=by decide +kernel
 simp [Lit.wf] at h
 unfold tU
 omega
section
variable {H:Type} {enc:TypeId×Value→H} {W:World}
theorem XQ {fuel:Nat} {cs:List Value} {y:DataW H×List MemPlace} (h:DataW.trod enc Tryz.prog W 0 (fun _=>true) true fuel 38 cs=some y) :
  ∃ x:wZ,cs=[.int .i64 x.k,.int .i64 x.t,.int .i64 x.n,.int .i64 x.c,.int .i64 x.a,.int .i64 x.b]∧tU x.t∧tU x.n∧8≤Rows.uptoBulk y.1:=by
 obtain ⟨y0,y1,y2,y3,m,rfl,hl,h0,h1,h2,h3⟩:=trod_struct4 Tryz.underlying38 h
 obtain ⟨z0,z1,z2,m',hx3,-,k0,k1,k2⟩:=trod_struct3 Tryz.underlying36 h3
 obtain ⟨c0,c1,c2,c3,c4,c5,rfl⟩:=aE1 (hl.trans LX)
 simp only [DX,List.drop_succ_cons,List.drop_zero,List.take_succ_cons,List.take_zero] at h0 h1 h2
 simp only [DX,aAz,List.drop_succ_cons,List.drop_zero,List.take_succ_cons,List.take_zero] at k0 k1 k2
 obtain ⟨x0,e0,rfl,-⟩:=DataW.trod_int Tryz.underlying3 h0
 obtain ⟨x1,e1,rfl,w1⟩:=DataW.trod_int Tryz.underlying3 h1
 obtain ⟨x2,e2,rfl,w2⟩:=DataW.trod_int Tryz.underlying3 h2
 obtain ⟨x3,e3,rfl,-⟩:=DataW.trod_int Tryz.underlying3 k0
 obtain ⟨x4,e4,rfl,-⟩:=DataW.trod_int Tryz.underlying3 k1
 obtain ⟨x5,e5,rfl,-⟩:=DataW.trod_int Tryz.underlying3 k2
 simp only [List.cons.injEq,and_true] at e0 e1 e2 e3 e4 e5
 subst e0 e1 e2 e3 e4 e5 hx3
 exact ⟨⟨x0,x1,x2,x3,x4,x5⟩,rfl,wf_i64 w1,wf_i64 w2,by simp [Rows.uptoBulk,Rows.uptoBulkAll]⟩
theorem FV (k:Nat) (l:List (DataW H)) (h:∀ d∈l,k≤Rows.uptoBulk d):k*l.length≤Rows.uptoBulkAll l:=by
 induction l with
 |nil=>simp [Rows.uptoBulkAll]
 |cons x r ih =>
  have h1:=h x (by simp)
  have h2:=ih fun d hd=>h d (by simp [hd])
  simp only [Rows.uptoBulkAll,List.length_cons,Nat.mul_add,Nat.mul_one]
  omega
theorem LY {base:Nat} {v:Value} {d:DataW H} {p:List MemPlace} (hv:Value.okWide Tryz.prog W .any base 29 v) (h:DataW.Trod enc Tryz.prog W 0 (fun _=>true) true 29 v d p) :
  ∃ l:List wZ,Scr W v l∧(∀ x∈l,tU x.t∧tU x.n)∧8*l.length≤Rows.uptoBulk d:=by
 obtain ⟨a0,l0,c0,rfl⟩:=okWide_slice Tryz.underlying29 hv
 obtain ⟨fuel,hf⟩:=h
 rcases DataW.trod_slice Tryz.underlying29 hf with ⟨hcs,hx⟩|⟨a,len,cap,elems,rest,n,-,hcs,hx,-,hl,hm,hlen,hel,-,-⟩
 ·simp only [Value.cells,List.cons.injEq,Value.slice.injEq,and_true] at hcs
  obtain ⟨rfl,rfl,rfl⟩:=hcs
  exact ⟨[],⟨none,0,rfl,fun h=>absurd h (by decide)⟩,by simp,by simp⟩
 ·simp only [Value.cells,List.cons.injEq,Value.slice.injEq,and_true] at hcs
  obtain ⟨rfl,rfl,rfl⟩:=hcs
  have each:∀ i,i<l0→∃ x:wZ,(∀ j u,[Value.int .i64 x.k,.int .i64 x.t,.int .i64 x.n,.int .i64 x.c,.int .i64 x.a,.int .i64 x.b][j]?=some u→W.cell? ((a.add (i*6)).add j)=some u)∧tU x.t∧tU x.n∧∃ y,elems[i]?=some y∧8≤Rows.uptoBulk y.1:=by
   intro i hi
   have hi':=hel i hi
   rw [LX,List.getElem?_eq_getElem (by omega),Option.bind_eq_some_iff] at hi'
   obtain ⟨cs,q1,q2⟩:=hi'
   obtain ⟨x,rfl,x1,x2,x3⟩:=XQ q2
   refine ⟨x,fun j u hu=>?_,x1,x2,_,List.getElem?_eq_getElem (by omega),x3⟩
   have hj:j<6:=by have:=(List.getElem?_eq_some_iff.1 hu).1;simpa using this
   rw [TB q1 j hj]
   exact hu
  obtain ⟨f,hf'⟩:∃ f:Nat→wZ,∀ i,i<l0→(∀ j u,[Value.int .i64 (f i).k,.int .i64 (f i).t,.int .i64 (f i).n,.int .i64 (f i).c,.int .i64 (f i).a,.int .i64 (f i).b][j]?=some u→W.cell? ((a.add (i*6)).add j)=some u)∧tU (f i).t∧tU (f i).n∧∃ y,elems[i]?=some y∧8≤Rows.uptoBulk y.1:=by
   classical
   exact ⟨fun i=>if h:i<l0 then (each i h).choose else ⟨0,0,0,0,0,0⟩,fun i hi=>by simp only [dif_pos hi];exact (each i hi).choose_spec⟩
  refine ⟨(List.range l0).map f,⟨some a,c0,by simp,fun h0=>?_⟩,?_,?_⟩
  ·have h0':0<l0:=by simpa using h0
   obtain ⟨b,off,spot⟩:=a
   have XM:spot=none:=by
    have:=World.cell?_spot ((hf' 0 h0').1 0 _ rfl)
    simpa [Addr.add] using this
   subst XM
   refine ⟨b,off,rfl,fun i x hx=>?_⟩
   have hi:i<l0:=by have:=(List.getElem?_eq_some_iff.1 hx).1;simpa using this
   simp only [List.getElem?_map,List.getElem?_range hi,Option.map_some,Option.some.injEq] at hx
   subst hx
   have q:=(hf' i hi).1
   simp only [rL] at q
   exact ⟨q 0 _ rfl,q 1 _ rfl,q 2 _ rfl,q 3 _ rfl,q 4 _ rfl,q 5 _ rfl⟩
  ·intro x hx
   obtain ⟨i,hi,rfl⟩:=List.mem_map.1 hx
   have:=hf' i (List.mem_range.1 hi)
   exact ⟨this.2.1,this.2.2.1⟩
  ·have hb:8*(elems.map (·.1)).length≤Rows.uptoBulkAll (elems.map (·.1)):=FV 8 _ fun d hd=>by
    obtain ⟨y,hy,rfl⟩:=List.mem_map.1 hd
    obtain ⟨i,hi⟩:=List.getElem?_of_mem hy
    have hil:i<l0:=by have:=(List.getElem?_eq_some_iff.1 hi).1;omega
    obtain ⟨-,-,-,y',q1,q2⟩:=hf' i hil
    rw [hi] at q1
    cases q1
    exact q2
   simp only [Prod.mk.injEq] at hx
   rw [hx.1]
   simp only [Rows.uptoBulk,List.length_map,List.length_range] at hb ⊢
   omega
end
end Go.Proofs.YtefjhnhdagolhaaGreat
namespace Go.Proofs.YtefjhnhdagolhaaGreat
open Go.RowKit
attribute [local go_sem ↓] Go.wp_at_zero Go.wp_at_succ
section
variable {n cap:Nat} {w w':World} {b:Nat}
theorem JR (hn:1≤n) (lG:n≤64) (hc:cap≤64) (h:int.dK w n (cap:Int) 140 (.agg #[]) b w'):zU wX (fun s=>[s]) n cap w b w' :=
 int.OQ (oT:=140) (fA:=361) (fT:=362) hn lG hc ⟨w,fun _=>False,xO,.agg #[],.agg #[],.agg #[],Below.refl _ _,h,fun _ hk=>hk.elim,fun _ _=>rfl,SE,SS⟩
theorem PJ (hn:1≤n) (lG:n≤64) (hc:cap≤64) (h:list.dK w n (cap:Int) 143 (.agg #[]) b w'):zU nT (fun s=>s) n cap w b w' :=
 list.OQ (oT:=143) (fA:=365) (fT:=366) hn lG hc ⟨w,fun _=>False,OV,.agg #[],.agg #[],.agg #[],Below.refl _ _,h,fun _ hk=>hk.elim,fun _ _=>⟨none,rfl,rfl⟩,aAr,aAs⟩
theorem PK (hn:1≤n) (lG:n≤64) (hc:cap≤64) (h:row.dK w n (cap:Int) 147 (.agg #[]) b w'):zU pT (fun s=>s) n cap w b w' :=
 row.OQ (oT:=147) (fA:=370) (fT:=371) hn lG hc ⟨w,fun _=>False,OW,.agg #[],.agg #[],.agg #[],Below.refl _ _,h,fun _ hk=>hk.elim,fun _ _=>⟨none,none,rfl,[],[],rfl,rfl,rfl⟩,aAt,aAu⟩
theorem XR (hn:1≤n) (lG:n≤64) (hc:cap≤64) (h:tree.dK w n (cap:Int) 150 (.agg #[]) b w'):zU uD flat n cap w b w' :=
 tree.OQ (oT:=150) (fA:=375) (fT:=376) hn lG hc ⟨w,fun _=>False,aCo,.agg #[],.agg #[],.agg #[],Below.refl _ _,h,fun _ hk=>hk.elim,fun _ _=>⟨none,0,rfl,Tr.nil,trivial⟩,aEZ,aE0⟩
end
theorem aAR:aAe wX (fun _=>True):=⟨fun _=>0,⟨by decide,fun _ _=>Nat.zero_le _⟩,fun _ _=>trivial⟩
theorem aBg:aAe nT (fun s=>s.length≤1000000000000):=⟨_,LS,fun s h=>by omega⟩
theorem aBh:aAe pT (fun s=>s.length≤1000000000000):=⟨_,LU,fun s h=>by omega⟩
theorem aCf:aAe uD (fun s=>s.length≤500000000000):=⟨_,TA,fun s h=>by omega⟩
theorem aBB (kind st co:Int) (nx ou:List Int) (vn vo:Value) (N C:Nat) (h1:1≤N) (lG:N≤64) (hC:C≤64) (w:World) (hn:Sl w vn (ints nx)) (ho:Sl w vo (ints ou)) (Q:Prop)
  (hQ:∀ (σ:Type) (P:M.Plain σ) (tell:σ→List Int) (ok:σ→Prop) (Hp:Nat→Nat→σ→World→Prop),HOk P (YR false kind) st co vn vo ok Hp→aAe P ok→(∀ W,Below w.heap.size w W→Calls Tryz.prog 42 #[.agg #[.int .i64 (YR false kind),.int .i64 (N:Int),.int .i64 (C:Int),.int .i64 st,.int .i64 co,vn,vo]] W fun e w'=>∃ b,e = .returned (.tuple #[.pointer (some ⟨b,0,none⟩),.int .i64 0])∧zU P tell N C W b w')→Q):Q:=by
 obtain ⟨r0,r1⟩:=gR kind 4 (by decide)
 have hk:YR false kind=1+pk kind 4:=rfl
 rcases (by omega:YR false kind=1∨YR false kind=2∨YR false kind=3∨YR false kind=4) with e|e|e|e
 ·exact hQ _ wX _ _ _ (by rw [e];exact aCB st co vn vo) aAR (fun W hW=>by rw [e];exact (ZE N _ st co nx ou vn vo W (hn.below hW) (ho.below hW) h1 lG (by omega) (by omega)).mono fun e w' ⟨b,q1,q2⟩=>⟨b,q1,JR h1 lG hC q2⟩)
 ·exact hQ _ nT _ _ _ (by rw [e];exact aFc st co vn vo) aBg (fun W hW=>by rw [e];exact (ZF N _ st co nx ou vn vo W (hn.below hW) (ho.below hW) h1 lG (by omega) (by omega)).mono fun e w' ⟨b,q1,q2⟩=>⟨b,q1,PJ h1 lG hC q2⟩)
 ·exact hQ _ pT _ _ _ (by rw [e];exact aFd st co vn vo) aBh (fun W hW=>by rw [e];exact (RO N _ st co nx ou vn vo W (hn.below hW) (ho.below hW) h1 lG (by omega) (by omega)).mono fun e w' ⟨b,q1,q2⟩=>⟨b,q1,PK h1 lG hC q2⟩)
 ·exact hQ _ uD _ _ _ (by rw [e];exact aKK st co vn vo) aCf (fun W hW=>by rw [e];exact (UX N _ st co nx ou vn vo W (hn.below hW) (ho.below hW) h1 lG (by omega) (by omega)).mono fun e w' ⟨b,q1,q2⟩=>⟨b,q1,XR h1 lG hC q2⟩)
theorem aBE (kind th cap st co:Int) (nx ou:List Int) (vn vo:Value) (l:List wZ) (hl:l.length≤200000) (hi:∀ x∈l,tU x.t∧tU x.n) (s:Value) (w:World) (hs:Scr w s l) (hn:Sl w vn (ints nx)) (ho:Sl w vo (ints ou)) (ik:tU kind) (it:tU th) (ic:tU cap) :
  Calls Tryz.prog 11 #[.agg #[.int .i64 kind,.int .i64 th,.int .i64 cap,.int .i64 st,.int .i64 co,vn,vo],s] w fun e w'=>e = .returned (.bool true)∧Below w.heap.size w w':=by
 obtain ⟨a1,c1,rfl,f1⟩:=hn.open_ints
 obtain ⟨a2,c2,rfl,f2⟩:=ho.open_ints
 obtain ⟨p0,p1⟩:=gR th 19 (by decide)
 obtain ⟨q0,q1⟩:=gR cap 65 (by decide)
 obtain ⟨N,hN⟩:∃ N:Nat,(N:Int)=2+pk th 19:=⟨(2+pk th 19).toNat,by omega⟩
 obtain ⟨C,hC⟩:∃ C:Nat,(C:Int)=pk cap 65:=⟨(pk cap 65).toNat,by omega⟩
 exact aBB kind st co nx ou _ _ N C (by omega) (by omega) (by omega) w hn ho _ fun σ P tell ok Hp h1 h2 h=>aBf _ kind th cap st co a1 a2 nx.length c1 ou.length c2 N C hN hC rfl l hl hi s w hs ik it ic h1 h2 h
end Go.Proofs.YtefjhnhdagolhaaGreat
namespace Go.Proofs.YtefjhnhdagolhaaGreat
open Go.ChangeShapes Go.WideShapes Go.ChangeAt Go.RowKit Go.Joins Go.Deep
theorem FW:laidOutB Tryz.prog=true:=by kernel_rfl
theorem TD:ownKnob Tryz.prog.godebug=none:=by kernel_rfl
theorem DZ {H:Type} (d:DataW H):sliceLen d≤Rows.uptoBulk d:=by
 have one:∀ x:DataW H,1≤Rows.uptoBulk x:=by
  intro x
  cases x with
  |lit l=>cases l<;>simp [Rows.uptoBulk]
  |nil=>simp [Rows.uptoBulk]
  |ptr d=>simp [Rows.uptoBulk]
  |slice elems spare=>simp [Rows.uptoBulk]
  |agg parts=>simp [Rows.uptoBulk]
  |iface t d=>simp [Rows.uptoBulk]
  |map entries=>simp [Rows.uptoBulk]
  |held h=>simp [Rows.uptoBulk]
 cases d with
 |slice el sp =>
  have:=FV 1 el fun d _=>one d
  simp only [sliceLen,Rows.uptoBulk]
  omega
 |lit l=>exact Nat.zero_le _
 |nil=>exact Nat.zero_le _
 |ptr d=>exact Nat.zero_le _
 |agg parts=>exact Nat.zero_le _
 |iface t d=>exact Nat.zero_le _
 |map entries=>exact Nat.zero_le _
 |held h=>exact Nat.zero_le _
theorem TE {H:Type} {k t c s o:Int} {dn dou d1:DataW H} (h:Rows.uptoBulkAll [.agg [.lit (.int .i64 k),.lit (.int .i64 t),.lit (.int .i64 c),.agg [.lit (.int .i64 s),.lit (.int .i64 o),dn,dou]],d1]≤1048576):sliceLen dn≤1048576∧sliceLen dou≤1048576∧Rows.uptoBulk d1≤1048576:=by
 have h1:=DZ dn
 have h2:=DZ dou
 simp only [Rows.uptoBulk,Rows.uptoBulkAll] at h
 omega
theorem aAA (H:Type) (enc:TypeId×Value→H) (W:World) (base:Nat) (args:Array Value) (ds gs:List (DataW H)) (before:List MemPlace)
  (hval:∀ (j:Nat) t v,Tryz.f11.params[j]?=some t→args[j]?=some v→Value.okWide Tryz.prog W .any base t v)
  (hW:DataW.Whole enc Tryz.prog Tryz.f11.params.toList Rows.linearSpec.vars false W args.toList ds gs before) (hk:Rows.uptoSmall H (ds++gs)=true) :
  Calls Tryz.prog 11 args W fun e W'=>∃ v,e = .returned v∧Rows.linearSpec.post enc Tryz.prog Tryz.f11 false true false false W args v W':=by
 have hW':=hW
 obtain ⟨p,q,hA0,hV,rfl,hfz,hnd⟩:=hW
 have hA:DataW.TrodAll enc Tryz.prog W 0 (fun _=>true) true Tryz.f11.params.toList args.toList ds p:=hA0
 rw [Tryz.params11] at hA hval
 obtain ⟨v0,vs0,d0,ds0,p0,q0,hargs,rfl,rfl,h0,r0⟩:=trodAll_cons hA
 obtain ⟨v1,vs1,d1,ds1,p1,q1,rfl,rfl,rfl,h1,r1⟩:=trodAll_cons r0
 obtain ⟨rfl,rfl,rfl⟩:=trodAll_nil r1
 obtain rfl:args=#[v0,v1]:=by cases args;simp_all
 obtain ⟨rfl,rfl⟩:=trodVars_none hV
 have h0k:=h0
 have h1k:=h1
 obtain ⟨kind,th,cap,st,co,nx,ou,vn,vo,dn,dou,rfl,s1,s2,rfl,l1,l2,hwf⟩:=LP (hval 0 26 v0 rfl rfl) h0
 obtain ⟨l,hs,hi,hlb⟩:=LY (hval 1 29 v1 rfl rfl) h1
 clear hA0
 simp only [List.append_nil] at hW' hk
 have hlt:∀ x∈p0++p1,x.block<W.heap.size:=fun x hx=>by simpa using hW'.lt x (by simpa using hx)
 obtain ⟨b1,b2,b3⟩:=TE (of_decide_eq_true hk)
 have hw:∀ x∈[kind,th,cap,st,co]++nx++ou,tU x:=fun x hx=>wf_i64 (hwf x hx)
 refine (aBE kind th cap st co nx ou vn vo l (by omega) hi v1 W hs s1 s2 (hw kind (by simp)) (hw th (by simp)) (hw cap (by simp))).mono fun e W' ⟨he,hb⟩=>?_
 subst he
 have aIl:DataW.Trod enc Tryz.prog W' 0 (fun b=>decide (b<W.heap.size)) true 26 _ _ p0:=Below.trod FW (by kernel_rfl) (of_decide_eq_true (by kernel_rfl)) h0k hb (fun x hx=>hlt x (by simp [hx]))
 have aIm:DataW.Trod enc Tryz.prog W' 0 (fun b=>decide (b<W.heap.size)) true 29 _ _ p1:=Below.trod FW (by kernel_rfl) (of_decide_eq_true (by kernel_rfl)) h1k hb (fun x hx=>hlt x (by simp [hx]))
 exact ⟨_,rfl,⟨_,_,_,[],p0++p1,[],hW',trodAll_cons_mk (shut_bool Tryz.underlying4 _) trodAll_mk0,trodAll_cons_mk aIl (trodAll_mk1 aIm),rfl,hb.frame _,fun h=>by cases h⟩⟩
theorem aAS (os:Os) (started:os.Started) (H:Type) (enc:TypeId×Value→H) (F:Stop.Interp) :
  ReturnsInHanded {} Tryz.checked os 11 .any ((Rows.OpenSpec.upto Rows.linearSpec).pre6 enc Tryz.prog Tryz.f11 Rows.linearUptoRow.domain false) (((Rows.OpenSpec.upto Rows.linearSpec).at F).post enc Tryz.prog Tryz.f11 false true false false):=by
 refine returnsInHanded_of_cond (C:=Tryz.checked) (s:=Rows.OpenSpec.upto Rows.linearSpec) (k:=Rows.uptoSmall) rfl TD started (by kernel_rfl) Tryz.func11
  (OpenSpec.witness (enc:=enc) (C:=Tryz.checked) (s:=Rows.OpenSpec.upto Rows.linearSpec) (k:=Rows.uptoSmall) rfl false ⟨#[],#[.agg #[.int .i64 0,.int .i64 0,.int .i64 0,.int .i64 0,.int .i64 0,.slice none 0 0,.slice none 0 0],.slice none 0 0],[]⟩ 8 (by kernel_rfl) (by kernel_rfl) (by kernel_rfl)
   (x:=([.agg [.lit (.int .i64 0),.lit (.int .i64 0),.lit (.int .i64 0),.agg [.lit (.int .i64 0),.lit (.int .i64 0),.nil,.nil]],.nil],[],[])) (by kernel_rfl) rfl (by kernel_rfl)) ?_
 intro W base args ds gs before hval hW _ hk _
 exact aAA H enc W base args ds gs before hval hW hk
theorem aCp {a b:Bool} (h:a=true) (h':b=true):(a && b)=true:=by rw [h,h'];rfl
theorem aAY:Tryz.pinned.checked.prog.funcNamed Rows.linearUptoRow.func=some 11:=by kernel_rfl
theorem aAZ:joinedFacts Tryz.pinned.checked.prog 11 Tryz.f11 (Rows.OpenSpec.upto Rows.linearSpec).bare Rows.linearUptoRow=true:=by
 unfold joinedFacts
 repeat' with_reducible refine aCp ?_ ?_
 all_goals as_aux_lemma=>kernel_rfl
theorem aBi:Tryz.f11.isInstance Tryz.pinned.checked.prog Rows.linearUptoRow.origin Rows.linearUptoRow.targs:=of_decide_eq_true (by kernel_rfl)
theorem aBl:Tryz.f11.isWrapper Tryz.pinned.checked.prog Rows.linearUptoRow.wrapper Rows.linearUptoRow.mainSum:=by
 unfold Func.isWrapper
 first
  |(rw [if_pos (by decide +kernel)];kernel_rfl)
  |(rw [if_neg (by decide +kernel)];exact ⟨rfl,rfl⟩)
theorem linear_upto:Rows.LinearUptoSaid :=
 OpenClaim.holds_of_cond 11 Tryz.f11 rfl rfl rfl rfl rfl rfl rfl ⟨rfl,rfl,rfl,rfl,rfl⟩ rfl rfl rfl rfl rfl aAY Tryz.func11 aAZ aBi aBl
  (fun os started H enc _ F=>aAS os started H enc F)
end Go.Proofs.YtefjhnhdagolhaaGreat
