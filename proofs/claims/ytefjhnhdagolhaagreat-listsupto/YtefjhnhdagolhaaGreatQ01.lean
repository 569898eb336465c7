import Derived.Test.YtefjhnhdagolhaaGreatQ00
namespace Go.Proofs.YtefjhnhdagolhaaGreat.M
def aI {α:Type} (f:Nat→α) (i:Nat) (v:α):Nat→α:=fun k=>if k=i then v else f k
theorem aC {α:Type} (f:Nat→α) (i:Nat) (v:α):aI f i v i=v:=by simp [aI]
theorem aD {α:Type} (f:Nat→α) {i k:Nat} (v:α) (h:k≠i):aI f i v k=f k:=by simp [aI,h]
structure Op where
 c:Int
 a:Int
 b:Int
def Op.w (o:Op) (i:Nat):Int:=if i=0 then o.c else if i=1 then o.a else o.b
structure MD where
 s:Int
 v:Int
structure Plain (σ:Type) where
 first:σ
 apply:σ→Op→σ×MD
structure dA (σ:Type) where
 st:σ
 bs:List (Nat×List Nat)
structure aS (σ:Type) where
 phase:Nat
 past:Nat
 op:Op
 cX:Bool
 aE:Nat
 again:Bool
 spare:Nat
 kept:Nat
 stamp:Nat
 aW:Nat
 dw:Nat→Int
 now:Option (dA σ)
 dM:Option (dA σ)
 tg:Nat→Int
 aK:List Nat
 heard:Nat→Int
 found:Nat
 zI:Int
 val:Int
 ended:Bool
structure cA (σ:Type) where
 cC:Nat→Int
 eS:Nat→Nat→Int
 rw:Nat→Nat→Int
 gC:Nat→Option (dA σ×dA σ)
 dZ:Nat
 prec:Nat
 th:Nat→aS σ
def tw (n:Nat):Nat:=(n+15) / 16
def aO (n:Nat):Nat:=tw n+2*n
def aG (n t:Nat):Nat:=tw n+t
def aJ (n t:Nat):Nat:=tw n+n+t
def eT (f:Nat→Int) (t:Nat):Bool:=decide ((f (t / 16) / 2 ^ (t % 16)) % 2=1)
section
variable {σ:Type}
def aS.enter (e:aS σ) (p:Nat):aS σ:={e with phase:=p,past:=0}
def aS.pass (e:aS σ) (steps next:Nat):aS σ:=if e.past+1=steps then e.enter next else {e with past:=e.past+1}
def aS.bK (e:aS σ):aS σ:=if 0<e.aE then e.enter 3 else e.enter 4
def aS.fail (e:aS σ) (cap:Nat):aS σ:=if e.again then aS.enter {e with aE:=min (2*e.aE+1) cap} 11 else aS.bK {e with aE:=min (2*e.aE+1) cap,again:=true}
def aS.waiting (e:aS σ) (n:Nat):List Nat:=(List.range n).filter fun i=>eT e.tg i != eT e.dw i
def eO (h:Nat→Int):Op:=⟨h 0,h 1,h 2⟩
def aS.apply (P:Plain σ) (n:Nat) (e:aS σ) (k:Nat):aS σ :=
 match e.now with
 |none=>e
 |some v=>{e with now:=some {v with st:=(P.apply v.st (eO e.heard)).1},dw:=aI (aI e.dw (aG n k) (P.apply v.st (eO e.heard)).2.s) (aJ n k) (P.apply v.st (eO e.heard)).2.v}
def aS.close (n:Nat) (e:aS σ):aS σ :=
 {e with dw:=fun i=>if i<tw n then e.tg i else e.dw i,now:=e.now.map fun v=>{v with bs:=(e.dM.map dA.bs).getD []++[(e.stamp+1,e.aK)]}}
def step (P:Plain σ) (n cap:Nat) (E:cA σ) (t:Nat):cA σ :=
 let e:=E.th t
 match e.phase with
 |1=>{E with eS:=aI E.eS t (aI (E.eS t) e.past (e.op.w e.past)),th:=aI E.th t (e.pass 3 2)}
 |2=>{E with cC:=aI E.cC (t / 16) (E.cC (t / 16)+(if e.cX then -(2 ^ (t % 16)) else 2 ^ (t % 16))),th:=aI E.th t (aS.bK {e with cX:=!e.cX})}
 |3=>{E with th:=aI E.th t (e.pass e.aE 4)}
 |4=>{E with th:=aI E.th t (aS.enter {e with stamp:=E.dZ,aW:=E.prec} 5)}
 |5=>{E with th:=aI E.th t (aS.pass (if e.past<aO n then {e with dw:=aI e.dw e.past (E.rw e.aW e.past)} else {e with now:=(E.gC e.aW).map Prod.fst,dM:=(E.gC e.aW).map Prod.fst}) (aO n+1) 6)}
 |6=>{E with th:=aI E.th t (aS.pass {e with tg:=aI e.tg e.past (E.cC e.past)} (tw n) 7)}
 |7=>{E with th:=aI E.th t (if E.dZ=e.stamp then aS.enter {e with aK:=e.waiting n} (if t∈e.waiting n then 8 else 11) else e.fail cap)}
 |8 =>
  let k:=e.aK.getD (e.past / 3) 0
  let e1:={e with heard:=aI e.heard (e.past % 3) (E.eS k (e.past % 3))}
  let e2:=if e.past % 3=2 then e1.apply P n k else e1
  let e3:=if e.past+1=3*e.aK.length then e2.close n else e2
  {E with th:=aI E.th t (e3.pass (3*e.aK.length) 9)}
 |9 =>
  if e.past<aO n then {E with rw:=aI E.rw e.spare (aI (E.rw e.spare) e.past (e.dw e.past)),th:=aI E.th t (e.pass (aO n+1) 10)}
  else {E with gC:=aI E.gC e.spare (e.now.bind fun v=>e.dM.map fun f=>(v,f)),th:=aI E.th t (e.pass (aO n+1) 10)}
 |10 =>
  if E.dZ=e.stamp∧E.prec=e.aW then {E with dZ:=e.stamp+1,prec:=e.spare,th:=aI E.th t (aS.enter {e with spare:=e.kept,kept:=e.spare,aE:=e.aE / 2} 11)}
  else {E with th:=aI E.th t (e.fail cap)}
 |11=>{E with th:=aI E.th t (aS.enter {e with found:=E.prec} 12)}
 |12=>{E with th:=aI E.th t (aS.enter {e with zI:=E.rw e.found (aG n t)} 13)}
 |13=>{E with th:=aI E.th t (aS.enter {e with val:=E.rw e.found (aJ n t),ended:=true} 0)}
 |_=>E
def begin (E:cA σ) (t:Nat) (op:Op):cA σ:={E with th:=aI E.th t (aS.enter {E.th t with op:=op,again:=false} 1)}
end
structure aT where
 ops:List Op
 ended:Nat
 aL:Nat
 part:Nat
 left:Nat
 aE:Nat
 tries:Nat
 stamp:Nat
 flipped:Nat→Nat
 aK:List Nat
structure aR where
 th:Nat→aT
 bs:List (List Nat)
def cnt (bs:List (List Nat)) (k:Nat):Nat:=bs.flatten.count k
def aT.len (n:Nat) (x:aT) (part:Nat):Nat :=
 if part=1∨part=11 then 3 else if part=3 then x.aE else if part=5∨part=9 then aO n+1 else if part=6 then tw n else if part=8 then 3*x.aK.length else 1
def aT.enter (n:Nat) (x:aT) (part:Nat):aT :=
 if x.len n part=0 then {x with part:=part+1,left:=x.len n (part+1)} else {x with part:=part,left:=x.len n part}
def aT.fail (n cap:Nat) (x:aT):aT :=
 if x.tries=2 then aT.enter n {x with aE:=min (2*x.aE+1) cap} 11 else aT.enter n {x with aE:=min (2*x.aE+1) cap,tries:=2} 3
def aR.pending (n:Nat) (Y:aR) (x:aT):List Nat:=(List.range n).filter fun k=>decide ((x.flipped k+cnt Y.bs k) % 2=1)
def aR.set (Y:aR) (t:Nat) (x:aT):aR:={Y with th:=aI Y.th t x}
def over (n cap:Nat) (Y:aR) (t:Nat) (x:aT):aR×Bool :=
 match x.part with
 |2=>(Y.set t (aT.enter n {x with aL:=x.aL+1,tries:=1} 3),false)
 |4=>(Y.set t (aT.enter n {x with stamp:=Y.bs.length} 5),false)
 |7=>(Y.set t (if Y.bs.length=x.stamp then aT.enter n {x with aK:=Y.pending n x} (if t∈Y.pending n x then 8 else 11) else x.fail n cap),false)
 |10=>if Y.bs.length=x.stamp then ({th:=aI Y.th t (aT.enter n {x with aK:=[],aE:=x.aE / 2} 11),bs:=Y.bs++[x.aK]},false) else (Y.set t (x.fail n cap),false)
 |11=>(Y.set t {x with part:=0,ended:=x.ended+1},true)
 |p=>(Y.set t (x.enter n (p+1)),false)
def cP (n cap:Nat) (Y:aR) (t:Nat):aR×Bool :=
 let x:=Y.th t
 let x1:={x with left:=x.left-1,flipped:=if x.part=6 then fun k=>if k / 16=tw n-(x.left-1)-1∧k<n then (Y.th k).aL else x.flipped k else x.flipped}
 if 0<x.left-1 then (Y.set t x1,false) else over n cap Y t x1
def cQ (Y:aR) (t:Nat) (op:Op):aR:=Y.set t {Y.th t with ops:=(Y.th t).ops++[op],tries:=0,part:=1,left:=3}
end Go.Proofs.YtefjhnhdagolhaaGreat.M
namespace Go.Proofs.YtefjhnhdagolhaaGreat.M
def val (d:Nat→Nat):Nat→Nat
 |0=>0
 |m+1=>val d m+d m*2 ^ m
theorem IW {d:Nat→Nat} (h:∀ i,d i≤1):∀ m,val d m<2 ^ m
 |0=>by simp [val]
 |m+1=>by
  have h1:=IW h m
  have h2:d m*2 ^ m≤1*2 ^ m:=Nat.mul_le_mul_right _ (h m)
  simp only [val,Nat.pow_succ]
  omega
theorem ME {d:Nat→Nat} (h:∀ i,d i≤1):∀ (m j:Nat),j<m→val d m / 2 ^ j % 2=d j
 |0,j,hj=>absurd hj (Nat.not_lt_zero _)
 |m+1,j,hj=>by
  simp only [val]
  by_cases e:j=m
  ·subst e
   rw [Nat.add_mul_div_right _ _ (Nat.two_pow_pos j),Nat.div_eq_of_lt (IW h j),Nat.zero_add,Nat.mod_eq_of_lt (by have:=h j;omega)]
  ·have hjm:j<m:=by omega
   obtain ⟨q,rfl⟩:∃ q,m=j+1+q:=⟨m-j-1,by omega⟩
   rw [show d (j+1+q)*2 ^ (j+1+q)=(d (j+1+q)*2 ^ q*2)*2 ^ j by rw [Nat.pow_add,Nat.pow_succ];ac_rfl,Nat.add_mul_div_right _ _ (Nat.two_pow_pos j),Nat.add_mod,Nat.mul_mod_left,Nat.add_zero,Nat.mod_mod]
   exact ME h (j+1+q) j (by omega)
theorem val_congr {d d':Nat→Nat}:∀ (m:Nat),(∀ i,i<m→d i=d' i)→val d m=val d' m
 |0,_=>rfl
 |m+1,h=>by simp only [val];rw [val_congr m (fun i hi=>h i (by omega)),h m (by omega)]
theorem MF (d:Nat→Nat) (j v:Nat):∀ m,j<m→(val (aI d j v) m:Int)=(val d m:Int)+((v:Int)-(d j:Int))*2 ^ j
 |0,h=>absurd h (Nat.not_lt_zero _)
 |m+1,h=>by
  simp only [val]
  by_cases e:j=m
  ·subst e
   rw [val_congr (d':=d) j (fun i hi=>aD _ _ (by omega)),aC]
   push_cast
   rw [Int.sub_mul]
   omega
  ·have:=MF d j v m (by omega)
   rw [aD _ _ (Ne.symm e)]
   push_cast
   rw [this]
   omega
def II (n:Nat) (f:Nat→Nat) (w i:Nat):Nat:=if 16*w+i<n then f (16*w+i) % 2 else 0
def bits (n:Nat) (f:Nat→Nat) (w:Nat):Int:=(val (II n f w) 16:Nat)
theorem QU (n:Nat) (f:Nat→Nat) (w i:Nat):II n f w i≤1:=by unfold II;split<;>omega
theorem iI (n:Nat) (f:Nat→Nat) (w:Nat):0≤bits n f w:=by unfold bits;omega
theorem pS (n:Nat) (f:Nat→Nat) (w:Nat):bits n f w<65536:=by
 have:=IW (QU n f w) 16
 unfold bits
 omega
theorem uK (n:Nat) (f:Nat→Nat) (g:Nat→Int) (t:Nat) (ht:t<n) (hg:g (t / 16)=bits n f (t / 16)):eT g t=decide (f t % 2=1):=by
 have h:=ME (QU n f (t / 16)) 16 (t % 16) (Nat.mod_lt _ (by decide))
 unfold eT
 rw [hg]
 have e:(bits n f (t / 16) / 2 ^ (t % 16)) % 2=((val (II n f (t / 16)) 16 / 2 ^ (t % 16) % 2:Nat):Int):=by unfold bits;push_cast;rfl
 rw [e,h]
 unfold II
 have e2:16*(t / 16)+t % 16=t:=by omega
 rw [e2,if_pos ht]
 by_cases q:f t % 2=1<;>simp [q]<;>omega
theorem mM {n:Nat} {f g:Nat→Nat} {w:Nat} (h:∀ k,k / 16=w→k<n→f k % 2=g k % 2):bits n f w=bits n g w:=by
 unfold bits
 rw [val_congr 16 (d':=II n g w)]
 intro i hi
 unfold II
 split
 ·rename_i q;exact h _ (by omega) q
 ·rfl
theorem NR (n:Nat) (f:Nat→Nat) (t:Nat) (ht:t<n):bits n (aI f t (f t+1)) (t / 16)=bits n f (t / 16)+(if f t % 2=1 then -(2 ^ (t % 16)) else 2 ^ (t % 16)):=by
 have e2:16*(t / 16)+t % 16=t:=by omega
 have h1:val (II n (aI f t (f t+1)) (t / 16)) 16=val (aI (II n f (t / 16)) (t % 16) ((f t+1) % 2)) 16:=by
  apply val_congr
  intro i hi
  unfold II aI
  by_cases q:i=t % 16
  ·subst q;simp [e2,ht]
  ·rw [if_neg q]
   have:¬(16*(t / 16)+i=t):=by omega
   simp [this]
 have h2:=MF (II n f (t / 16)) (t % 16) ((f t+1) % 2) 16 (Nat.mod_lt _ (by decide))
 have h3:II n f (t / 16) (t % 16)=f t % 2:=by unfold II;rw [e2,if_pos ht]
 unfold bits
 rw [h1,h2,h3]
 by_cases q:f t % 2=1
 ·rw [if_pos q,q,show (f t+1) % 2=0 by omega];simp
 ·rw [if_neg q,show f t % 2=0 by omega,show (f t+1) % 2=1 by omega];simp
theorem IX (n:Nat) (f:Nat→Nat) (t v w:Nat) (hw:w≠t / 16):bits n (aI f t v) w=bits n f w:=by
 apply mM
 intro k hk _
 rw [aD]
 rintro rfl
 exact hw hk.symm
theorem vZ (bs:List (List Nat)) (p:List Nat) (k:Nat):cnt (bs++[p]) k=cnt bs k+p.count k:=by simp [cnt]
theorem jG (bs:List (List Nat)) (s k:Nat):cnt (bs.take s) k≤cnt bs k:=by
 have e:cnt bs k=cnt (bs.take s) k+cnt (bs.drop s) k:=by
  unfold cnt
  rw [←List.count_append,←List.flatten_append,List.take_append_drop]
 omega
theorem zJ (bs:List (List Nat)) {s s':Nat} (h:s≤s') (k:Nat):cnt (bs.take s) k≤cnt (bs.take s') k:=by
 have:bs.take s=(bs.take s').take s:=by rw [List.take_take,Nat.min_eq_left h]
 rw [this]
 exact jG _ _ _
theorem mN (bs:List (List Nat)) {s:Nat} (h:bs.length≤s) (k:Nat):cnt (bs.take s) k=cnt bs k:=by rw [List.take_of_length_le h]
theorem wA (bs:List (List Nat)) (p:List Nat) {s:Nat} (h:s≤bs.length):(bs++[p]).take s=bs.take s:=by
 rw [List.take_append_of_le_length h]
def num (bs:List (List Nat)):List (Nat×List Nat):=bs.mapIdx fun i p=>(i+1,p)
theorem mO (bs:List (List Nat)) (p:List Nat):num (bs++[p])=num bs++[(bs.length+1,p)]:=by simp [num,List.mapIdx_append]
section
variable {σ:Type}
structure Rp (σ:Type) where
 st:σ
 c:Nat→Nat
 an:Nat→MD
def Rp.next (P:Plain σ) (ops:Nat→Nat→Op) (r:Rp σ) (k:Nat):Rp σ :=
 {st:=(P.apply r.st (ops k (r.c k))).1,c:=aI r.c k (r.c k+1),an:=aI r.an k (P.apply r.st (ops k (r.c k))).2}
def Rp.run (P:Plain σ) (ops:Nat→Nat→Op) (r:Rp σ) (l:List Nat):Rp σ:=l.foldl (Rp.next P ops) r
def Rp.new (P:Plain σ):Rp σ:={st:=P.first,c:=fun _=>0,an:=fun _=>⟨0,0⟩}
def replay (P:Plain σ) (ops:Nat→Nat→Op) (bs:List (List Nat)):Rp σ:=(Rp.new P).run P ops bs.flatten
theorem zK (P:Plain σ) (ops:Nat→Nat→Op) (bs:List (List Nat)) (p:List Nat):replay P ops (bs++[p])=(replay P ops bs).run P ops p:=by
 simp [replay,Rp.run,List.foldl_append]
theorem wB (P:Plain σ) (ops:Nat→Nat→Op) (r:Rp σ) (l:List Nat) (k:Nat):r.run P ops (l++[k])=(r.run P ops l).next P ops k:=by simp [Rp.run]
theorem FC (P:Plain σ) (ops:Nat→Nat→Op) (k:Nat):∀ (l:List Nat) (r:Rp σ),(r.run P ops l).c k=r.c k+l.count k
 |[],r=>by simp [Rp.run]
 |a::l,r=>by
  have:=FC P ops k l (r.next P ops a)
  simp only [Rp.run,List.foldl_cons] at this ⊢
  rw [this,List.count_cons]
  by_cases e:a=k
  ·subst e;simp [Rp.next,aC];omega
  ·rw [show (r.next P ops a).c k=r.c k from aD _ _ (Ne.symm e)];simp [e]
theorem wC (P:Plain σ) (ops:Nat→Nat→Op) (bs:List (List Nat)) (k:Nat):(replay P ops bs).c k=cnt bs k:=by
 unfold replay
 rw [FC]
 simp [Rp.new,cnt]
theorem tH (P:Plain σ) {ops ops':Nat→Nat→Op}:∀ (l:List Nat) (r:Rp σ),(∀ k i,i<r.c k+l.count k→ops k i=ops' k i)→r.run P ops l=r.run P ops' l
 |[],_,_=>rfl
 |a::l,r,h=>by
  have e:r.next P ops a=r.next P ops' a:=by
   unfold Rp.next
   rw [h a (r.c a) (by simp)]
  show (r.next P ops a).run P ops l=(r.next P ops' a).run P ops' l
  rw [←e]
  refine tH P l _ fun k i hi=>h k i ?_
  rw [List.count_cons]
  by_cases q:a=k
  ·subst q
   simp only [Rp.next,aC,beq_self_eq_true,if_true] at hi ⊢
   omega
  ·rw [show (r.next P ops a).c k=r.c k from aD _ _ (Ne.symm q)] at hi
   simp [q]
   exact hi
theorem BP (P:Plain σ) {ops ops':Nat→Nat→Op} {bs:List (List Nat)} (h:∀ k i,i<cnt bs k→ops k i=ops' k i):replay P ops bs=replay P ops' bs :=
 tH P _ _ fun k i hi=>h k i (by simpa [Rp.new,cnt] using hi)
theorem QV (P:Plain σ) (ops:Nat→Nat→Op) (k:Nat):∀ (l:List Nat) (r:Rp σ),k ∉ l→(r.run P ops l).an k=r.an k
 |[],_,_=>rfl
 |a::l,r,h=>by
  simp only [List.mem_cons,not_or] at h
  show ((r.next P ops a).run P ops l).an k=_
  rw [QV P ops k l _ h.2]
  exact aD _ _ h.1
end
end Go.Proofs.YtefjhnhdagolhaaGreat.M
namespace Go.Proofs.YtefjhnhdagolhaaGreat.M
structure View (σ:Type) where
 bs:List (List Nat)
 aL:Nat→Nat
 ops:Nat→List Op
 cC:Nat→Int
 eS:Nat→Nat→Int
 rw:Nat→Nat→Int
 gC:Nat→Option (dA σ×dA σ)
 prec:Nat
 pb:Nat→Nat
 nf:Nat→Nat
section
variable {σ:Type}
def View.N (V:View σ):Nat:=V.bs.length
def View.op (V:View σ) (k i:Nat):Op:=(V.ops k).getD i ⟨0,0,0⟩
def View.rp (P:Plain σ) (V:View σ):Rp σ:=replay P V.op V.bs
def View.A (P:Plain σ) (V:View σ) (t:Nat):MD:=(V.rp P).an t
def View.at (V:View σ) (s k:Nat):Nat:=cnt (V.bs.take s) k
def View.quiet (V:View σ) (s t:Nat):Prop:=V.aL t=cnt V.bs t∧V.at s t=cnt V.bs t
structure fK (P:Plain σ) (n:Nat) (V:View σ):Prop where
 fl:∀ t,t<n→cnt V.bs t≤V.aL t∧V.aL t≤cnt V.bs t+1
 VJ:∀ t,t<n→V.aL t≤(V.ops t).length
 vQ:∀ t,t<n→cnt V.bs t<V.aL t→∀ i,i<3→V.eS t i=(V.op t (cnt V.bs t)).w i
 mem:∀ b∈V.bs,∀ k∈b,k<n
 cC:∀ w,w<tw n→V.cC w=bits n V.aL w
 IY:∀ w,w<tw n→V.rw V.prec w=bits n (cnt V.bs) w
 IZ:∀ t,t<n→V.rw V.prec (aG n t)=(V.A P t).s∧V.rw V.prec (aJ n t)=(V.A P t).v
 zL:∃ f,V.gC V.prec=some (⟨(V.rp P).st,num V.bs⟩,f)
 recs:∀ r t,t<n→V.quiet (V.pb r) t→V.rw r (aG n t)=(V.A P t).s∧V.rw r (aJ n t)=(V.A P t).v
 pbN:∀ r,V.pb r≤V.N
 pbc:V.pb V.prec=V.N
 nfN:∀ t,V.nf t≤V.N
 QW:∀ t,t<n→V.nf t+2≤V.N→V.aL t=cnt V.bs t
def iD (P:Plain σ) (n:Nat) (V:View σ) (s c:Nat) (dw:Nat→Int):Prop :=
 ∀ k,k<n→V.quiet s k→(aG n k<c→dw (aG n k)=(V.A P k).s)∧(aJ n k<c→dw (aJ n k)=(V.A P k).v)
def iA (n:Nat) (V:View σ) (t s c:Nat) (tg:Nat→Int) (fd:Nat→Nat):Prop :=
 (∀ w,w<c→tg w=bits n fd w)∧∀ k,k<n→k / 16<c→V.at s k≤fd k∧fd k≤V.aL k∧(k=t∨V.nf k<s→fd k=V.aL k)
def nN (n:Nat) (V:View σ) (s t:Nat) (aK:List Nat) (fd:Nat→Nat):Prop :=
 aK=(List.range n).filter (fun k=>decide (fd k=V.at s k+1))∧t∈aK∧∀ k,k<n→fd k≤V.at s k+1
def kE (n:Nat) (r:Rp σ) (dw:Nat→Int):Prop:=∀ k,k<n→dw (aG n k)=(r.an k).s∧dw (aJ n k)=(r.an k).v
structure eB (P:Plain σ) (n cap:Nat) (V:View σ) (t:Nat) (e:aS σ) (x:aT):Prop where
 p1:x.part≤11
 p2:x.part<11→e.phase=x.part
 p3:x.part≠0→x.part<11→e.past+x.left=x.len n x.part∧0<x.left
 p4:x.part=11→1≤x.left∧x.left≤3∧e.phase=14-x.left
 xo:x.ops=V.ops t
 xf:x.aL=V.aL t
 bk:e.aE=x.aE
 bc:x.aE≤cap
 ag:x.part≠0→e.again=decide (x.tries=2)
 sD:e.cX=decide (V.aL t % 2=1)
 tI:x.part≠0→(V.ops t).length≠0∧e.op=V.op t ((V.ops t).length-1)
 c0:x.part=0→(V.ops t).length=V.aL t∧x.ended=V.aL t∧cnt V.bs t=V.aL t
 c1:x.part=1∨x.part=2→(V.ops t).length=V.aL t+1∧x.ended=V.aL t∧cnt V.bs t=V.aL t
 c3:3≤x.part→(V.ops t).length=V.aL t∧x.ended+1=V.aL t
 mK:x.part=11→cnt V.bs t=V.aL t
 NS:x.part=1→∀ i,i<e.past→V.eS t i=e.op.w i
 tJ:2≤x.part→∀ i,i<3→V.eS t i=e.op.w i
 sp:(e.spare=2*t+1∧e.kept=2*t+2)∨(e.spare=2*t+2∧e.kept=2*t+1)
 sF:e.spare≠V.prec
 en:e.ended=decide (0<x.ended)
 a0:x.part=0→0<x.ended→e.zI=(V.A P t).s∧e.val=(V.A P t).v
 a1:x.part=11→x.left=1→e.zI=(V.A P t).s
 fd:x.part=11→x.left≤2→V.at (V.pb e.found) t=cnt V.bs t
 t0:x.part=1∨x.part=2→x.tries≠2
 tr:3≤x.part→x.tries=1∨x.tries=2
 tn:3≤x.part→x.tries=2→V.nf t<V.N
 s1:5≤x.part→x.part≤10→x.stamp=e.stamp∧e.stamp≤V.N∧e.stamp≤V.pb e.aW∧(e.stamp=V.N→e.aW=V.prec)∧V.nf t≤e.stamp∧(x.tries=2→V.nf t<e.stamp)∧V.pb e.spare≤e.stamp∧(V.gC e.aW).isSome
 d5:x.part=5→iD P n V e.stamp e.past e.dw∧(e.stamp=V.N→∀ i,i<e.past→i<aO n→e.dw i=V.rw V.prec i)
 d6:6≤x.part→x.part≤10→iD P n V e.stamp (aO n) e.dw∧e.now.isSome∧e.dM.isSome
 d7:x.part=6∨x.part=7→e.stamp=V.N→(∀ i,i<aO n→e.dw i=V.rw V.prec i)∧e.now=some ⟨(V.rp P).st,num V.bs⟩∧e.dM=some ⟨(V.rp P).st,num V.bs⟩
 t6:x.part=6→iA n V t e.stamp e.past e.tg x.flipped
 t7:7≤x.part→x.part≤10→iA n V t e.stamp (tw n) e.tg x.flipped
 h8:8≤x.part→x.part≤10→e.aK=x.aK∧nN n V e.stamp t e.aK x.flipped
 ET:x.part=8→e.stamp=V.N→e.dM=some ⟨(V.rp P).st,num V.bs⟩∧e.now=some ⟨((V.rp P).run P V.op (e.aK.take (e.past / 3))).st,num V.bs⟩∧kE n ((V.rp P).run P V.op (e.aK.take (e.past / 3))) e.dw∧∀ q,q<e.past % 3→e.heard q=V.eS (e.aK.getD (e.past / 3) 0) q
 h9:x.part=9∨x.part=10→e.stamp=V.N→e.now=some ⟨((V.rp P).run P V.op e.aK).st,num (V.bs++[e.aK])⟩∧kE n ((V.rp P).run P V.op e.aK) e.dw∧∀ w,w<tw n→e.dw w=bits n x.flipped w
 w9:x.part=9→∀ i,i<e.past→i<aO n→V.rw e.spare i=e.dw i
 IJ:x.part=10→(∀ i,i<aO n→V.rw e.spare i=e.dw i)∧V.gC e.spare=e.now.bind fun v=>e.dM.map fun f=>(v,f)
def view (E:cA σ) (Y:aR) (pb nf:Nat→Nat):View σ :=
 {bs:=Y.bs,aL:=fun k=>(Y.th k).aL,ops:=fun k=>(Y.th k).ops,cC:=E.cC,eS:=E.eS,rw:=E.rw,gC:=E.gC,prec:=E.prec,pb:=pb,nf:=nf}
def nY (P:Plain σ) (n cap:Nat) (E:cA σ) (Y:aR) (nf:Nat→Nat):Prop :=
 ∃ pb,E.dZ=Y.bs.length∧fK P n (view E Y pb nf)∧∀ t,t<n→eB P n cap (view E Y pb nf) t (E.th t) (Y.th t)
def Inv (P:Plain σ) (n cap:Nat) (E:cA σ) (Y:aR):Prop :=
 ∃ pb nf,E.dZ=Y.bs.length∧fK P n (view E Y pb nf)∧∀ t,t<n→eB P n cap (view E Y pb nf) t (E.th t) (Y.th t)
end
end Go.Proofs.YtefjhnhdagolhaaGreat.M
namespace Go.Proofs.YtefjhnhdagolhaaGreat.M
section
variable {σ:Type} {P:Plain σ} {n cap:Nat}
theorem eB.eS {V:View σ} {t u:Nat} {e:aS σ} {x:aT} (h:eB P n cap V t e x) (hu:u≠t) (hq:cnt V.bs u=V.aL u) (f:Nat→Int):eB P n cap {V with eS:=aI V.eS u f} t e x:=by
 refine {h with NS:=?_,tJ:=?_,ET:=?_}
 ·intro h1 i hi
  show aI V.eS u f t i=_
  rw [aD _ _ (Ne.symm hu)]
  exact h.NS h1 i hi
 ·intro h1 i hi
  show aI V.eS u f t i=_
  rw [aD _ _ (Ne.symm hu)]
  exact h.tJ h1 i hi
 ·intro h1 h2
  obtain ⟨a1,a2,a3,a4⟩:=h.ET h1 h2
  refine ⟨a1,a2,a3,fun q YM=>?_⟩
  show _=aI V.eS u f _ q
  rw [a4 q YM,aD]
  rintro rfl
  obtain ⟨b1,b2,b3,b4⟩:=h.h8 (by omega) (by omega)
  obtain ⟨c1,c2⟩:=h.p3 (by omega) (by omega)
  have hl:x.len n x.part=3*x.aK.length:=by rw [h1];simp [aT.len]
  rw [hl,←b1] at c1
  have hlt:e.past / 3<e.aK.length:=by omega
  have hm:e.aK.getD (e.past / 3) 0∈e.aK:=by
   rw [List.getD_eq_getElem?_getD,List.getElem?_eq_getElem hlt]
   exact List.getElem_mem hlt
  generalize e.aK.getD (e.past / 3) 0=k at *
  rw [b2,List.mem_filter] at hm
  obtain ⟨m1,m2⟩:=hm
  have m1:=List.mem_range.1 m1
  have m2:=of_decide_eq_true m2
  have hsc:=((h.t7 (by omega) (by omega)).2 k m1 (by unfold tw;omega)).2.1
  have ha:V.at e.stamp k=cnt V.bs k:=mN _ (by rw [h2];exact Nat.le_refl _) k
  omega
theorem nN.count {V:View σ} {s t:Nat} {p:List Nat} {fd:Nat→Nat} (h:nN n V s t p fd) (k:Nat):p.count k=if k∈p then 1 else 0:=by
 have hn:p.Nodup:=by rw [h.1];exact List.nodup_range.filter _
 exact hn.count
theorem nN.mem {V:View σ} {s t:Nat} {p:List Nat} {fd:Nat→Nat} (h:nN n V s t p fd) {k:Nat}:k∈p↔k<n∧fd k=V.at s k+1:=by
 rw [h.1,List.mem_filter]
 simp
theorem jL (V:View σ) {s:Nat} (hs:s=V.N) (k:Nat):V.at s k=cnt V.bs k:=mN _ (by rw [hs];exact Nat.le_refl _) k
theorem uL {k:Nat} (hk:k<n):k / 16<tw n:=by unfold tw;omega
def View.flip (V:View σ) (u:Nat) (g:Nat→Int):View σ:={V with aL:=aI V.aL u (V.aL u+1),cC:=g,nf:=aI V.nf u V.N}
theorem wD {V:View σ} {u:Nat} {g:Nat→Int} {s k:Nat} (hq:cnt V.bs u=V.aL u) (h:(V.flip u g).quiet s k):V.quiet s k:=by
 obtain ⟨h1,h2⟩:=h
 by_cases e:k=u
 ·subst e
  simp only [View.flip,aC] at h1
  omega
 ·simp only [View.flip,aD _ _ e] at h1
  exact ⟨h1,h2⟩
theorem uM {V:View σ} {u:Nat} {g:Nat→Int} {s c:Nat} {dw:Nat→Int} (hq:cnt V.bs u=V.aL u) (h:iD P n V s c dw):iD P n (V.flip u g) s c dw :=
 fun k hk hqk=>h k hk (wD hq hqk)
theorem sG {V:View σ} {u t:Nat} (hu:t≠u) {g:Nat→Int} {s c:Nat} {tg:Nat→Int} {fd:Nat→Nat} (hs:s≤V.N) (h:iA n V t s c tg fd):iA n (V.flip u g) t s c tg fd:=by
 refine ⟨h.1,fun k hk hc=>?_⟩
 obtain ⟨h1,h2,h3⟩:=h.2 k hk hc
 refine ⟨h1,?_,?_⟩
 ·show fd k≤aI V.aL u (V.aL u+1) k
  by_cases e:k=u
  ·subst e;rw [aC];omega
  ·rw [aD _ _ e];exact h2
 ·show k=t∨aI V.nf u V.N k<s→fd k=aI V.aL u (V.aL u+1) k
  by_cases e:k=u
  ·subst e;rw [aC];omega
  ·rw [aD _ _ e,aD _ _ e];exact h3
theorem eB.flip {V:View σ} {t u:Nat} {e:aS σ} {x:aT} (h:eB P n cap V t e x) (hu:t≠u) (hq:cnt V.bs u=V.aL u) (g:Nat→Int):eB P n cap (V.flip u g) t e x:=by
 have hf:(V.flip u g).aL t=V.aL t:=aD _ _ hu
 have hn:(V.flip u g).nf t=V.nf t:=aD _ _ hu
 refine {h with xf:=?_,sD:=?_,c0:=?_,c1:=?_,c3:=?_,mK:=?_,tn:=?_,s1:=?_,d5:=?_,d6:=?_,t6:=?_,t7:=?_}
 ·rw [hf];exact h.xf
 ·rw [hf];exact h.sD
 ·rw [hf];exact h.c0
 ·rw [hf];exact h.c1
 ·rw [hf];exact h.c3
 ·rw [hf];exact h.mK
 ·rw [hn];exact h.tn
 ·rw [hn];exact h.s1
 ·exact fun h1=>⟨uM hq (h.d5 h1).1,(h.d5 h1).2⟩
 ·exact fun h1 h2=>⟨uM hq (h.d6 h1 h2).1,(h.d6 h1 h2).2⟩
 ·exact fun h1=>sG hu (h.s1 (by omega) (by omega)).2.1 (h.t6 h1)
 ·exact fun h1 h2=>sG hu (h.s1 (by omega) (by omega)).2.1 (h.t7 h1 h2)
theorem eB.word {V:View σ} {t r:Nat} {e:aS σ} {x:aT} (h:eB P n cap V t e x) (hp:r≠V.prec) (hr:e.spare≠r) (f:Nat→Int):eB P n cap {V with rw:=aI V.rw r f} t e x:=by
 have h1:aI V.rw r f V.prec=V.rw V.prec:=aD _ _ (Ne.symm hp)
 have h2:aI V.rw r f e.spare=V.rw e.spare:=aD _ _ hr
 refine {h with d5:=?_,d7:=?_,w9:=?_,IJ:=?_}
 ·intro q
  refine ⟨(h.d5 q).1,?_⟩
  show _→∀ i,_→_→e.dw i=aI V.rw r f V.prec i
  rw [h1]
  exact (h.d5 q).2
 ·intro q q2
  show (∀ i,_→e.dw i=aI V.rw r f V.prec i)∧_
  rw [h1]
  exact h.d7 q q2
 ·intro q
  show ∀ i,_→_→aI V.rw r f e.spare i=_
  rw [h2]
  exact h.w9 q
 ·intro q
  show (∀ i,_→aI V.rw r f e.spare i=_)∧_
  rw [h2]
  exact h.IJ q
theorem eB.state {V:View σ} {t r:Nat} {e:aS σ} {x:aT} (h:eB P n cap V t e x) (hr:e.spare≠r) (s:Option (dA σ×dA σ)) (hs:s.isSome):eB P n cap {V with gC:=aI V.gC r s} t e x:=by
 refine {h with s1:=?_,IJ:=?_}
 ·intro h1 h2
  obtain ⟨a1,a2,a3,a4,a5,a6,a7,a8⟩:=h.s1 h1 h2
  refine ⟨a1,a2,a3,a4,a5,a6,a7,?_⟩
  show (aI V.gC r s e.aW).isSome=true
  unfold aI
  split
  ·exact hs
  ·exact a8
 ·intro q
  show _∧aI V.gC r s e.spare=_
  rw [aD _ _ hr]
  exact h.IJ q
def View.cN (V:View σ) (r:Nat) (p:List Nat):View σ:={V with bs:=V.bs++[p],prec:=r,pb:=aI V.pb r (V.N+1)}
structure Good (n:Nat) (V:View σ) (p:List Nat):Prop where
 cn:∀ k,p.count k=if k∈p then 1 else 0
 lt:∀ k,k∈p→k<n
 fl:∀ k,k∈p→V.aL k=cnt V.bs k+1
theorem nN.good {V:View σ} {s t:Nat} {p:List Nat} {tg:Nat→Int} {fd:Nat→Nat} (h:nN n V s t p fd) (hs:s=V.N) (hc:iA n V t s (tw n) tg fd) (hG:fK P n V):Good n V p:=by
 refine ⟨h.count,fun k hk=>(h.mem.1 hk).1,fun k hk=>?_⟩
 obtain ⟨h1,h2⟩:=h.mem.1 hk
 have h3:=(hc.2 k h1 (uL h1)).2.1
 have h4:=hG.fl k h1
 rw [jL V hs] at h2
 omega
section
variable {V:View σ} {r:Nat} {p:List Nat}
theorem sH:(V.cN r p).N=V.N+1:=by simp [View.cN,View.N]
theorem sI (hp:Good n V p) (k:Nat):cnt (V.cN r p).bs k=cnt V.bs k+if k∈p then 1 else 0:=by
 show cnt (V.bs++[p]) k=_
 rw [vZ,hp.cn]
theorem BQ {s:Nat} (hs:s≤V.N) (k:Nat):(V.cN r p).at s k=V.at s k:=by
 show cnt ((V.bs++[p]).take s) k=_
 rw [wA _ _ hs]
 rfl
theorem JA:(V.cN r p).rp P=(V.rp P).run P V.op p:=zK P V.op V.bs p
theorem MG {k:Nat} (hk:k ∉ p):(V.cN r p).A P k=V.A P k:=by
 unfold View.A
 rw [JA,QV P V.op k p _ hk]
theorem AK (hp:Good n V p) {s k:Nat} (hs:s≤V.N) (h:(V.cN r p).quiet s k):V.quiet s k∧k ∉ p:=by
 obtain ⟨h1,h2⟩:=h
 rw [BQ hs,sI hp] at h2
 rw [sI hp] at h1
 have h3:=jG V.bs s k
 have h4:V.at s k=cnt (V.bs.take s) k:=rfl
 by_cases hk:k∈p
 ·rw [if_pos hk] at h2;omega
 ·rw [if_neg hk] at h1 h2
  exact ⟨⟨h1,h2⟩,hk⟩
theorem wE (hp:Good n V p) {s c:Nat} {dw:Nat→Int} (hs:s≤V.N) (h:iD P n V s c dw):iD P n (V.cN r p) s c dw:=by
 intro k hk hq
 obtain ⟨h1,h2⟩:=AK hp hs hq
 rw [MG h2]
 exact h k hk h1
theorem uN {t s c:Nat} {tg:Nat→Int} {fd:Nat→Nat} (hs:s≤V.N) (h:iA n V t s c tg fd):iA n (V.cN r p) t s c tg fd:=by
 refine ⟨h.1,fun k hk hc=>?_⟩
 rw [BQ hs]
 exact h.2 k hk hc
theorem NT {s t:Nat} {q:List Nat} {fd:Nat→Nat} (hs:s≤V.N) (h:nN n V s t q fd):nN n (V.cN r p) s t q fd:=by
 unfold nN
 simp only [BQ hs]
 exact h
theorem eB.cN {t:Nat} {e:aS σ} {x:aT} (h:eB P n cap V t e x) (hp:Good n V p) (hG:fK P n V) (hr:e.spare≠r):eB P n cap (V.cN r p) t e x:=by
 have hst:∀ {s:Nat},s≤V.N→s=(V.cN r p).N→False:=fun h1 h2=>by rw [sH] at h2;omega
 have hs:5≤x.part→x.part≤10→e.stamp≤V.N:=fun h1 h2=>(h.s1 h1 h2).2.1
 have hnp:cnt V.bs t=V.aL t→t ∉ p:=fun h1 h2=>by have:=hp.fl t h2;omega
 have IK:cnt V.bs t=V.aL t→cnt (V.cN r p).bs t=cnt V.bs t:=fun h1=>by rw [sI hp,if_neg (hnp h1)];rfl
 refine {h with c0:=?_,c1:=?_,mK:=?_,sF:=hr,a0:=?_,a1:=?_,fd:=?_,tn:=?_,s1:=?_,d5:=?_,d6:=?_,d7:=?_,t6:=?_,t7:=?_,h8:=?_,ET:=?_,h9:=?_}
 ·intro h1
  obtain ⟨a,b,c⟩:=h.c0 h1
  exact ⟨a,b,(IK c).trans c⟩
 ·intro h1
  obtain ⟨a,b,c⟩:=h.c1 h1
  exact ⟨a,b,(IK c).trans c⟩
 ·intro h1
  exact (IK (h.mK h1)).trans (h.mK h1)
 ·intro h1
  rw [MG (hnp (h.c0 h1).2.2)]
  exact h.a0 h1
 ·intro h1
  rw [MG (hnp (h.mK h1))]
  exact h.a1 h1
 ·intro h1 h2
  rw [IK (h.mK h1)]
  show (V.cN r p).at (aI V.pb r (V.N+1) e.found) t=_
  by_cases q:e.found=r
  ·rw [q,aC]
   show cnt ((V.cN r p).bs.take _) t=_
   rw [mN _ (by rw [←sH (r:=r) (p:=p)];exact Nat.le_refl _)]
   exact IK (h.mK h1)
  ·rw [aD _ _ q,BQ (hG.pbN _)]
   exact h.fd h1 h2
 ·intro h1 h2
  rw [sH]
  exact Nat.lt_succ_of_lt (h.tn h1 h2)
 ·intro h1 h2
  obtain ⟨a1,a2,a3,a4,a5,a6,a7,a8⟩:=h.s1 h1 h2
  refine ⟨a1,by rw [sH];omega,?_,fun q=>(hst a2 q).elim,a5,a6,?_,a8⟩
  ·show _≤aI V.pb r (V.N+1) e.aW
   unfold aI
   split<;>omega
  ·show aI V.pb r (V.N+1) e.spare≤_
   rw [aD _ _ hr]
   exact a7
 ·exact fun h1=>⟨wE hp (hs (by omega) (by omega)) (h.d5 h1).1,fun q=>(hst (hs (by omega) (by omega)) q).elim⟩
 ·exact fun h1 h2=>⟨wE hp (hs (by omega) h2) (h.d6 h1 h2).1,(h.d6 h1 h2).2⟩
 ·exact fun h1 q=>(hst (hs (by omega) (by omega)) q).elim
 ·exact fun h1=>uN (hs (by omega) (by omega)) (h.t6 h1)
 ·exact fun h1 h2=>uN (hs (by omega) (by omega)) (h.t7 h1 h2)
 ·exact fun h1 h2=>⟨(h.h8 h1 h2).1,NT (hs (by omega) (by omega)) (h.h8 h1 h2).2⟩
 ·exact fun h1 q=>(hst (hs (by omega) (by omega)) q).elim
 ·exact fun h1 q=>(hst (hs (by omega) (by omega)) q).elim
end
def View.more (V:View σ) (u:Nat) (o:Op):View σ:={V with ops:=aI V.ops u (V.ops u++[o])}
section
variable {V:View σ} {u:Nat} {o:Op}
theorem BR {k i:Nat} (hi:i<(V.ops k).length):(V.more u o).op k i=V.op k i:=by
 show (aI V.ops u (V.ops u++[o]) k).getD i _=_
 by_cases e:k=u
 ·subst e
  rw [aC]
  simp [View.op,List.getD_eq_getElem?_getD,List.getElem?_append_left hi]
 ·rw [aD _ _ e]
  rfl
theorem WD (hG:fK P n V) {k:Nat} (hk:¬k<n):cnt V.bs k=0:=by
 unfold cnt
 rw [List.count_eq_zero]
 intro hm
 obtain ⟨b,hb,hkb⟩:=List.mem_flatten.1 hm
 exact hk (hG.mem b hb k hkb)
theorem MH (hG:fK P n V) {k i:Nat} (hi:i<cnt V.bs k):i<(V.ops k).length:=by
 by_cases hk:k<n
 ·have:=hG.VJ k hk;have:=(hG.fl k hk).1;omega
 ·rw [WD hG hk] at hi;omega
theorem sJ (hG:fK P n V):(V.more u o).rp P=V.rp P:=BP P fun _ _ hi=>BR (MH hG hi)
theorem QX (hG:fK P n V) (k:Nat):(V.more u o).A P k=V.A P k:=by unfold View.A;rw [sJ hG]
theorem FD (hG:fK P n V) {p:List Nat} (hp:Good n V p) {q:List Nat} (hq:∀ k,q.count k≤p.count k):(V.rp P).run P (V.more u o).op q=(V.rp P).run P V.op q:=by
 refine tH P q _ fun k i hi=>BR ?_
 rw [show (V.rp P).c k=cnt V.bs k from wC P V.op V.bs k] at hi
 have h1:=hq k
 rw [hp.cn k] at h1
 by_cases hk:k∈p
 ·rw [if_pos hk] at h1
  have:=hp.fl k hk
  have:=hG.VJ k (hp.lt k hk)
  omega
 ·rw [if_neg hk] at h1
  exact MH hG (by omega)
theorem eB.more {t:Nat} {e:aS σ} {x:aT} (h:eB P n cap V t e x) (hG:fK P n V) (hu:t≠u):eB P n cap (V.more u o) t e x:=by
 have ho:(V.more u o).ops t=V.ops t:=aD _ _ hu
 have hop:∀ i,(V.more u o).op t i=V.op t i:=fun i=>by show ((V.more u o).ops t).getD i _=_;rw [ho];rfl
 have hA:∀ k,(V.more u o).A P k=V.A P k:=QX hG
 have hD:∀ {s c:Nat} {dw:Nat→Int},iD P n V s c dw→iD P n (V.more u o) s c dw:=fun h k hk hq=>by rw [hA];exact h k hk hq
 refine {h with xo:=?_,tI:=?_,c0:=?_,c1:=?_,c3:=?_,a0:=?_,a1:=?_,d5:=?_,d6:=?_,d7:=?_,ET:=?_,h9:=?_}
 ·rw [ho];exact h.xo
 ·rw [ho,hop];exact h.tI
 ·rw [ho];exact h.c0
 ·rw [ho];exact h.c1
 ·rw [ho];exact h.c3
 ·rw [hA];exact h.a0
 ·rw [hA];exact h.a1
 ·exact fun h1=>⟨hD (h.d5 h1).1,(h.d5 h1).2⟩
 ·exact fun h1 h2=>⟨hD (h.d6 h1 h2).1,(h.d6 h1 h2).2⟩
 ·intro h1 h2
  rw [sJ hG]
  exact h.d7 h1 h2
 ·intro h1 h2
  rw [sJ hG,FD hG ((h.h8 (by omega) (by omega)).2.good h2 (h.t7 (by omega) (by omega)) hG) (fun k=>(List.take_sublist _ _).count_le k)]
  exact h.ET h1 h2
 ·intro h1 h2
  rw [sJ hG,FD hG ((h.h8 (by omega) (by omega)).2.good h2 (h.t7 (by omega) (by omega)) hG) (fun k=>Nat.le_refl _)]
  exact h.h9 h1 h2
end
end
end Go.Proofs.YtefjhnhdagolhaaGreat.M
namespace Go.Proofs.YtefjhnhdagolhaaGreat.M
section
variable {σ:Type} {P:Plain σ} {n cap:Nat} {V:View σ}
theorem fK.eS (h:fK P n V) {u:Nat} (hq:cnt V.bs u=V.aL u) (f:Nat→Int):fK P n {V with eS:=aI V.eS u f}:=by
 refine {h with vQ:=?_}
 intro t ht hc i hi
 show aI V.eS u f t i=_
 rw [aD]
 ·exact h.vQ t ht hc i hi
 ·rintro rfl
  have FE:cnt V.bs t<V.aL t:=hc
  omega
theorem fK.more (h:fK P n V) {u:Nat} (o:Op):fK P n (V.more u o):=by
 have hA:∀ k,(V.more u o).A P k=V.A P k:=QX h
 have hl:∀ t,(V.ops t).length≤((V.more u o).ops t).length:=fun t=>by
  show _≤(aI V.ops u (V.ops u++[o]) t).length
  by_cases e:t=u
  ·subst e;rw [aC];simp
  ·rw [aD _ _ e];exact Nat.le_refl _
 refine {h with VJ:=?_,vQ:=?_,IZ:=?_,zL:=?_,recs:=?_}
 ·exact fun t ht=>Nat.le_trans (h.VJ t ht) (hl t)
 ·intro t ht hc i hi
  show V.eS t i=((V.more u o).op t (cnt V.bs t)).w i
  have FE:cnt V.bs t<V.aL t:=hc
  rw [BR (by have:=h.VJ t ht;omega)]
  exact h.vQ t ht hc i hi
 ·intro t ht;rw [hA];exact h.IZ t ht
 ·rw [sJ h];exact h.zL
 ·intro r t ht hq;rw [hA];exact h.recs r t ht hq
theorem fK.flip (h:fK P n V) {u:Nat} (hu:u<n) (hq:cnt V.bs u=V.aL u) (hl:(V.ops u).length=V.aL u+1) (ha:∀ i,i<3→V.eS u i=(V.op u (V.aL u)).w i) :
  fK P n (V.flip u (aI V.cC (u / 16) (V.cC (u / 16)+(if V.aL u % 2=1 then -(2 ^ (u % 16)) else 2 ^ (u % 16))))):=by
 generalize hg:aI V.cC (u / 16) (V.cC (u / 16)+(if V.aL u % 2=1 then -(2 ^ (u % 16)) else 2 ^ (u % 16)))=g
 have hf:∀ t,t≠u→(V.flip u g).aL t=V.aL t:=fun t ht=>aD _ _ ht
 have hfu:(V.flip u g).aL u=V.aL u+1:=aC _ _ _
 refine {h with fl:=?_,VJ:=?_,vQ:=?_,cC:=?_,recs:=?_,nfN:=?_,QW:=?_}
 ·intro t ht
  by_cases e:t=u
  ·subst e;rw [hfu];show cnt V.bs t≤_∧_≤cnt V.bs t+1;omega
  ·rw [hf t e];exact h.fl t ht
 ·intro t ht
  by_cases e:t=u
  ·subst e;rw [hfu];show _≤(V.ops t).length;omega
  ·rw [hf t e];exact h.VJ t ht
 ·intro t ht hc i hi
  by_cases e:t=u
  ·subst e
   show V.eS t i=(V.op t (cnt V.bs t)).w i
   rw [hq]
   exact ha i hi
  ·rw [hf t e] at hc;exact h.vQ t ht hc i hi
 ·intro w hw
  show g w=bits n (aI V.aL u (V.aL u+1)) w
  rw [←hg]
  by_cases e:w=u / 16
  ·subst e
   rw [aC,NR n V.aL u hu,h.cC _ hw]
  ·rw [aD _ _ e,IX _ _ _ _ _ e]
   exact h.cC w hw
 ·exact fun r t ht ZW=>h.recs r t ht (wD hq ZW)
 ·intro t
  show aI V.nf u V.N t≤V.N
  unfold aI
  split
  ·exact Nat.le_refl _
  ·exact h.nfN t
 ·intro t ht hn
  have hn':aI V.nf u V.N t+2≤V.N:=hn
  by_cases e:t=u
  ·subst e;rw [aC] at hn';omega
  ·rw [aD _ _ e] at hn'
   rw [hf t e]
   exact h.QW t ht hn'
theorem quiet_mono {s s' k:Nat} (hs:s≤s') (h:V.quiet s k):V.quiet s' k:=by
 obtain ⟨h1,h2⟩:=h
 refine ⟨h1,?_⟩
 have a:=zJ V.bs hs k
 have b:=jG V.bs s' k
 show cnt (V.bs.take s') k=_
 have c:cnt (V.bs.take s) k=cnt V.bs k:=h2
 omega
theorem fK.word (h:fK P n V) {r i s:Nat} {dw:Nat→Int} (hr:r≠V.prec) (hs:V.pb r≤s) (hd:iD P n V s (aO n) dw):fK P n {V with rw:=aI V.rw r (aI (V.rw r) i (dw i))}:=by
 have hp:aI V.rw r (aI (V.rw r) i (dw i)) V.prec=V.rw V.prec:=aD _ _ (Ne.symm hr)
 refine {h with IY:=?_,IZ:=?_,recs:=?_}
 ·intro w hw
  show aI V.rw r (aI (V.rw r) i (dw i)) V.prec w=_
  rw [hp]
  exact h.IY w hw
 ·intro t ht
  show aI V.rw r (aI (V.rw r) i (dw i)) V.prec _=_∧aI V.rw r (aI (V.rw r) i (dw i)) V.prec _=_
  rw [hp]
  exact h.IZ t ht
 ·intro r' t ht hq
  show aI V.rw r (aI (V.rw r) i (dw i)) r' _=_∧aI V.rw r (aI (V.rw r) i (dw i)) r' _=_
  by_cases e:r'=r
  ·subst e
   rw [aC]
   have old:=h.recs r' t ht hq
   obtain ⟨d1,d2⟩:=hd t ht (quiet_mono hs hq)
   have EU:aG n t<aO n:=by unfold aG aO;omega
   have YN:aJ n t<aO n:=by unfold aJ aO;omega
   constructor
   ·unfold aI
    split
    ·rename_i q;rw [←q];exact d1 EU
    ·exact old.1
   ·unfold aI
    split
    ·rename_i q;rw [←q];exact d2 YN
    ·exact old.2
  ·rw [aD _ _ e]
   exact h.recs r' t ht hq
theorem fK.state (h:fK P n V) {r:Nat} (hr:r≠V.prec) (s:Option (dA σ×dA σ)):fK P n {V with gC:=aI V.gC r s}:=by
 refine {h with zL:=?_}
 show ∃ f,aI V.gC r s V.prec=_
 rw [aD _ _ (Ne.symm hr)]
 exact h.zL
theorem fK.cN (h:fK P n V) {r s t:Nat} {p:List Nat} {tg:Nat→Int} {fd:Nat→Nat} {v f:dA σ} {dw:Nat→Int} (hs:s=V.N) (hsc:iA n V t s (tw n) tg fd) (QY:nN n V s t p fd) (hrw:∀ i,i<aO n→V.rw r i=dw i) (ZX:V.gC r=some (v,f))
  (hv:v=⟨((V.rp P).run P V.op p).st,num (V.bs++[p])⟩) (ha:kE n ((V.rp P).run P V.op p) dw) (hw:∀ w,w<tw n→dw w=bits n fd w):fK P n (V.cN r p):=by
 have hp:=QY.good hs hsc h
 have hA:∀ k,(V.cN r p).A P k=((V.rp P).run P V.op p).an k:=fun k=>by unfold View.A;rw [JA]
 have aB6:∀ k,k<n→V.rw r (aG n k)=((V.cN r p).A P k).s∧V.rw r (aJ n k)=((V.cN r p).A P k).v:=by
  intro k hk
  rw [hA,hrw _ (by unfold aG aO;omega),hrw _ (by unfold aJ aO;omega)]
  exact ha k hk
 have IK:∀ k,cnt (V.cN r p).bs k=cnt V.bs k+if k∈p then 1 else 0:=sI hp
 refine {h with fl:=?_,vQ:=?_,mem:=?_,IY:=?_,IZ:=aB6,zL:=?_,recs:=?_,pbN:=?_,pbc:=?_,nfN:=?_,QW:=?_}
 ·intro k hk
  show _≤V.aL k∧V.aL k≤_
  rw [IK]
  have:=h.fl k hk
  split
  ·rename_i hm;have:=hp.fl k hm;omega
  ·omega
 ·intro k hk hc i hi
  have FE:cnt (V.cN r p).bs k<V.aL k:=hc
  have hkp:k ∉ p:=fun hm=>by rw [IK,if_pos hm] at FE;have:=hp.fl k hm;omega
  show V.eS k i=(V.op k (cnt (V.cN r p).bs k)).w i
  rw [IK,if_neg hkp] at FE ⊢
  exact h.vQ k hk FE i hi
 ·intro b hb k hk
  have hb':b∈V.bs++[p]:=hb
  rcases List.mem_append.1 hb' with hb'|hb'
  ·exact h.mem b hb' k hk
  ·rw [List.mem_singleton.1 hb'] at hk;exact hp.lt k hk
 ·intro w hw'
  show V.rw r w=bits n (cnt (V.cN r p).bs) w
  rw [hrw w (by unfold aO;omega),hw w hw']
  apply mM
  intro k _ hk
  rw [IK]
  obtain ⟨b1,b2,-⟩:=hsc.2 k hk (uL hk)
  have b3:=QY.2.2 k hk
  rw [jL V hs] at b1 b3
  split
  ·rename_i hm
   have:=(QY.mem.1 hm).2
   rw [jL V hs] at this
   rw [this]
  ·rename_i hm
   have:fd k≠cnt V.bs k+1:=fun q=>hm (QY.mem.2 ⟨hk,by rw [jL V hs];exact q⟩)
   rw [show fd k=cnt V.bs k by omega]
   rfl
 ·refine ⟨f,?_⟩
  show V.gC r=_
  rw [ZX,hv,JA]
  rfl
 ·intro r' k hk hq
  by_cases e:r'=r
  ·subst e;exact aB6 k hk
  ·have YM:(V.cN r p).quiet (aI V.pb r (V.N+1) r') k:=hq
   rw [aD _ _ e] at YM
   obtain ⟨q1,q2⟩:=AK hp (h.pbN r') YM
   rw [MG q2]
   exact h.recs r' k hk q1
 ·intro r'
  rw [sH]
  show aI V.pb r (V.N+1) r'≤_
  unfold aI
  split
  ·exact Nat.le_refl _
  ·exact Nat.le_succ_of_le (h.pbN r')
 ·rw [sH]
  exact aC _ _ _
 ·intro k
  rw [sH]
  exact Nat.le_succ_of_le (h.nfN k)
 ·intro k hk hn
  rw [sH] at hn
  have hn':V.nf k+2≤V.N+1:=hn
  show V.aL k=_
  rw [IK]
  have b1:=(hsc.2 k hk (uL hk)).2.2 (.inr (by omega))
  have b2:=h.fl k hk
  split
  ·rename_i hm;exact hp.fl k hm
  ·rename_i hm
   have:fd k≠cnt V.bs k+1:=fun q=>hm (QY.mem.2 ⟨hk,by rw [jL V hs];exact q⟩)
   omega
end
end Go.Proofs.YtefjhnhdagolhaaGreat.M
