import Derived.Test.YtefjhnhdagolhaaGreatA00
set_option maxRecDepth 20000
namespace Go.Proofs.YtefjhnhdagolhaaGreat.M
def aM {α:Type} (f:Nat→α) (i:Nat) (v:α):Nat→α:=fun k=>if k=i then v else f k
theorem aC {α:Type} (f:Nat→α) (i:Nat) (v:α):aM f i v i=v:=by simp [aM]
theorem aD {α:Type} (f:Nat→α) {i k:Nat} (v:α) (h:k≠i):aM f i v k=f k:=by simp [aM,h]
structure Op where
 c:Int
 a:Int
 b:Int
def Op.w (o:Op) (i:Nat):Int:=if i=0 then o.c else if i=1 then o.a else o.b
structure az where
 s:Int
 v:Int
structure Plain (σ:Type) where
 first:σ
 apply:σ→Op→σ×az
structure eX (σ:Type) where
 st:σ
 bs:List (Nat×List Nat)
structure bU (σ:Type) where
 phase:Nat
 past:Nat
 op:Op
 fZ:Bool
 aG:Nat
 again:Bool
 spare:Nat
 kept:Nat
 stamp:Nat
 cG:Nat
 dw:Nat→Int
 now:Option (eX σ)
 fD:Option (eX σ)
 tg:Nat→Int
 aK:List Nat
 heard:Nat→Int
 found:Nat
 VI:Int
 val:Int
 ended:Bool
structure bD (σ:Type) where
 dS:Nat→Int
 gY:Nat→Nat→Int
 rw:Nat→Nat→Int
 lI:Nat→Option (eX σ×eX σ)
 gB:Nat
 prec:Nat
 th:Nat→bU σ
def tw (n:Nat):Nat:=(n+15) / 16
def bC (n:Nat):Nat:=tw n+2*n
def aL (n t:Nat):Nat:=tw n+t
def aQ (n t:Nat):Nat:=tw n+n+t
def pG (f:Nat→Int) (t:Nat):Bool:=decide ((f (t / 16) / 2 ^ (t % 16)) % 2=1)
section
variable {σ:Type}
def bU.enter (e:bU σ) (p:Nat):bU σ:={e with phase:=p,past:=0}
def bU.pass (e:bU σ) (steps next:Nat):bU σ:=if e.past+1=steps then e.enter next else {e with past:=e.past+1}
def bU.dM (e:bU σ):bU σ:=if 0<e.aG then e.enter 3 else e.enter 4
def bU.fail (e:bU σ) (cap:Nat):bU σ:=if e.again then bU.enter {e with aG:=min (2*e.aG+1) cap} 11 else bU.dM {e with aG:=min (2*e.aG+1) cap,again:=true}
def bU.waiting (e:bU σ) (n:Nat):List Nat:=(List.range n).filter fun i=>pG e.tg i != pG e.dw i
def gW (h:Nat→Int):Op:=⟨h 0,h 1,h 2⟩
def bU.apply (P:Plain σ) (n:Nat) (e:bU σ) (k:Nat):bU σ :=
 match e.now with
 |none=>e
 |some v=>{e with now:=some {v with st:=(P.apply v.st (gW e.heard)).1},dw:=aM (aM e.dw (aL n k) (P.apply v.st (gW e.heard)).2.s) (aQ n k) (P.apply v.st (gW e.heard)).2.v}
def bU.close (n:Nat) (e:bU σ):bU σ :=
 {e with dw:=fun i=>if i<tw n then e.tg i else e.dw i,now:=e.now.map fun v=>{v with bs:=(e.fD.map eX.bs).getD []++[(e.stamp+1,e.aK)]}}
def step (P:Plain σ) (n cap:Nat) (E:bD σ) (t:Nat):bD σ :=
 let e:=E.th t
 match e.phase with
 |1=>{E with gY:=aM E.gY t (aM (E.gY t) e.past (e.op.w e.past)),th:=aM E.th t (e.pass 3 2)}
 |2=>{E with dS:=aM E.dS (t / 16) (E.dS (t / 16)+(if e.fZ then -(2 ^ (t % 16)) else 2 ^ (t % 16))),th:=aM E.th t (bU.dM {e with fZ:=!e.fZ})}
 |3=>{E with th:=aM E.th t (e.pass e.aG 4)}
 |4=>{E with th:=aM E.th t (bU.enter {e with stamp:=E.gB,cG:=E.prec} 5)}
 |5=>{E with th:=aM E.th t (bU.pass (if e.past<bC n then {e with dw:=aM e.dw e.past (E.rw e.cG e.past)} else {e with now:=(E.lI e.cG).map Prod.fst,fD:=(E.lI e.cG).map Prod.fst}) (bC n+1) 6)}
 |6=>{E with th:=aM E.th t (bU.pass {e with tg:=aM e.tg e.past (E.dS e.past)} (tw n) 7)}
 |7=>{E with th:=aM E.th t (if E.gB=e.stamp then bU.enter {e with aK:=e.waiting n} (if t∈e.waiting n then 8 else 11) else e.fail cap)}
 |8 =>
  let k:=e.aK.getD (e.past / 3) 0
  let e1:={e with heard:=aM e.heard (e.past % 3) (E.gY k (e.past % 3))}
  let e2:=if e.past % 3=2 then e1.apply P n k else e1
  let e3:=if e.past+1=3*e.aK.length then e2.close n else e2
  {E with th:=aM E.th t (e3.pass (3*e.aK.length) 9)}
 |9 =>
  if e.past<bC n then {E with rw:=aM E.rw e.spare (aM (E.rw e.spare) e.past (e.dw e.past)),th:=aM E.th t (e.pass (bC n+1) 10)}
  else {E with lI:=aM E.lI e.spare (e.now.bind fun v=>e.fD.map fun f=>(v,f)),th:=aM E.th t (e.pass (bC n+1) 10)}
 |10 =>
  if E.gB=e.stamp∧E.prec=e.cG then {E with gB:=e.stamp+1,prec:=e.spare,th:=aM E.th t (bU.enter {e with spare:=e.kept,kept:=e.spare,aG:=e.aG / 2} 11)}
  else {E with th:=aM E.th t (e.fail cap)}
 |11=>{E with th:=aM E.th t (bU.enter {e with found:=E.prec} 12)}
 |12=>{E with th:=aM E.th t (bU.enter {e with VI:=E.rw e.found (aL n t)} 13)}
 |13=>{E with th:=aM E.th t (bU.enter {e with val:=E.rw e.found (aQ n t),ended:=true} 0)}
 |_=>E
def begin (E:bD σ) (t:Nat) (op:Op):bD σ:={E with th:=aM E.th t (bU.enter {E.th t with op:=op,again:=false} 1)}
end
structure bJ where
 ops:List Op
 ended:Nat
 aO:Nat
 part:Nat
 left:Nat
 aG:Nat
 tries:Nat
 stamp:Nat
 flipped:Nat→Nat
 aK:List Nat
structure aR where
 th:Nat→bJ
 bs:List (List Nat)
def cnt (bs:List (List Nat)) (k:Nat):Nat:=bs.flatten.count k
def bJ.len (n:Nat) (x:bJ) (part:Nat):Nat :=
 if part=1∨part=11 then 3 else if part=3 then x.aG else if part=5∨part=9 then bC n+1 else if part=6 then tw n else if part=8 then 3*x.aK.length else 1
def bJ.enter (n:Nat) (x:bJ) (part:Nat):bJ :=
 if x.len n part=0 then {x with part:=part+1,left:=x.len n (part+1)} else {x with part:=part,left:=x.len n part}
def bJ.fail (n cap:Nat) (x:bJ):bJ :=
 if x.tries=2 then bJ.enter n {x with aG:=min (2*x.aG+1) cap} 11 else bJ.enter n {x with aG:=min (2*x.aG+1) cap,tries:=2} 3
def aR.pending (n:Nat) (Y:aR) (x:bJ):List Nat:=(List.range n).filter fun k=>decide ((x.flipped k+cnt Y.bs k) % 2=1)
def aR.set (Y:aR) (t:Nat) (x:bJ):aR:={Y with th:=aM Y.th t x}
def over (n cap:Nat) (Y:aR) (t:Nat) (x:bJ):aR×Bool :=
 match x.part with
 |2=>(Y.set t (bJ.enter n {x with aO:=x.aO+1,tries:=1} 3),false)
 |4=>(Y.set t (bJ.enter n {x with stamp:=Y.bs.length} 5),false)
 |7=>(Y.set t (if Y.bs.length=x.stamp then bJ.enter n {x with aK:=Y.pending n x} (if t∈Y.pending n x then 8 else 11) else x.fail n cap),false)
 |10=>if Y.bs.length=x.stamp then ({th:=aM Y.th t (bJ.enter n {x with aK:=[],aG:=x.aG / 2} 11),bs:=Y.bs++[x.aK]},false) else (Y.set t (x.fail n cap),false)
 |11=>(Y.set t {x with part:=0,ended:=x.ended+1},true)
 |p=>(Y.set t (x.enter n (p+1)),false)
def dZ (n cap:Nat) (Y:aR) (t:Nat):aR×Bool :=
 let x:=Y.th t
 let x1:={x with left:=x.left-1,flipped:=if x.part=6 then fun k=>if k / 16=tw n-(x.left-1)-1∧k<n then (Y.th k).aO else x.flipped k else x.flipped}
 if 0<x.left-1 then (Y.set t x1,false) else over n cap Y t x1
def eE (Y:aR) (t:Nat) (op:Op):aR:=Y.set t {Y.th t with ops:=(Y.th t).ops++[op],tries:=0,part:=1,left:=3}
def val (d:Nat→Nat):Nat→Nat
 |0=>0
 |m+1=>val d m+d m*2 ^ m
theorem kf {d:Nat→Nat} (h:∀ i,d i≤1):∀ m,val d m<2 ^ m
 |0=>by simp [val]
 |m+1=>by
  have h1:=kf h m;have h2:d m*2 ^ m≤1*2 ^ m:=Nat.mul_le_mul_right _ (h m);simp only [val,Nat.pow_succ];omega
theorem qc {d:Nat→Nat} (h:∀ i,d i≤1):∀ (m j:Nat),j<m→val d m / 2 ^ j % 2=d j
 |0,j,hj=>absurd hj (pY _)
 |m+1,j,hj=>by
  simp only [val]
  by_cases e:j=m
  ·subst e
   rw [Nat.add_mul_div_right _ _ (Nat.two_pow_pos j),Nat.div_eq_of_lt (kf h j),nJ,Nat.mod_eq_of_lt (by have:=h j;omega)]
  ·have hjm:j<m:=by omega
   obtain ⟨q,rfl⟩:∃ q,m=j+1+q:=⟨m-j-1,by omega⟩;rw [show d (j+1+q)*2 ^ (j+1+q)=(d (j+1+q)*2 ^ q*2)*2 ^ j by rw [Nat.pow_add,Nat.pow_succ];ac_rfl,Nat.add_mul_div_right _ _ (Nat.two_pow_pos j),Nat.add_mod,Nat.mul_mod_left,Nat.add_zero,Nat.mod_mod];exact qc h (j+1+q) j (by omega)
theorem val_congr {d d':Nat→Nat}:∀ (m:Nat),(∀ i,i<m→d i=d' i)→val d m=val d' m
 |0,_=>rfl
 |m+1,h=>by simp only [val];rw [val_congr m (fun i hi=>h i (by omega)),h m (by omega)]
theorem qd (d:Nat→Nat) (j v:Nat):∀ m,j<m→(val (aM d j v) m:Int)=(val d m:Int)+((v:Int)-(d j:Int))*2 ^ j
 |0,h=>absurd h (pY _)
 |m+1,h=>by
  simp only [val]
  by_cases e:j=m
  ·subst e
   rw [val_congr (d':=d) j (fun i hi=>aD _ _ (by omega)),aC]
   push_cast
   rw [Int.sub_mul];omega
  ·have:=qd d j v m (by omega)
   rw [aD _ _ (nI e)]
   push_cast
   rw [this];omega
def ah (n:Nat) (f:Nat→Nat) (w i:Nat):Nat:=if 16*w+i<n then f (16*w+i) % 2 else 0
def bits (n:Nat) (f:Nat→Nat) (w:Nat):Int:=(val (ah n f w) 16:Nat)
theorem aAr (n:Nat) (f:Nat→Nat) (w i:Nat):ah n f w i≤1:=by unfold ah;split<;>omega
theorem AU (n:Nat) (f:Nat→Nat) (w:Nat):0≤bits n f w:=by unfold bits;omega
theorem TN (n:Nat) (f:Nat→Nat) (w:Nat):bits n f w<65536:=by
 have:=kf (aAr n f w) 16;unfold bits;omega
theorem KO (n:Nat) (f:Nat→Nat) (g:Nat→Int) (t:Nat) (ht:t<n) (hg:g (t / 16)=bits n f (t / 16)):pG g t=decide (f t % 2=1):=by
 have h:=qc (aAr n f (t / 16)) 16 (t % 16) (Nat.mod_lt _ (by decide));unfold pG;rw [hg];have e:(bits n f (t / 16) / 2 ^ (t % 16)) % 2=((val (ah n f (t / 16)) 16 / 2 ^ (t % 16) % 2:Nat):Int):=by unfold bits;push_cast;rfl
 rw [e,h];unfold ah;have e2:16*(t / 16)+t % 16=t:=by omega
 rw [e2,aJ ht]
 by_cases q:f t % 2=1<;>simp [q]<;>omega
theorem zD {n:Nat} {f g:Nat→Nat} {w:Nat} (h:∀ k,k / 16=w→k<n→f k % 2=g k % 2):bits n f w=bits n g w:=by
 unfold bits;rw [val_congr 16 (d':=ah n g w)];intro i hi;unfold ah
 split
 ·rename_i q;exact h _ (by omega) q
 ·rfl
theorem sw (n:Nat) (f:Nat→Nat) (t:Nat) (ht:t<n):bits n (aM f t (f t+1)) (t / 16)=bits n f (t / 16)+(if f t % 2=1 then -(2 ^ (t % 16)) else 2 ^ (t % 16)):=by
 have e2:16*(t / 16)+t % 16=t:=by omega
 have h1:val (ah n (aM f t (f t+1)) (t / 16)) 16=val (aM (ah n f (t / 16)) (t % 16) ((f t+1) % 2)) 16:=by
  apply val_congr;intro i hi;unfold ah aM
  by_cases q:i=t % 16
  ·subst q;simp [e2,ht]
  ·rw [aN q]
   have:¬(16*(t / 16)+i=t):=by omega
   simp [this]
 have h2:=qd (ah n f (t / 16)) (t % 16) ((f t+1) % 2) 16 (Nat.mod_lt _ (by decide));have h3:ah n f (t / 16) (t % 16)=f t % 2:=by unfold ah;rw [e2,aJ ht]
 unfold bits;rw [h1,h2,h3]
 by_cases q:f t % 2=1
 ·rw [aJ q,q,show (f t+1) % 2=0 by omega];simp
 ·rw [aN q,show f t % 2=0 by omega,show (f t+1) % 2=1 by omega];simp
theorem ef (n:Nat) (f:Nat→Nat) (t v w:Nat) (hw:w≠t / 16):bits n (aM f t v) w=bits n f w:=by
 apply zD;intro k hk _;rw [aD];rintro rfl;exact hw hk.symm
theorem NL (bs:List (List Nat)) (p:List Nat) (k:Nat):cnt (bs++[p]) k=cnt bs k+p.count k:=by simp [cnt]
theorem rF (bs:List (List Nat)) (s k:Nat):cnt (bs.take s) k≤cnt bs k:=by
 have e:cnt bs k=cnt (bs.take s) k+cnt (bs.drop s) k:=by
  unfold cnt;rw [←SW,←aBV,List.take_append_drop]
 omega
theorem PZ (bs:List (List Nat)) {s s':Nat} (h:s≤s') (k:Nat):cnt (bs.take s) k≤cnt (bs.take s') k:=by
 have:bs.take s=(bs.take s').take s:=by rw [List.take_take,Nat.min_eq_left h]
 rw [this];exact rF _ _ _
theorem zG (bs:List (List Nat)) {s:Nat} (h:bs.length≤s) (k:Nat):cnt (bs.take s) k=cnt bs k:=by rw [rZ h]
theorem PJ (bs:List (List Nat)) (p:List Nat) {s:Nat} (h:s≤bs.length):(bs++[p]).take s=bs.take s:=by
 rw [List.take_append_of_le_length h]
def num (bs:List (List Nat)):List (Nat×List Nat):=bs.mapIdx fun i p=>(i+1,p)
theorem ET (bs:List (List Nat)) (p:List Nat):num (bs++[p])=num bs++[(bs.length+1,p)]:=by simp [num,List.mapIdx_append]
section
variable {σ:Type}
structure Rp (σ:Type) where
 st:σ
 c:Nat→Nat
 an:Nat→az
def Rp.next (P:Plain σ) (ops:Nat→Nat→Op) (r:Rp σ) (k:Nat):Rp σ :=
 {st:=(P.apply r.st (ops k (r.c k))).1,c:=aM r.c k (r.c k+1),an:=aM r.an k (P.apply r.st (ops k (r.c k))).2}
def Rp.run (P:Plain σ) (ops:Nat→Nat→Op) (r:Rp σ) (l:List Nat):Rp σ:=l.foldl (Rp.next P ops) r
def Rp.new (P:Plain σ):Rp σ:={st:=P.first,c:=fun _=>0,an:=fun _=>⟨0,0⟩}
def replay (P:Plain σ) (ops:Nat→Nat→Op) (bs:List (List Nat)):Rp σ:=(Rp.new P).run P ops bs.flatten
theorem QV (P:Plain σ) (ops:Nat→Nat→Op) (bs:List (List Nat)) (p:List Nat):replay P ops (bs++[p])=(replay P ops bs).run P ops p:=by
 simp [replay,Rp.run,List.foldl_append]
theorem OZ (P:Plain σ) (ops:Nat→Nat→Op) (r:Rp σ) (l:List Nat) (k:Nat):r.run P ops (l++[k])=(r.run P ops l).next P ops k:=by simp [Rp.run]
theorem ZK (P:Plain σ) (ops:Nat→Nat→Op) (k:Nat):∀ (l:List Nat) (r:Rp σ),(r.run P ops l).c k=r.c k+l.count k
 |[],r=>by simp [Rp.run]
 |a::l,r=>by
  have:=ZK P ops k l (r.next P ops a);simp only [Rp.run,List.foldl_cons] at this ⊢;rw [this,List.count_cons]
  by_cases e:a=k
  ·subst e;simp [Rp.next,aC];omega
  ·rw [show (r.next P ops a).c k=r.c k from aD _ _ (nI e)];simp [e]
theorem OW (P:Plain σ) (ops:Nat→Nat→Op) (bs:List (List Nat)) (k:Nat):(replay P ops bs).c k=cnt bs k:=by
 unfold replay;rw [ZK];simp [Rp.new,cnt]
theorem JX (P:Plain σ) {ops ops':Nat→Nat→Op}:∀ (l:List Nat) (r:Rp σ),(∀ k i,i<r.c k+l.count k→ops k i=ops' k i)→r.run P ops l=r.run P ops' l
 |[],_,_=>rfl
 |a::l,r,h=>by
  have e:r.next P ops a=r.next P ops' a:=by
   unfold Rp.next;rw [h a (r.c a) (by simp)]
  show (r.next P ops a).run P ops l=(r.next P ops' a).run P ops' l;rw [←e];refine JX P l _ fun k i hi=>h k i ?_
  rw [List.count_cons]
  by_cases q:a=k
  ·subst q
   simp only [Rp.next,aC,beq_self_eq_true,if_true] at hi ⊢;omega
  ·rw [show (r.next P ops a).c k=r.c k from aD _ _ (nI q)] at hi
   simp [q];exact hi
theorem VD (P:Plain σ) {ops ops':Nat→Nat→Op} {bs:List (List Nat)} (h:∀ k i,i<cnt bs k→ops k i=ops' k i):replay P ops bs=replay P ops' bs :=
 JX P _ _ fun k i hi=>h k i (by simpa [Rp.new,cnt] using hi)
theorem aBK (P:Plain σ) (ops:Nat→Nat→Op) (k:Nat):∀ (l:List Nat) (r:Rp σ),k ∉ l→(r.run P ops l).an k=r.an k
 |[],_,_=>rfl
 |a::l,r,h=>by
  simp only [BK,not_or] at h;show ((r.next P ops a).run P ops l).an k=_;rw [aBK P ops k l _ h.2];exact aD _ _ h.1
end
def EM (n cap:Nat):Nat:=cap+3+2*(bC n+1)+tw n+3*n
def bound (n cap:Nat):Nat:=4+2*EM n cap+3
def after (n cap p:Nat):Nat :=
 if p=1 then 1+EM n cap+3 else if p=2 then EM n cap+3 else if p=3 then EM n cap-cap+3 else if p=4 then 2*(bC n+1)+tw n+3*n+2+3
 else if p=5 then bC n+1+tw n+3*n+2+3 else if p=6 then bC n+1+3*n+2+3 else if p=7 then bC n+1+3*n+1+3 else if p=8 then bC n+1+1+3 else if p=9 then 1+3 else if p=10 then 3 else 0
def bJ.sU (n cap:Nat) (x:bJ):Nat:=if x.part=0 then 0 else x.left+after n cap x.part+if x.tries≠2∧x.part≤10 then EM n cap else 0
structure TOk (n cap:Nat) (x:bJ):Prop where
 p1:x.part≤11
 p2:x.part≠0→1≤x.left∧x.left≤x.len n x.part
 bc:x.aG≤cap
 t0:x.part=1∨x.part=2→x.tries≠2
theorem aDs {n:Nat} (h:0<n):0<tw n:=by unfold tw;omega
def mx (n cap p:Nat):Nat:=if p=1∨p=11 then 3 else if p=3 then cap else if p=5∨p=9 then bC n+1 else if p=6 then tw n else if p=8 then 3*n else 1
theorem TX {p:Nat} (h1:1≤p) (h2:p≤11):p=1∨p=2∨p=3∨p=4∨p=5∨p=6∨p=7∨p=8∨p=9∨p=10∨p=11:=by omega
theorem NG (n cap:Nat) {p:Nat} (h1:1≤p) (h2:p≤10):after n cap p=mx n cap (p+1)+after n cap (p+1):=by
 have hc:=TX h1 (by omega)
 rcases hc with rfl|rfl|rfl|rfl|rfl|rfl|rfl|rfl|rfl|rfl|rfl<;>simp [after,mx,EM]<;>omega
theorem aBo {n cap:Nat} {x:bJ} (p:Nat) (hb:x.aG≤cap) (hl:p=8→x.aK.length≤n):x.len n p≤mx n cap p:=by
 unfold bJ.len mx
 repeat (first|(split<;>try omega)|omega)
theorem OL {n:Nat} {x:bJ} {p:Nat} (hn:0<n) (h:x.len n p=0):p=3∨p=8:=by
 have hw:=aDs hn;unfold bJ.len at h
 repeat (first|omega|split at h)
theorem zR {n cap:Nat} {x:bJ} {p:Nat} (hn:0<n) (h1:1≤p) (h2:p≤11) (hb:x.aG≤cap) (hl:p=8→x.aK.length≤n):(x.enter n p).sU n cap≤mx n cap p+after n cap p+(if x.tries≠2∧p≤10 then EM n cap else 0):=by
 unfold bJ.enter
 split
 ·rename_i q
  have hp:=OL hn q;have e:=NG n cap h1 (by omega);have l:=aBo (n:=n) (cap:=cap) (x:=x) (p+1) hb (by omega);have g:bJ.sU n cap {x with part:=p+1,left:=x.len n (p+1)} = x.len n (p+1)+after n cap (p+1)+if x.tries≠2∧p+1≤10 then EM n cap else 0:=by unfold bJ.sU;rw [aN (Nat.succ_ne_zero _)]
  rw [g];have c:(x.tries≠2∧p+1≤10)↔(x.tries≠2∧p≤10):=by omega
  simp only [c];omega
 ·have l:=aBo (n:=n) (cap:=cap) (x:=x) p hb hl
  have g:bJ.sU n cap {x with part:=p,left:=x.len n p} = x.len n p+after n cap p+if x.tries≠2∧p≤10 then EM n cap else 0:=by
   unfold bJ.sU;rw [aN (by dsimp only;omega)]
  rw [g];omega
theorem KH (n:Nat) (x:bJ) (p:Nat):(x.enter n p).ops=x.ops∧(x.enter n p).ended=x.ended∧(x.enter n p).aO=x.aO∧(x.enter n p).aG=x.aG∧(x.enter n p).tries=x.tries∧(x.enter n p).stamp=x.stamp∧(x.enter n p).flipped=x.flipped∧(x.enter n p).aK=x.aK:=by
 unfold bJ.enter
 split<;>exact ⟨rfl,rfl,rfl,rfl,rfl,rfl,rfl,rfl⟩
theorem KW (n:Nat) (Y:aR) (x:bJ):(Y.pending n x).length≤n:=by
 unfold aR.pending;exact bK (List.length_filter_le _ _) (by simp)
theorem xz {n cap:Nat} {x:bJ} (hn:0<n):(x.fail n cap).sU n cap≤if x.tries=2 then 3 else EM n cap+3:=by
 unfold bJ.fail
 split
 ·rename_i q
  have h:=zR (n:=n) (cap:=cap) (x:={x with aG:=min (2*x.aG+1) cap}) (p:=11) hn (by decide) (by decide) (Nat.min_le_right _ _) (by omega);simp [after,mx] at h;exact h
 ·have h:=zR (n:=n) (cap:=cap) (x:={x with aG:=min (2*x.aG+1) cap,tries:=2}) (p:=3) hn (by decide) (by decide) (Nat.min_le_right _ _) (by omega)
  simp [after,mx] at h;have:cap≤EM n cap:=by unfold EM;omega
  omega
theorem CS {n cap:Nat} {Y:aR} {t:Nat} (hn:0<n) (h:TOk n cap (Y.th t)) (hp:(Y.th t).part≠0):((dZ n cap Y t).1.th t).sU n cap+1≤(Y.th t).sU n cap:=by
 obtain ⟨p1,p2,bc,t0⟩:=h;obtain ⟨l1,l2⟩:=p2 hp;unfold dZ;dsimp only;generalize (if (Y.th t).part=6 then fun k=>if k / 16=tw n-((Y.th t).left-1)-1∧k<n then (Y.th k).aO else (Y.th t).flipped k else (Y.th t).flipped)=fl
 by_cases q:0<(Y.th t).left-1
 ·rw [aJ q]
  simp only [aR.set,aC,bJ.sU,aN hp];omega
 ·rw [aN q]
  have hl:(Y.th t).left=1:=by omega
  generalize hx:(Y.th t)=x at *;have ha:EM n cap=cap+3+2*(bC n+1)+tw n+3*n:=rfl;have G:x.sU n cap=1+after n cap x.part+if x.tries≠2∧x.part≤10 then EM n cap else 0:=by unfold bJ.sU;rw [aN hp,hl]
  rw [G];have N:∀ x':bJ,x'.aG≤cap→∀ p,1≤p→p≤10→(p=7→x'.aK.length≤n)→(x'.tries=x.tries∨x'.tries=1∧x.tries≠2)→(x'.enter n (p+1)).sU n cap+1≤1+after n cap p+if x.tries≠2∧p≤10 then EM n cap else 0:=by
   intro x' a3 p a1 a2 a4 a5;have h:=zR (n:=n) (cap:=cap) (x:=x') (p:=p+1) hn (by omega) (by omega) a3 (by intro q;exact a4 (by omega));rw [NG n cap a1 a2]
   by_cases c:x.tries=2
   ·have:x'.tries=2:=by omega
    simp [c,this] at h ⊢;omega
   ·have:x'.tries≠2:=by omega
    simp only [c,this,ne_eq,not_false_eq_true,true_and] at h ⊢;rw [aJ a2];have:(if p+1≤10 then EM n cap else 0)≤EM n cap:=by split<;>omega
    omega
  have F:∀ x':bJ,x'.tries=x.tries→∀ p,7≤p→p≤10→(x'.fail n cap).sU n cap+1≤1+after n cap p+if x.tries≠2∧p≤10 then EM n cap else 0:=by
   intro x' a5 p a1 a2;have h:=xz (n:=n) (cap:=cap) (x:=x') hn;have h3:3≤after n cap p:=by
    have hc:p=7∨p=8∨p=9∨p=10:=by omega
    rcases hc with rfl|rfl|rfl|rfl<;>simp [after]<;>omega
   rw [a5] at h
   by_cases c:x.tries=2
   ·simp [c] at h ⊢;omega
   ·simp only [c,if_false,ne_eq,not_false_eq_true,true_and] at h ⊢
    rw [aJ a2];omega
  have hc:=TX (by omega) p1;unfold over;dsimp only
  rcases hc with c|c|c|c|c|c|c|c|c|c|c<;>rw [c]
  ·simp only [aR.set,aC];exact N _ (by exact bc) 1 (by decide) (by decide) (fun q=>absurd q (by decide)) (.inl (by rfl))
  ·simp only [aR.set,aC]
   exact N _ (by exact bc) 2 (by decide) (by decide) (fun q=>absurd q (by decide)) (.inr ⟨by rfl,t0 (.inr c)⟩)
  ·simp only [aR.set,aC];exact N _ (by exact bc) 3 (by decide) (by decide) (fun q=>absurd q (by decide)) (.inl (by rfl))
  ·simp only [aR.set,aC];exact N _ (by exact bc) 4 (by decide) (by decide) (fun q=>absurd q (by decide)) (.inl (by rfl))
  ·simp only [aR.set,aC];exact N _ (by exact bc) 5 (by decide) (by decide) (fun q=>absurd q (by decide)) (.inl (by rfl))
  ·simp only [aR.set,aC];exact N _ (by exact bc) 6 (by decide) (by decide) (fun q=>absurd q (by decide)) (.inl (by rfl))
  ·simp only [aR.set,aC]
   split
   ·split
    ·exact N _ (by exact bc) 7 (by decide) (by decide) (fun _=>by exact KW _ _ _) (.inl (by rfl))
    ·refine bK (Nat.succ_le_succ (zR hn (by decide) (by decide) (by exact bc) (fun q=>absurd q (by decide)))) ?_
     simp [mx,after];omega
   ·exact F _ (by rfl) 7 (by decide) (by decide)
  ·simp only [aR.set,aC];exact N _ (by exact bc) 8 (by decide) (by decide) (fun q=>absurd q (by decide)) (.inl (by rfl))
  ·simp only [aR.set,aC];exact N _ (by exact bc) 9 (by decide) (by decide) (fun q=>absurd q (by decide)) (.inl (by rfl))
  ·simp only [aR.set]
   split
   ·simp only [aC];exact N _ (by exact (bK (Nat.div_le_self _ _) bc)) 10 (by decide) (by decide) (fun q=>absurd q (by decide)) (.inl (by rfl))
   ·simp only [aC];exact F _ (by rfl) 10 (by decide) (by decide)
  ·simp only [aR.set,aC]
   simp [bJ.sU]
structure View (σ:Type) where
 bs:List (List Nat)
 aO:Nat→Nat
 ops:Nat→List Op
 dS:Nat→Int
 gY:Nat→Nat→Int
 rw:Nat→Nat→Int
 lI:Nat→Option (eX σ×eX σ)
 prec:Nat
 pb:Nat→Nat
 nf:Nat→Nat
section
variable {σ:Type}
def View.N (V:View σ):Nat:=V.bs.length
def View.op (V:View σ) (k i:Nat):Op:=(V.ops k).getD i ⟨0,0,0⟩
def View.rp (P:Plain σ) (V:View σ):Rp σ:=replay P V.op V.bs
def View.A (P:Plain σ) (V:View σ) (t:Nat):az:=(V.rp P).an t
def View.at (V:View σ) (s k:Nat):Nat:=cnt (V.bs.take s) k
def View.quiet (V:View σ) (s t:Nat):Prop:=V.aO t=cnt V.bs t∧V.at s t=cnt V.bs t
structure jN (P:Plain σ) (n:Nat) (V:View σ):Prop where
 fl:∀ t,t<n→cnt V.bs t≤V.aO t∧V.aO t≤cnt V.bs t+1
 opl:∀ t,t<n→V.aO t≤(V.ops t).length
 MP:∀ t,t<n→cnt V.bs t<V.aO t→∀ i,i<3→V.gY t i=(V.op t (cnt V.bs t)).w i
 mem:∀ b∈V.bs,∀ k∈b,k<n
 dS:∀ w,w<tw n→V.dS w=bits n V.aO w
 ug:∀ w,w<tw n→V.rw V.prec w=bits n (cnt V.bs) w
 fq:∀ t,t<n→V.rw V.prec (aL n t)=(V.A P t).s∧V.rw V.prec (aQ n t)=(V.A P t).v
 LJ:∃ f,V.lI V.prec=some (⟨(V.rp P).st,num V.bs⟩,f)
 recs:∀ r t,t<n→V.quiet (V.pb r) t→V.rw r (aL n t)=(V.A P t).s∧V.rw r (aQ n t)=(V.A P t).v
 pbN:∀ r,V.pb r≤V.N
 pbc:V.pb V.prec=V.N
 nfN:∀ t,V.nf t≤V.N
 aAO:∀ t,t<n→V.nf t+2≤V.N→V.aO t=cnt V.bs t
def nR (P:Plain σ) (n:Nat) (V:View σ) (s c:Nat) (dw:Nat→Int):Prop :=
 ∀ k,k<n→V.quiet s k→(aL n k<c→dw (aL n k)=(V.A P k).s)∧(aQ n k<c→dw (aQ n k)=(V.A P k).v)
def nL (n:Nat) (V:View σ) (t s c:Nat) (tg:Nat→Int) (fd:Nat→Nat):Prop :=
 (∀ w,w<c→tg w=bits n fd w)∧∀ k,k<n→k / 16<c→V.at s k≤fd k∧fd k≤V.aO k∧(k=t∨V.nf k<s→fd k=V.aO k)
def zU (n:Nat) (V:View σ) (s t:Nat) (aK:List Nat) (fd:Nat→Nat):Prop :=
 aK=(List.range n).filter (fun k=>decide (fd k=V.at s k+1))∧t∈aK∧∀ k,k<n→fd k≤V.at s k+1
def uQ (n:Nat) (r:Rp σ) (dw:Nat→Int):Prop:=∀ k,k<n→dw (aL n k)=(r.an k).s∧dw (aQ n k)=(r.an k).v
structure fX (P:Plain σ) (n cap:Nat) (V:View σ) (t:Nat) (e:bU σ) (x:bJ):Prop where
 p1:x.part≤11
 p2:x.part<11→e.phase=x.part
 p3:x.part≠0→x.part<11→e.past+x.left=x.len n x.part∧0<x.left
 p4:x.part=11→1≤x.left∧x.left≤3∧e.phase=14-x.left
 xo:x.ops=V.ops t
 xf:x.aO=V.aO t
 bk:e.aG=x.aG
 bc:x.aG≤cap
 ag:x.part≠0→e.again=decide (x.tries=2)
 IU:e.fZ=decide (V.aO t % 2=1)
 JO:x.part≠0→(V.ops t).length≠0∧e.op=V.op t ((V.ops t).length-1)
 c0:x.part=0→(V.ops t).length=V.aO t∧x.ended=V.aO t∧cnt V.bs t=V.aO t
 c1:x.part=1∨x.part=2→(V.ops t).length=V.aO t+1∧x.ended=V.aO t∧cnt V.bs t=V.aO t
 c3:3≤x.part→(V.ops t).length=V.aO t∧x.ended+1=V.aO t
 FK:x.part=11→cnt V.bs t=V.aO t
 rz:x.part=1→∀ i,i<e.past→V.gY t i=e.op.w i
 JL:2≤x.part→∀ i,i<3→V.gY t i=e.op.w i
 sp:(e.spare=2*t+1∧e.kept=2*t+2)∨(e.spare=2*t+2∧e.kept=2*t+1)
 IB:e.spare≠V.prec
 en:e.ended=decide (0<x.ended)
 a0:x.part=0→0<x.ended→e.VI=(V.A P t).s∧e.val=(V.A P t).v
 a1:x.part=11→x.left=1→e.VI=(V.A P t).s
 fd:x.part=11→x.left≤2→V.at (V.pb e.found) t=cnt V.bs t
 t0:x.part=1∨x.part=2→x.tries≠2
 tr:3≤x.part→x.tries=1∨x.tries=2
 tn:3≤x.part→x.tries=2→V.nf t<V.N
 s1:5≤x.part→x.part≤10→x.stamp=e.stamp∧e.stamp≤V.N∧e.stamp≤V.pb e.cG∧(e.stamp=V.N→e.cG=V.prec)∧V.nf t≤e.stamp∧(x.tries=2→V.nf t<e.stamp)∧V.pb e.spare≤e.stamp∧(V.lI e.cG).isSome
 d5:x.part=5→nR P n V e.stamp e.past e.dw∧(e.stamp=V.N→∀ i,i<e.past→i<bC n→e.dw i=V.rw V.prec i)
 d6:6≤x.part→x.part≤10→nR P n V e.stamp (bC n) e.dw∧e.now.isSome∧e.fD.isSome
 d7:x.part=6∨x.part=7→e.stamp=V.N→(∀ i,i<bC n→e.dw i=V.rw V.prec i)∧e.now=some ⟨(V.rp P).st,num V.bs⟩∧e.fD=some ⟨(V.rp P).st,num V.bs⟩
 t6:x.part=6→nL n V t e.stamp e.past e.tg x.flipped
 t7:7≤x.part→x.part≤10→nL n V t e.stamp (tw n) e.tg x.flipped
 h8:8≤x.part→x.part≤10→e.aK=x.aK∧zU n V e.stamp t e.aK x.flipped
 WN:x.part=8→e.stamp=V.N→e.fD=some ⟨(V.rp P).st,num V.bs⟩∧e.now=some ⟨((V.rp P).run P V.op (e.aK.take (e.past / 3))).st,num V.bs⟩∧uQ n ((V.rp P).run P V.op (e.aK.take (e.past / 3))) e.dw∧∀ q,q<e.past % 3→e.heard q=V.gY (e.aK.getD (e.past / 3) 0) q
 h9:x.part=9∨x.part=10→e.stamp=V.N→e.now=some ⟨((V.rp P).run P V.op e.aK).st,num (V.bs++[e.aK])⟩∧uQ n ((V.rp P).run P V.op e.aK) e.dw∧∀ w,w<tw n→e.dw w=bits n x.flipped w
 w9:x.part=9→∀ i,i<e.past→i<bC n→V.rw e.spare i=e.dw i
 ay:x.part=10→(∀ i,i<bC n→V.rw e.spare i=e.dw i)∧V.lI e.spare=e.now.bind fun v=>e.fD.map fun f=>(v,f)
def view (E:bD σ) (Y:aR) (pb nf:Nat→Nat):View σ :=
 {bs:=Y.bs,aO:=fun k=>(Y.th k).aO,ops:=fun k=>(Y.th k).ops,dS:=E.dS,gY:=E.gY,rw:=E.rw,lI:=E.lI,prec:=E.prec,pb:=pb,nf:=nf}
def AM (P:Plain σ) (n cap:Nat) (E:bD σ) (Y:aR) (nf:Nat→Nat):Prop :=
 ∃ pb,E.gB=Y.bs.length∧jN P n (view E Y pb nf)∧∀ t,t<n→fX P n cap (view E Y pb nf) t (E.th t) (Y.th t)
def Inv (P:Plain σ) (n cap:Nat) (E:bD σ) (Y:aR):Prop :=
 ∃ pb nf,E.gB=Y.bs.length∧jN P n (view E Y pb nf)∧∀ t,t<n→fX P n cap (view E Y pb nf) t (E.th t) (Y.th t)
end
structure Mark where
 b:Nat
 t:Nat
 s:Nat
def marks (l:List (Nat×Nat)):List Mark:=l.mapIdx fun i x=>⟨x.1,x.2,((l.take i).map Prod.snd).count x.2⟩
theorem uN (l:List (Nat×Nat)):(marks l).length=l.length:=by simp [marks]
theorem OO (l:List (Nat×Nat)) (b t:Nat):marks (l++[(b,t)])=marks l++[⟨b,t,(l.map Prod.snd).count t⟩]:=by
 unfold marks;rw [List.mapIdx_append];congr 1
 ·apply List.ext_getElem?
  intro i;simp only [List.getElem?_mapIdx]
  by_cases h:i<l.length
  ·rw [List.take_append_of_le_length (Nat.le_of_lt h)]
  ·rw [EC (Nat.le_of_not_lt h)];rfl
 ·simp
def tagged (bs:List (Nat×List Nat)):List (Nat×Nat):=bs.flatMap fun x=>x.2.map fun t=>(x.1,t)
theorem LB (bs:List (Nat×List Nat)) (q:Nat) (p:List Nat):tagged (bs++[(q,p)])=tagged bs++p.map fun t=>(q,t):=by simp [tagged]
theorem EX:∀ bs:List (List Nat),(tagged (num bs)).map Prod.snd=bs.flatten:=by
 intro bs;have:∀ (k:Nat) (bs:List (List Nat)),((bs.mapIdx fun i p=>(i+k,p)).flatMap fun x=>x.2.map fun t=>(x.1,t)).map Prod.snd=bs.flatten:=by
  intro k bs
  induction bs generalizing k with
  |nil=>rfl
  |cons p bs ih =>
   simp only [List.mapIdx_cons,List.flatMap_cons,List.map_append,List.flatten_cons,List.map_map];have:=ih (k+1);rw [show (fun i p=>(i+1+k,p):Nat→List Nat→Nat×List Nat)=fun i p=>(i+(k+1),p) by funext i p;rw [Nat.add_assoc,Nat.add_comm 1 k],this];congr 1
   induction p with
   |nil=>rfl
   |cons a p ihp=>simp [Function.comp_def]
 exact this 1 bs
def aR.all (Y:aR):List (Nat×Nat):=tagged (num Y.bs)
def aR.order (Y:aR):List Mark:=marks Y.all
theorem aR.ME (Y:aR):Y.all.map Prod.snd=Y.bs.flatten:=EX Y.bs
theorem MM (bs:List (List Nat)):(num bs).length=bs.length:=by simp [num]
structure YOk (n cap:Nat) (Y:aR):Prop where
 th:∀ t,t<n→TOk n cap (Y.th t)
 mem:∀ b∈Y.bs,∀ k∈b,k<n
 ops:∀ t,t<n→cnt Y.bs t≤(Y.th t).ops.length
 idle:∀ t,t<n→(Y.th t).part=0→(Y.th t).ended=cnt Y.bs t
 fl:∀ t,t<n→(Y.th t).aO≤(Y.th t).ops.length∧(Y.th t).ended≤(Y.th t).ops.length
 pl:∀ t,t<n→8≤(Y.th t).part→(Y.th t).part≤10→(Y.th t).aK.length≤n
 ide:∀ t,t<n→(Y.th t).part=0→(Y.th t).ended=(Y.th t).ops.length
 rd:∀ t,t<n→7≤(Y.th t).part→(Y.th t).part≤10→∀ k,k<n→(Y.th t).flipped k≤(Y.th k).aO
theorem Inv.yok {σ:Type} {P:Plain σ} {n cap:Nat} {E:bD σ} {Y:aR} (h:Inv P n cap E Y):YOk n cap Y:=by
 obtain ⟨pb,nf,-,G,T⟩:=h;refine ⟨fun t ht=>?_,G.mem,fun t ht=>bK (G.fl t ht).1 (G.opl t ht),fun t ht h0=>?_,fun t ht=>?_,fun t ht h8 od=>?_,fun t ht h0=>?_,fun t ht h7 od k hk=>?_⟩
 ·have X:=T t ht
  refine ⟨X.p1,fun hp=>?_,X.bc,X.t0⟩
  ·have h1:=X.p1
   by_cases c:(Y.th t).part=11
   ·obtain ⟨a,b,-⟩:=X.p4 c
    exact ⟨a,by rw [c];simpa [bJ.len] using b⟩
   ·obtain ⟨a,b⟩:=X.p3 hp (by omega)
    omega
 ·obtain ⟨a,b,c⟩:=(T t ht).c0 h0
  rw [b,←c];rfl
 ·have X:=T t ht
  have o:=G.opl t ht;have e1:(Y.th t).aO=(view E Y pb nf).aO t:=rfl;have e2:(Y.th t).ops=(view E Y pb nf).ops t:=rfl;have h1:=X.p1;refine ⟨by rw [e1,e2];exact o,?_⟩;rw [e2]
  by_cases c0:(Y.th t).part=0
  ·have:=X.c0 c0;omega
  ·by_cases c1:(Y.th t).part≤2
   ·have:=X.c1 (by omega);omega
   ·have:=X.c3 (by omega);omega
 ·obtain ⟨e,q,-⟩:=(T t ht).h8 h8 od
  rw [←e,q];exact bK (List.length_filter_le _ _) (by simp)
 ·obtain ⟨a,b,-⟩:=(T t ht).c0 h0
  have e2:(Y.th t).ops=(view E Y pb nf).ops t:=rfl;rw [b,e2,a]
 ·have htw:k / 16<tw n:=by unfold tw;omega
  exact (((T t ht).t7 h7 od).2 k hk htw).2.1
theorem YU (n cap:Nat) (Y:aR) (t:Nat) (a x:bJ):over n cap (Y.set t a) t x=over n cap Y t x:=by
 have e1:∀ b,(Y.set t a).set t b=Y.set t b:=fun b=>by unfold aR.set;dsimp only;congr 1;funext k;unfold aM;split<;>rfl
 have e2:∀ b,aM (Y.set t a).th t b=aM Y.th t b:=fun b=>by unfold aR.set;dsimp only;funext k;unfold aM;split<;>rfl
 have e3:(Y.set t a).bs=Y.bs:=rfl;have e4:∀ x,(Y.set t a).pending n x=Y.pending n x:=fun _=>rfl
 unfold over;simp only [e1,e2,e3,e4]
end Go.Proofs.YtefjhnhdagolhaaGreat.M
