import Derived.Test.YtefjhnhdagolhaaGreatQ08
import Derived.Test.YtefjhnhdagolhaaGreatQ01
namespace Go.Proofs.YtefjhnhdagolhaaGreat.M
section
variable {σ:Type} {P:Plain σ} {n cap:Nat} {E:aK σ} {Y:aP} {t:Nat} {nf:Nat→Nat}
theorem wS {α:Type} (f:Nat→α) (t:Nat):aI f t (f t)=f:=by funext k;unfold aI;split<;>simp_all
theorem uN {α β:Type} (f:α→β) (g:Nat→α) (t:Nat) (x:α):(fun k=>f (aI g t x k))=aI (fun k=>f (g k)) t (f x):=by funext k;unfold aI;split<;>rfl
theorem fV {E':aK σ} {Y':aP} {V':View σ} {e':aS σ} {x':bA} (pb' nf':Nat→Nat) (hv:view E' Y' pb' nf'=V') (hN:E'.cZ=Y'.bs.length) (hG:gO P n V') (hE:E'.th=aI E.th t e') (hY:Y'.th=aI Y.th t x')
  (ho:∀ k,k<n→k≠t→eU P n cap V' k (E.th k) (Y.th k)) (h:eU P n cap V' t e' x'):tC P n cap E' Y' nf':=by
 refine ⟨pb',hN,by rw [hv];exact hG,fun k hk=>?_⟩
 rw [hv,hE,hY]
 by_cases q:k=t
 ·subst q;rw [aC,aC];exact h
 ·rw [aD _ _ q,aD _ _ q];exact ho k hk q
theorem oY {x:bA} (hx:x=Y.th t) (h6:x.part≠6) (hl:1<x.left):bD n cap Y t=(Y.set t {x with left:=x.left-1},false):=by
 subst hx
 unfold bD
 simp only [h6,if_false]
 rw [if_pos (by omega)]
theorem fX {x:bA} (hx:x=Y.th t) (h6:x.part≠6) (hl:x.left=1):bD n cap Y t=over n cap Y t {x with left:=0}:=by
 subst hx
 unfold bD
 simp only [h6,if_false]
 rw [hl,if_neg (by omega)]
theorem eV (y:bA) (p:Nat) (hp:p≠0):(bA.enter n y p).part≠0:=by
 unfold bA.enter
 split
 ·show p+1≠0;omega
 ·exact hp
theorem FC (y:bA):(bA.fail n cap y).part≠0:=by
 unfold bA.fail
 split
 ·exact eV _ _ (by decide)
 ·exact eV _ _ (by decide)
theorem BU (h:tC P n cap E Y nf) (ht:t<n) (hp:(Y.th t).part=0) (o:Op):tC P n cap (begin E t o) (bG Y t o) nf:=by
 obtain ⟨pb,h1,h2,h3⟩:=h
 refine fV (V':=(view E Y pb nf).more t o) pb nf ?_ h1 (h2.more o) rfl rfl (fun k hk RN=>(h3 k hk).more h2 RN) (UQ (h3 t ht) hp o)
 unfold view View.more
 congr 1
 ·show (fun k=>(aI Y.th t _ k).aM)=_
  rw [uN (fun x:bA=>x.aM)]
  exact wS _ t
 ·show (fun k=>(aI Y.th t _ k).ops)=_
  rw [uN (fun x:bA=>x.ops)]
theorem FD (h:Inv P n cap E Y) (ht:t<n) (hp:(Y.th t).part=0) (o:Op):Inv P n cap (begin E t o) (bG Y t o):=by
 obtain ⟨pb,nf,h⟩:=h
 obtain ⟨pb',h'⟩:=BU ⟨pb,h⟩ ht hp o
 exact ⟨pb',nf,h'⟩
def NF (Y:aP) (t:Nat) (nf:Nat→Nat):Nat→Nat:=if (Y.th t).part=2 then aI nf t Y.bs.length else nf
def Stepped (P:Plain σ) (n cap:Nat) (E:aK σ) (Y:aP) (t:Nat) (nf:Nat→Nat):Prop:=tC P n cap (step P n cap E t) (bD n cap Y t).1 (NF Y t nf)∧(bD n cap Y t).2=decide (((bD n cap Y t).1.th t).part=0)
theorem eT (pb nf:Nat→Nat) {E':aK σ} {Y':aP} {x':bA} (hY:Y'.th=aI Y.th t x') (hf:x'.aM=(Y.th t).aM) (ho:x'.ops=(Y.th t).ops) :
  view E' Y' pb nf = {bs:=Y'.bs,aM:=fun k=>(Y.th k).aM,ops:=fun k=>(Y.th k).ops,bC:=E'.bC,eH:=E'.eH,rw:=E'.rw,eX:=E'.eX,prec:=E'.prec,pb:=pb,nf:=nf}:=by
 unfold view
 congr 1
 ·rw [hY,uN (fun x:bA=>x.aM),hf]
  exact wS _ t
 ·rw [hY,uN (fun x:bA=>x.ops),ho]
  exact wS _ t
theorem eZ {x':bA} (h:x'.part≠0):false=decide (((Y.set t x').th t).part=0):=by
 have:((Y.set t x').th t).part=x'.part:=by show (aI Y.th t x' t).part=_;rw [aC]
 rw [this]
 simp [h]
theorem bI (y:bA) (p:Nat):(bA.enter n y p).aM=y.aM∧(bA.enter n y p).ops=y.ops:=by
 unfold bA.enter
 split<;>exact ⟨rfl,rfl⟩
theorem sG (y:bA):(bA.fail n cap y).aM=y.aM∧(bA.fail n cap y).ops=y.ops:=by
 unfold bA.fail
 split
 ·exact bI _ _
 ·exact bI _ _
theorem aDg (h:tC P n cap E Y nf) (ht:t<n) (hp:(Y.th t).part=1):Stepped P n cap E Y t nf:=by
 obtain ⟨pb,h1,h2,h3⟩:=h
 have hT:=h3 t ht
 have cF:(E.th t).phase=1:=(hT.p2 (by omega)).trans hp
 obtain ⟨k0,k1,k2⟩:=aGo hT hp
 obtain ⟨l1,l2⟩:=hT.p3 (by omega) (by omega)
 have hs:step P n cap E t = {E with eH:=aI E.eH t (aI (E.eH t) (E.th t).past ((E.th t).op.w (E.th t).past)),th:=aI E.th t ((E.th t).pass 3 2)}:=by unfold step;simp only [cF]
 unfold Stepped NF
 rw [if_neg (show ¬(Y.th t).part=2 by omega)]
 rw [hs]
 by_cases hl:1<(Y.th t).left
 ·rw [oY rfl (by omega) hl]
  exact ⟨fV pb nf (eT pb nf rfl rfl rfl) h1 (h2.eH k0 _) rfl rfl (fun k hk RN=>(h3 k hk).eH (Ne.symm RN) k0 _) (k1 hl),eZ (by show (Y.th t).part≠0;omega)⟩
 ·have RK:(Y.th t).left=1:=by omega
  have ho:over n cap Y t {Y.th t with left:=0} = (Y.set t (bA.enter n {Y.th t with left:=0} 2),false):=by unfold over;simp only [hp]
  rw [fX rfl (by omega) RK,ho]
  exact ⟨fV pb nf (eT pb nf rfl (bI _ _).1 (bI _ _).2) h1 (h2.eH k0 _) rfl rfl (fun k hk RN=>(h3 k hk).eH (Ne.symm RN) k0 _) (k2 RK),eZ (eV _ _ (by decide))⟩
theorem aDh (h:tC P n cap E Y nf) (ht:t<n) (hp:(Y.th t).part=2):Stepped P n cap E Y t nf:=by
 obtain ⟨pb,h1,h2,h3⟩:=h
 have hT:=h3 t ht
 have cF:(E.th t).phase=2:=(hT.p2 (by omega)).trans hp
 obtain ⟨k1,k2,k3,k4,k5,k6⟩:=aGp hT hp (aI E.bC (t / 16) (E.bC (t / 16)+(if (Y.th t).aM % 2=1 then -(2 ^ (t % 16)) else 2 ^ (t % 16))))
 have htg:(if (E.th t).cQ=true then -(2 ^ (t % 16)) else 2 ^ (t % 16):Int)=if (Y.th t).aM % 2=1 then -(2 ^ (t % 16)) else 2 ^ (t % 16):=by
  rw [k5]
  show (if decide ((Y.th t).aM % 2=1)=true then _ else _)=_
  by_cases c:(Y.th t).aM % 2=1<;>simp [c]
 have hs:step P n cap E t = {E with bC:=aI E.bC (t / 16) (E.bC (t / 16)+(if (Y.th t).aM % 2=1 then -(2 ^ (t % 16)) else 2 ^ (t % 16))),th:=aI E.th t (aS.bK {E.th t with cQ:=!(E.th t).cQ})}:=by unfold step;simp only [cF,htg]
 have ho:over n cap Y t {Y.th t with left:=0} = (Y.set t (bA.enter n {Y.th t with left:=0,aM:=(Y.th t).aM+1,tries:=1} 3),false):=by unfold over;simp only [hp]
 unfold Stepped NF
 rw [if_pos hp]
 rw [hs,fX rfl (by omega) k1,ho]
 refine ⟨fV pb (aI nf t Y.bs.length) (V':=(view E Y pb nf).flip t (aI E.bC (t / 16) (E.bC (t / 16)+(if (Y.th t).aM % 2=1 then -(2 ^ (t % 16)) else 2 ^ (t % 16))))) ?_ h1 (h2.flip ht k2 k3 k4) rfl rfl (fun k hk RN=>(h3 k hk).flip RN k2 _) k6,eZ (eV _ _ (by decide))⟩
 unfold view View.flip
 congr 1
 ·show (fun k=>(aI Y.th t _ k).aM)=_
  rw [uN (fun x:bA=>x.aM),(bI _ _).1]
 ·show (fun k=>(aI Y.th t _ k).ops)=_
  rw [uN (fun x:bA=>x.ops),(bI _ _).2]
  exact wS _ t
theorem aDi (h:tC P n cap E Y nf) (ht:t<n) (hp:(Y.th t).part=3):Stepped P n cap E Y t nf:=by
 obtain ⟨pb,h1,h2,h3⟩:=h
 have hT:=h3 t ht
 have cF:(E.th t).phase=3:=(hT.p2 (by omega)).trans hp
 obtain ⟨k1,k2⟩:=aGi hT hp
 obtain ⟨l1,l2⟩:=hT.p3 (by omega) (by omega)
 have hs:step P n cap E t = {E with th:=aI E.th t ((E.th t).pass (E.th t).aG 4)}:=by unfold step;simp only [cF]
 unfold Stepped NF
 rw [if_neg (show ¬(Y.th t).part=2 by omega)]
 rw [hs]
 by_cases hl:1<(Y.th t).left
 ·rw [oY rfl (by omega) hl]
  exact ⟨fV pb nf (eT pb nf rfl rfl rfl) h1 h2 rfl rfl (fun k hk _=>h3 k hk) (k1 hl),eZ (by show (Y.th t).part≠0;omega)⟩
 ·have RK:(Y.th t).left=1:=by omega
  have ho:over n cap Y t {Y.th t with left:=0} = (Y.set t (bA.enter n {Y.th t with left:=0} 4),false):=by unfold over;simp only [hp]
  rw [fX rfl (by omega) RK,ho]
  exact ⟨fV pb nf (eT pb nf rfl (bI _ _).1 (bI _ _).2) h1 h2 rfl rfl (fun k hk _=>h3 k hk) (k2 RK),eZ (eV _ _ (by decide))⟩
theorem aDj (h:tC P n cap E Y nf) (ht:t<n) (hp:(Y.th t).part=4):Stepped P n cap E Y t nf:=by
 obtain ⟨pb,h1,h2,h3⟩:=h
 have hT:=h3 t ht
 have cF:(E.th t).phase=4:=(hT.p2 (by omega)).trans hp
 obtain ⟨k1,k2⟩:=aGj hT h2 hp
 have hs:step P n cap E t = {E with th:=aI E.th t (aS.enter {E.th t with stamp:=Y.bs.length,aR:=E.prec} 5)}:=by unfold step;simp only [cF,h1]
 have ho:over n cap Y t {Y.th t with left:=0} = (Y.set t (bA.enter n {Y.th t with left:=0,stamp:=Y.bs.length} 5),false):=by unfold over;simp only [hp]
 unfold Stepped NF
 rw [if_neg (show ¬(Y.th t).part=2 by omega)]
 rw [hs,fX rfl (by omega) k1,ho]
 exact ⟨fV pb nf (eT pb nf rfl (bI _ _).1 (bI _ _).2) h1 h2 rfl rfl (fun k hk _=>h3 k hk) k2,eZ (eV _ _ (by decide))⟩
theorem aDk (hn:0<n) (h:tC P n cap E Y nf) (ht:t<n) (hp:(Y.th t).part=5):Stepped P n cap E Y t nf:=by
 obtain ⟨pb,h1,h2,h3⟩:=h
 have hT:=h3 t ht
 have cF:(E.th t).phase=5:=(hT.p2 (by omega)).trans hp
 by_cases hw:(E.th t).past<aQ n
 ·obtain ⟨k1,k2⟩:=aC9 hT h2 hp hw
  have hs:step P n cap E t = {E with th:=aI E.th t (aS.pass {E.th t with dw:=aI (E.th t).dw (E.th t).past (E.rw (E.th t).aR (E.th t).past)} (aQ n+1) 6)}:=by unfold step;simp only [cF,hw,if_true]
  unfold Stepped NF
  rw [if_neg (show ¬(Y.th t).part=2 by omega)]
  rw [hs,oY rfl (by omega) k1]
  exact ⟨fV pb nf (eT pb nf rfl rfl rfl) h1 h2 rfl rfl (fun k hk _=>h3 k hk) k2,eZ (by show (Y.th t).part≠0;omega)⟩
 ·obtain ⟨k1,k2⟩:=aDa hn hT h2 hp hw
  have hs:step P n cap E t = {E with th:=aI E.th t (aS.pass {E.th t with now:=(E.eX (E.th t).aR).map Prod.fst,cD:=(E.eX (E.th t).aR).map Prod.fst} (aQ n+1) 6)}:=by unfold step;simp only [cF,hw,if_false]
  have ho:over n cap Y t {Y.th t with left:=0} = (Y.set t (bA.enter n {Y.th t with left:=0} 6),false):=by unfold over;simp only [hp]
  unfold Stepped NF
  rw [if_neg (show ¬(Y.th t).part=2 by omega)]
  rw [hs,fX rfl (by omega) k1,ho]
  exact ⟨fV pb nf (eT pb nf rfl (bI _ _).1 (bI _ _).2) h1 h2 rfl rfl (fun k hk _=>h3 k hk) k2,eZ (eV _ _ (by decide))⟩
theorem aDl (h:tC P n cap E Y nf) (ht:t<n) (hp:(Y.th t).part=6):Stepped P n cap E Y t nf:=by
 obtain ⟨pb,h1,h2,h3⟩:=h
 have hT:=h3 t ht
 have cF:(E.th t).phase=6:=(hT.p2 (by omega)).trans hp
 obtain ⟨k1,k2⟩:=aGk hT h2 hp (fun k=>if k / 16=tw n-((Y.th t).left-1)-1∧k<n then (Y.th k).aM else (Y.th t).flipped k) rfl
 obtain ⟨l1,l2⟩:=hT.p3 (by omega) (by omega)
 have hs:step P n cap E t = {E with th:=aI E.th t (aS.pass {E.th t with tg:=aI (E.th t).tg (E.th t).past (E.bC (E.th t).past)} (tw n) 7)}:=by unfold step;simp only [cF]
 unfold Stepped NF
 rw [if_neg (show ¬(Y.th t).part=2 by omega)]
 rw [hs]
 by_cases hl:1<(Y.th t).left
 ·have hr:bD n cap Y t=(Y.set t {Y.th t with left:=(Y.th t).left-1,flipped:=fun k=>if k / 16=tw n-((Y.th t).left-1)-1∧k<n then (Y.th k).aM else (Y.th t).flipped k},false):=by
   unfold bD
   simp only [hp,if_true]
   rw [if_pos (by omega)]
  rw [hr]
  exact ⟨fV pb nf (eT pb nf rfl rfl rfl) h1 h2 rfl rfl (fun k hk _=>h3 k hk) (k1 hl),eZ (by show (Y.th t).part≠0;omega)⟩
 ·have RK:(Y.th t).left=1:=by omega
  have hr:bD n cap Y t=(Y.set t (bA.enter n {Y.th t with left:=0,flipped:=fun k=>if k / 16=tw n-((Y.th t).left-1)-1∧k<n then (Y.th k).aM else (Y.th t).flipped k} 7),false):=by
   unfold bD
   simp only [hp,if_true]
   rw [if_neg (by omega)]
   unfold over
   simp only [RK,Nat.sub_self]
  rw [hr]
  exact ⟨fV pb nf (eT pb nf rfl (bI _ _).1 (bI _ _).2) h1 h2 rfl rfl (fun k hk _=>h3 k hk) (k2 RK),eZ (eV _ _ (by decide))⟩
end
section
variable {σ:Type} {P:Plain σ} {n cap:Nat} {E:aK σ} {Y:aP} {t:Nat} {nf:Nat→Nat}
theorem aDm (h:tC P n cap E Y nf) (ht:t<n) (hp:(Y.th t).part=7):Stepped P n cap E Y t nf:=by
 obtain ⟨pb,h1,h2,h3⟩:=h
 have hT:=h3 t ht
 have cF:(E.th t).phase=7:=(hT.p2 (by omega)).trans hp
 obtain ⟨k1,k2,k3⟩:=aGl ht hT h2 hp
 have hst:(Y.th t).stamp=(E.th t).stamp:=(hT.vR (by omega) (by omega)).st
 unfold Stepped NF
 rw [if_neg (show ¬(Y.th t).part=2 by omega)]
 by_cases hs0:(E.th t).stamp=Y.bs.length
 ·obtain ⟨q1,q2⟩:=k3 hs0 _ rfl
  have TI:Y.pending n {Y.th t with left:=0} = (List.range n).filter (fun k=>decide (((Y.th t).flipped k+cnt Y.bs k) % 2=1)):=rfl
  have hs:step P n cap E t = {E with th:=aI E.th t (aS.enter {E.th t with aJ:=(List.range n).filter (fun k=>decide (((Y.th t).flipped k+cnt Y.bs k) % 2=1))} (if t∈(List.range n).filter (fun k=>decide (((Y.th t).flipped k+cnt Y.bs k) % 2=1)) then 8 else 11))}:=by
   unfold step
   simp only [cF]
   rw [if_pos (by rw [h1,hs0]),q1]
   rfl
  have ho:over n cap Y t {Y.th t with left:=0} = (Y.set t (bA.enter n {Y.th t with left:=0,aJ:=(List.range n).filter (fun k=>decide (((Y.th t).flipped k+cnt Y.bs k) % 2=1))} (if t∈(List.range n).filter (fun k=>decide (((Y.th t).flipped k+cnt Y.bs k) % 2=1)) then 8 else 11)),false):=by
   unfold over
   simp only [hp]
   rw [if_pos (by rw [hst,hs0])]
   rfl
  rw [hs,fX rfl (by omega) k1,ho]
  exact ⟨fV pb nf (eT pb nf rfl (bI _ _).1 (bI _ _).2) h1 h2 rfl rfl (fun k hk _=>h3 k hk) q2,eZ (eV _ _ (by split<;>decide))⟩
 ·have hs:step P n cap E t = {E with th:=aI E.th t ((E.th t).fail cap)}:=by
   unfold step
   simp only [cF]
   rw [if_neg (by rw [h1];exact fun q=>hs0 q.symm)]
  have ho:over n cap Y t {Y.th t with left:=0} = (Y.set t (bA.fail n cap {Y.th t with left:=0}),false):=by
   unfold over
   simp only [hp]
   rw [if_neg (by rw [hst];exact fun q=>hs0 q.symm)]
  rw [hs,fX rfl (by omega) k1,ho]
  exact ⟨fV pb nf (eT pb nf rfl (sG _).1 (sG _).2) h1 h2 rfl rfl (fun k hk _=>h3 k hk) (k2 hs0),eZ (FC _)⟩
theorem aDn (h:tC P n cap E Y nf) (ht:t<n) (hp:(Y.th t).part=8):Stepped P n cap E Y t nf:=by
 obtain ⟨pb,h1,h2,h3⟩:=h
 have hT:=h3 t ht
 have cF:(E.th t).phase=8:=(hT.p2 (by omega)).trans hp
 obtain ⟨e3,UN⟩:∃ e3,e3=(if (E.th t).past+1=3*(E.th t).aJ.length then aS.close n (if (E.th t).past % 3=2 then aS.apply P n {E.th t with heard:=aI (E.th t).heard ((E.th t).past % 3) (E.eH ((E.th t).aJ.getD ((E.th t).past / 3) 0) ((E.th t).past % 3))} ((E.th t).aJ.getD ((E.th t).past / 3) 0) else {E.th t with heard:=aI (E.th t).heard ((E.th t).past % 3) (E.eH ((E.th t).aJ.getD ((E.th t).past / 3) 0) ((E.th t).past % 3))}) else (if (E.th t).past % 3=2 then aS.apply P n {E.th t with heard:=aI (E.th t).heard ((E.th t).past % 3) (E.eH ((E.th t).aJ.getD ((E.th t).past / 3) 0) ((E.th t).past % 3))} ((E.th t).aJ.getD ((E.th t).past / 3) 0) else {E.th t with heard:=aI (E.th t).heard ((E.th t).past % 3) (E.eH ((E.th t).aJ.getD ((E.th t).past / 3) 0) ((E.th t).past % 3))})):=⟨_,rfl⟩
 obtain ⟨-,k1,k2⟩:=aGn hT h2 hp e3 _ rfl UN
 obtain ⟨l1,l2⟩:=hT.p3 (by omega) (by omega)
 have hs:step P n cap E t = {E with th:=aI E.th t (e3.pass (3*(E.th t).aJ.length) 9)}:=by
  rw [UN]
  unfold step
  simp only [cF]
 unfold Stepped NF
 rw [if_neg (show ¬(Y.th t).part=2 by omega)]
 rw [hs]
 by_cases hl:1<(Y.th t).left
 ·rw [oY rfl (by omega) hl]
  exact ⟨fV pb nf (eT pb nf rfl rfl rfl) h1 h2 rfl rfl (fun k hk _=>h3 k hk) (k1 hl),eZ (by show (Y.th t).part≠0;omega)⟩
 ·have RK:(Y.th t).left=1:=by omega
  have ho:over n cap Y t {Y.th t with left:=0} = (Y.set t (bA.enter n {Y.th t with left:=0} 9),false):=by unfold over;simp only [hp]
  rw [fX rfl (by omega) RK,ho]
  exact ⟨fV pb nf (eT pb nf rfl (bI _ _).1 (bI _ _).2) h1 h2 rfl rfl (fun k hk _=>h3 k hk) (k2 RK),eZ (eV _ _ (by decide))⟩
theorem BV {V:View σ} {u:Nat} {e f:aS σ} {x y:bA} (h:eU P n cap V t e x) (h':eU P n cap V u f y) (hu:u≠t):f.spare≠e.spare:=by
 rcases h.sp with ⟨a,b⟩|⟨a,b⟩<;>rcases h'.sp with ⟨c,d⟩|⟨c,d⟩<;>omega
theorem aDo (h:tC P n cap E Y nf) (ht:t<n) (hp:(Y.th t).part=9):Stepped P n cap E Y t nf:=by
 obtain ⟨pb,h1,h2,h3⟩:=h
 have hT:=h3 t ht
 have cF:(E.th t).phase=9:=(hT.p2 (by omega)).trans hp
 unfold Stepped NF
 rw [if_neg (show ¬(Y.th t).part=2 by omega)]
 by_cases hw:(E.th t).past<aQ n
 ·obtain ⟨k1,k2⟩:=aDd hT hp hw
  have hs:step P n cap E t = {E with rw:=aI E.rw (E.th t).spare (aI (E.rw (E.th t).spare) (E.th t).past ((E.th t).dw (E.th t).past)),th:=aI E.th t ((E.th t).pass (aQ n+1) 10)}:=by unfold step;simp only [cF,hw,if_true]
  rw [hs,oY rfl (by omega) k1]
  exact ⟨fV pb nf (eT pb nf rfl rfl rfl) h1 (h2.word hT.wL (hT.vR (by omega) (by omega)).spb (hT.d6 (by omega) (by omega)).1) rfl rfl (fun k hk RN=>(h3 k hk).word hT.wL (BV hT (h3 k hk) RN) _) k2,eZ (by show (Y.th t).part≠0;omega)⟩
 ·obtain ⟨k1,k2,k3⟩:=aDe hT hp hw
  have hs:step P n cap E t = {E with eX:=aI E.eX (E.th t).spare ((E.th t).now.bind fun v=>(E.th t).cD.map fun f=>(v,f)),th:=aI E.th t ((E.th t).pass (aQ n+1) 10)}:=by unfold step;simp only [cF,hw,if_false]
  have ho:over n cap Y t {Y.th t with left:=0} = (Y.set t (bA.enter n {Y.th t with left:=0} 10),false):=by unfold over;simp only [hp]
  rw [hs,fX rfl (by omega) k1,ho]
  exact ⟨fV pb nf (eT pb nf rfl (bI _ _).1 (bI _ _).2) h1 (h2.state hT.wL _) rfl rfl (fun k hk RN=>(h3 k hk).state (BV hT (h3 k hk) RN) _ k2) k3,eZ (eV _ _ (by decide))⟩
theorem aBc (h:tC P n cap E Y nf) (ht:t<n) (hp:(Y.th t).part=10):Stepped P n cap E Y t nf:=by
 obtain ⟨pb,h1,h2,h3⟩:=h
 have hT:=h3 t ht
 have cF:(E.th t).phase=10:=(hT.p2 (by omega)).trans hp
 obtain ⟨k1,k2,k3⟩:=aDf ht hT h2 hp
 have hst:(Y.th t).stamp=(E.th t).stamp:=(hT.vR (by omega) (by omega)).st
 unfold Stepped NF
 rw [if_neg (show ¬(Y.th t).part=2 by omega)]
 by_cases hs0:(E.th t).stamp=Y.bs.length
 ·obtain ⟨q1,q2,q3,q4,q5,q6⟩:=k3 hs0
  have hs:step P n cap E t = {E with cZ:=(E.th t).stamp+1,prec:=(E.th t).spare,th:=aI E.th t (aS.enter {E.th t with spare:=(E.th t).kept,kept:=(E.th t).spare,aG:=(E.th t).aG / 2} 11)}:=by
   unfold step
   simp only [cF]
   rw [if_pos ⟨by rw [h1,hs0],q1.symm⟩]
  have ho:over n cap Y t {Y.th t with left:=0} = ({th:=aI Y.th t (bA.enter n {Y.th t with left:=0,aJ:=[],aG:=(Y.th t).aG / 2} 11),bs:=Y.bs++[(E.th t).aJ]},false):=by
   unfold over
   simp only [hp]
   rw [if_pos (by rw [hst,hs0]),q2]
  rw [hs,fX rfl (by omega) k1,ho]
  refine ⟨fV (aI pb (E.th t).spare (Y.bs.length+1)) nf (V':=(view E Y pb nf).cK (E.th t).spare (E.th t).aJ) (eT _ nf rfl (bI _ _).1 (bI _ _).2) (by simp [hs0]) q4 rfl rfl (fun k hk RN=>(h3 k hk).cK q5 h2 (BV hT (h3 k hk) RN)) q6,?_⟩
  show false=decide ((aI Y.th t _ t).part=0)
  rw [aC]
  have:=eV (n:=n) {Y.th t with left:=0,aJ:=[],aG:=(Y.th t).aG / 2} 11 (by decide)
  simp [this]
 ·have hs:step P n cap E t = {E with th:=aI E.th t ((E.th t).fail cap)}:=by
   unfold step
   simp only [cF]
   rw [if_neg (by rintro ⟨q,-⟩;rw [h1] at q;exact hs0 q.symm)]
  have ho:over n cap Y t {Y.th t with left:=0} = (Y.set t (bA.fail n cap {Y.th t with left:=0}),false):=by
   unfold over
   simp only [hp]
   rw [if_neg (by rw [hst];exact fun q=>hs0 q.symm)]
  rw [hs,fX rfl (by omega) k1,ho]
  exact ⟨fV pb nf (eT pb nf rfl (sG _).1 (sG _).2) h1 h2 rfl rfl (fun k hk _=>h3 k hk) (k2 hs0),eZ (FC _)⟩
theorem aBd (h:tC P n cap E Y nf) (ht:t<n) (hp:(Y.th t).part=11):Stepped P n cap E Y t nf:=by
 obtain ⟨pb,h1,h2,h3⟩:=h
 have hT:=h3 t ht
 obtain ⟨l1,l2,l3⟩:=hT.p4 hp
 obtain ⟨k1,k2,k3⟩:=aDb ht hT h2 hp
 unfold Stepped NF
 rw [if_neg (show ¬(Y.th t).part=2 by omega)]
 rcases (by omega:(Y.th t).left=3∨(Y.th t).left=2∨(Y.th t).left=1) with hl|hl|hl
 ·have cF:(E.th t).phase=11:=by rw [l3,hl]
  have hs:step P n cap E t = {E with th:=aI E.th t (aS.enter {E.th t with found:=E.prec} 12)}:=by unfold step;simp only [cF]
  rw [hs,oY rfl (by omega) (by omega)]
  exact ⟨fV pb nf (eT pb nf rfl rfl rfl) h1 h2 rfl rfl (fun k hk _=>h3 k hk) (k1 hl),eZ (by show (Y.th t).part≠0;omega)⟩
 ·have cF:(E.th t).phase=12:=by rw [l3,hl]
  have hs:step P n cap E t = {E with th:=aI E.th t (aS.enter {E.th t with yA:=E.rw (E.th t).found (aL n t)} 13)}:=by unfold step;simp only [cF]
  rw [hs,oY rfl (by omega) (by omega)]
  exact ⟨fV pb nf (eT pb nf rfl rfl rfl) h1 h2 rfl rfl (fun k hk _=>h3 k hk) (k2 hl),eZ (by show (Y.th t).part≠0;omega)⟩
 ·have cF:(E.th t).phase=13:=by rw [l3,hl]
  have hs:step P n cap E t = {E with th:=aI E.th t (aS.enter {E.th t with val:=E.rw (E.th t).found (aN n t),ended:=true} 0)}:=by unfold step;simp only [cF]
  have ho:over n cap Y t {Y.th t with left:=0} = (Y.set t {Y.th t with left:=0,part:=0,ended:=(Y.th t).ended+1},true):=by unfold over;simp only [hp]
  rw [hs,fX rfl (by omega) hl,ho]
  refine ⟨fV pb nf (eT pb nf rfl rfl rfl) h1 h2 rfl rfl (fun k hk _=>h3 k hk) (k3 hl),?_⟩
  show true=decide ((aI Y.th t _ t).part=0)
  rw [aC]
  rfl
theorem FE (hn:0<n) (h:tC P n cap E Y nf) (ht:t<n) (hb:(Y.th t).part≠0):Stepped P n cap E Y t nf:=by
 have XW:(Y.th t).part≤11:=by obtain ⟨pb,-,-,h3⟩:=h;exact (h3 t ht).p1
 rcases (by omega:(Y.th t).part=1∨(Y.th t).part=2∨(Y.th t).part=3∨(Y.th t).part=4∨(Y.th t).part=5∨(Y.th t).part=6∨(Y.th t).part=7∨(Y.th t).part=8∨(Y.th t).part=9∨(Y.th t).part=10∨(Y.th t).part=11) with q|q|q|q|q|q|q|q|q|q|q
 ·exact aDg h ht q
 ·exact aDh h ht q
 ·exact aDi h ht q
 ·exact aDj h ht q
 ·exact aDk hn h ht q
 ·exact aDl h ht q
 ·exact aDm h ht q
 ·exact aDn h ht q
 ·exact aDo h ht q
 ·exact aBc h ht q
 ·exact aBd h ht q
theorem wT (hn:0<n) (h:Inv P n cap E Y) (ht:t<n) (hb:(Y.th t).part≠0):Inv P n cap (step P n cap E t) (bD n cap Y t).1∧(bD n cap Y t).2=decide (((bD n cap Y t).1.th t).part=0):=by
 obtain ⟨pb,nf,h⟩:=h
 obtain ⟨⟨pb',h'⟩,q⟩:=FE hn ⟨pb,h⟩ ht hb
 exact ⟨⟨pb',_,h'⟩,q⟩
end
section
variable {σ:Type} {P:Plain σ} {n cap:Nat} {E:aK σ} {Y:aP} {t:Nat}
structure ED (n:Nat) (E:aK σ):Prop where
 pr:E.prec<2*n+1
 th:∀ t,t<n→(E.th t).aR<2*n+1∧(E.th t).found<2*n+1∧(E.th t).stamp≤E.cZ
theorem ED.aI {E':aK σ} {e':aS σ} (h:ED n E) (hp:E'.prec=E.prec) (hs:E.cZ≤E'.cZ) (ht:E'.th=M.aI E.th t e') (h1:e'.aR<2*n+1) (h2:e'.found<2*n+1) (h3:e'.stamp≤E'.cZ):ED n E':=by
 refine ⟨by rw [hp];exact h.pr,fun u hu=>?_⟩
 rw [ht]
 by_cases q:u=t
 ·subst q;rw [aC];exact ⟨h1,h2,h3⟩
 ·rw [aD _ _ q]
  obtain ⟨a,b,c⟩:=h.th u hu
  exact ⟨a,b,Nat.le_trans c hs⟩
theorem dF (e:aS σ) (s p:Nat):(e.pass s p).aR=e.aR∧(e.pass s p).found=e.found∧(e.pass s p).stamp=e.stamp:=by unfold aS.pass;split<;>exact ⟨rfl,rfl,rfl⟩
theorem nW (e:aS σ):e.bK.aR=e.aR∧e.bK.found=e.found∧e.bK.stamp=e.stamp:=by unfold aS.bK;split<;>exact ⟨rfl,rfl,rfl⟩
theorem rP (e:aS σ) (cap:Nat):(e.fail cap).aR=e.aR∧(e.fail cap).found=e.found∧(e.fail cap).stamp=e.stamp:=by
 unfold aS.fail
 split
 ·exact ⟨rfl,rfl,rfl⟩
 ·exact nW _
theorem oO (P:Plain σ) (n:Nat) (e:aS σ) (k:Nat):(e.apply P n k).aR=e.aR∧(e.apply P n k).found=e.found∧(e.apply P n k).stamp=e.stamp:=by unfold aS.apply;split<;>exact ⟨rfl,rfl,rfl⟩
theorem ED.step (h:ED n E) (ht:t<n) (hsp:(E.th t).spare<2*n+1):ED n (M.step P n cap E t):=by
 obtain ⟨b1,b2,b3⟩:=h.th t ht
 unfold M.step
 dsimp only
 split
 ·exact h.aI rfl (Nat.le_refl _) rfl (by rw [(dF _ _ _).1];exact b1) (by rw [(dF _ _ _).2.1];exact b2) (by rw [(dF _ _ _).2.2];exact b3)
 ·exact h.aI rfl (Nat.le_refl _) rfl (by rw [(nW _).1];exact b1) (by rw [(nW _).2.1];exact b2) (by rw [(nW _).2.2];exact b3)
 ·exact h.aI rfl (Nat.le_refl _) rfl (by rw [(dF _ _ _).1];exact b1) (by rw [(dF _ _ _).2.1];exact b2) (by rw [(dF _ _ _).2.2];exact b3)
 ·exact h.aI rfl (Nat.le_refl _) rfl h.pr b2 (Nat.le_refl _)
 ·refine h.aI rfl (Nat.le_refl _) rfl (by rw [(dF _ _ _).1];split<;>exact b1) (by rw [(dF _ _ _).2.1];split<;>exact b2) (by rw [(dF _ _ _).2.2];split<;>exact b3)
 ·exact h.aI rfl (Nat.le_refl _) rfl (by rw [(dF _ _ _).1];exact b1) (by rw [(dF _ _ _).2.1];exact b2) (by rw [(dF _ _ _).2.2];exact b3)
 ·refine h.aI rfl (Nat.le_refl _) rfl ?_ ?_ ?_
  ·split
   ·exact b1
   ·rw [(rP _ _).1];exact b1
  ·split
   ·exact b2
   ·rw [(rP _ _).2.1];exact b2
  ·split
   ·exact b3
   ·rw [(rP _ _).2.2];exact b3
 ·refine h.aI rfl (Nat.le_refl _) rfl ?_ ?_ ?_
  ·rw [(dF _ _ _).1]
   split<;>split<;>first|exact b1|(rw [(oO _ _ _ _).1];exact b1)|(show ((aS.apply P n _ _).aR<_);rw [(oO _ _ _ _).1];exact b1)
  ·rw [(dF _ _ _).2.1]
   split<;>split<;>first|exact b2|(rw [(oO _ _ _ _).2.1];exact b2)|(show ((aS.apply P n _ _).found<_);rw [(oO _ _ _ _).2.1];exact b2)
  ·rw [(dF _ _ _).2.2]
   split<;>split<;>first|exact b3|(rw [(oO _ _ _ _).2.2];exact b3)|(show ((aS.apply P n _ _).stamp≤_);rw [(oO _ _ _ _).2.2];exact b3)
 ·split
  ·exact h.aI rfl (Nat.le_refl _) rfl (by rw [(dF _ _ _).1];exact b1) (by rw [(dF _ _ _).2.1];exact b2) (by rw [(dF _ _ _).2.2];exact b3)
  ·exact h.aI rfl (Nat.le_refl _) rfl (by rw [(dF _ _ _).1];exact b1) (by rw [(dF _ _ _).2.1];exact b2) (by rw [(dF _ _ _).2.2];exact b3)
 ·split
  ·rename_i q
   refine ⟨hsp,fun u hu=>?_⟩
   show ((M.aI E.th t _ u).aR<_)∧((M.aI E.th t _ u).found<_)∧((M.aI E.th t _ u).stamp≤(E.th t).stamp+1)
   by_cases c:u=t
   ·subst c;rw [aC];exact ⟨b1,b2,Nat.le_succ _⟩
   ·rw [aD _ _ c]
    obtain ⟨a1,a2,a3⟩:=h.th u hu
    exact ⟨a1,a2,by omega⟩
  ·exact h.aI rfl (Nat.le_refl _) rfl (by rw [(rP _ _).1];exact b1) (by rw [(rP _ _).2.1];exact b2) (by rw [(rP _ _).2.2];exact b3)
 ·exact h.aI rfl (Nat.le_refl _) rfl b1 h.pr b3
 ·exact h.aI rfl (Nat.le_refl _) rfl b1 b2 b3
 ·exact h.aI rfl (Nat.le_refl _) rfl b1 b2 b3
 ·exact h
theorem ED.begin (h:ED n E) (ht:t<n) (o:Op):ED n (M.begin E t o):=by
 obtain ⟨b1,b2,b3⟩:=h.th t ht
 exact h.aI rfl (Nat.le_refl _) rfl b1 b2 b3
end
section
variable {σ:Type}
def E0 (P:Plain σ) (f:cY σ):aK σ :=
 {bC:=fun _=>0,eH:=fun _ _=>0,rw:=fun _ _=>0,eX:=fun r=>if r=0 then some (⟨P.first,[]⟩,f) else none,cZ:=0,prec:=0
  th:=fun t=>{phase:=0,past:=0,op:=⟨0,0,0⟩,cQ:=false,aG:=0,again:=false,spare:=2*t+1,kept:=2*t+2,stamp:=0,aR:=0,dw:=fun _=>0,now:=none,cD:=none,tg:=fun _=>0,aJ:=[],heard:=fun _=>0,found:=0,yA:=0,val:=0,ended:=false}}
def Y0:aP:={th:=fun _=>{ops:=[],ended:=0,aM:=0,part:=0,left:=0,aG:=0,tries:=0,stamp:=0,flipped:=fun _=>0,aJ:=[]},bs:=[]}
theorem FF (n w:Nat):bits n (fun _=>0) w=0:=by
 have:∀ m,val (MB n (fun _=>0) w) m=0:=by
  intro m
  induction m with
  |zero=>rfl
  |succ m ih =>
   have hd:MB n (fun _=>0) w m=0:=by unfold MB;split<;>rfl
   simp [val,ih,hd]
 unfold bits
 rw [this]
 rfl
theorem KJ (P:Plain σ) (n cap:Nat) (f:cY σ):tC P n cap (E0 P f) Y0 (fun _=>0):=by
 refine ⟨fun _=>0,rfl,?_,fun t ht=>?_⟩
 ·exact {fl:=fun t _=>⟨Nat.le_refl _,Nat.zero_le _⟩,XT:=fun t _=>Nat.le_refl _,UD:=fun t _ h=>absurd h (Nat.lt_irrefl _),mem:=fun b hb=>absurd hb List.not_mem_nil,bC:=fun w _=>(FF n w).symm,RD:=fun w _=>(FF n w).symm,MP:=fun t _=>⟨rfl,rfl⟩,zJ:=⟨f,rfl⟩,recs:=fun r t _ _=>⟨rfl,rfl⟩,pbN:=fun _=>Nat.le_refl _,pbc:=rfl,nfN:=fun _=>Nat.le_refl _,RF:=fun t _ h=>absurd h (by show ¬(0+2≤0);decide)}
 ·have h0:(Y0.th t).part=0:=rfl
  exact {p1:=by rw [h0];decide,p2:=fun _=>rfl,p3:=fun h=>absurd h0 h,p4:=fun h=>by rw [h0] at h;exact absurd h (by decide),xo:=rfl,xf:=rfl,bk:=rfl,bc:=Nat.zero_le _,ag:=fun h=>absurd h0 h,wK:=rfl,yD:=fun h=>absurd h0 h,c0:=fun _=>⟨rfl,rfl,rfl⟩,c1:=fun h=>by rw [h0] at h;omega,c3:=fun h=>by rw [h0] at h;omega,vS:=fun h=>by rw [h0] at h;omega,RG:=fun h=>by rw [h0] at h;omega,yE:=fun h=>by rw [h0] at h;omega,sp:=.inl ⟨rfl,rfl⟩,wL:=Nat.succ_ne_zero _,en:=rfl,a0:=fun _ h=>absurd h (Nat.lt_irrefl _),a1:=fun h=>by rw [h0] at h;omega,fd:=fun h=>by rw [h0] at h;omega,t0:=fun h=>by rw [h0] at h;omega,tr:=fun h=>by rw [h0] at h;omega,tn:=fun h=>by rw [h0] at h;omega,s1:=fun h=>by rw [h0] at h;omega,d5:=fun h=>by rw [h0] at h;omega,d6:=fun h=>by rw [h0] at h;omega,d7:=fun h=>by rw [h0] at h;omega,t6:=fun h=>by rw [h0] at h;omega,t7:=fun h=>by rw [h0] at h;omega,h8:=fun h=>by rw [h0] at h;omega,JU:=fun h=>by rw [h0] at h;omega,h9:=fun h=>by rw [h0] at h;omega,w9:=fun h=>by rw [h0] at h;omega,MC:=fun h=>by rw [h0] at h;omega}
theorem wU (P:Plain σ) (n cap:Nat) (f:cY σ):Inv P n cap (E0 P f) Y0:=by
 obtain ⟨pb,h⟩:=KJ P n cap f
 exact ⟨pb,_,h⟩
theorem zZ (P:Plain σ) (n:Nat) (f:cY σ):ED n (E0 P f):=⟨Nat.succ_pos _,fun _ _=>⟨Nat.succ_pos _,Nat.succ_pos _,Nat.le_refl _⟩⟩
end
def YI {σ:Type} (P:Plain σ) (n cap:Nat) (Y:aP):Prop:=∃ E,Inv P n cap E Y
section
variable {σ:Type} {P:Plain σ} {n cap:Nat} {Y:aP} {t:Nat}
theorem YI.ok (h:YI P n cap Y):YOk n cap Y:=by obtain ⟨E,h⟩:=h;exact h.yok
theorem YI.step (hn:0<n) (h:YI P n cap Y) (ht:t<n) (hp:(Y.th t).part≠0):YI P n cap (bD n cap Y t).1:=by
 obtain ⟨E,h⟩:=h
 exact ⟨_,(wT hn h ht hp).1⟩
theorem YI.begin (h:YI P n cap Y) (ht:t<n) (hp:(Y.th t).part=0) (o:Op):YI P n cap (bG Y t o):=by
 obtain ⟨E,h⟩:=h
 exact ⟨_,FD h ht hp o⟩
theorem YI.new (P:Plain σ) (n cap:Nat):YI P n cap Y0:=⟨_,wU P n cap ⟨P.first,[]⟩⟩
theorem YI.word (hn:0<n) (h:YI P n cap Y) (ht:t<n) (hp:(Y.th t).part≠0):(bD n cap Y t).2=decide (((bD n cap Y t).1.th t).part=0):=by
 obtain ⟨E,h⟩:=h
 exact (wT hn h ht hp).2
end
theorem UR (n cap:Nat) (x:bA):(x.fail n cap).ops=x.ops:=by
 unfold bA.fail
 split<;>rw [(fZ _ _ _).1]
theorem ZD (n cap:Nat) (Y:aP) (t:Nat) (x:bA):(over n cap Y t x).1.bs.length≤Y.bs.length+1∧Y.bs.length≤(over n cap Y t x).1.bs.length:=by
 unfold over
 split<;>(try split)<;>simp [aP.set]
theorem US (n cap:Nat) (Y:aP) (t:Nat) (x:bA) (k:Nat):((over n cap Y t x).1.th k).ops=if k=t then x.ops else (Y.th k).ops:=by
 by_cases e:k=t
 ·subst e
  rw [if_pos rfl]
  unfold over
  split<;>(try split)<;>simp only [aP.set,aC,(fZ _ _ _).1,UR]
 ·rw [if_neg e]
  unfold over
  split<;>(try split)<;>simp only [aP.set,aD _ _ e]
theorem UT (n cap:Nat) (Y:aP) (t:Nat):(bD n cap Y t).1.bs.length≤Y.bs.length+1∧Y.bs.length≤(bD n cap Y t).1.bs.length:=by
 unfold bD
 dsimp only
 split
 ·exact ⟨Nat.le_succ _,Nat.le_refl _⟩
 ·exact ZD _ _ _ _ _
theorem uO (n cap:Nat) (Y:aP) (t k:Nat):((bD n cap Y t).1.th k).ops=(Y.th k).ops:=by
 unfold bD
 dsimp only
 split
 ·simp only [aP.set]
  by_cases e:k=t
  ·subst e;rw [aC]
  ·rw [aD _ _ e]
 ·rw [US]
  by_cases e:k=t
  ·subst e;rw [if_pos rfl]
  ·rw [if_neg e]
def oZ (n cap t:Nat):Nat→aP→aP
 |0,Y=>Y
 |f+1,Y=>if (Y.th t).part=0 then Y else oZ n cap t f (bD n cap Y t).1
section
variable {σ:Type} {P:Plain σ} {n cap:Nat} {t:Nat}
theorem wV {Y:aP} (h:TOk n cap (Y.th t)) (hp:(Y.th t).part≠0):0<(Y.th t).kC n cap:=by
 have:=(h.p2 hp).1
 unfold bA.kC
 rw [if_neg hp]
 omega
theorem zD (hn:0<n) (ht:t<n):∀ (f f':Nat) (Y:aP),YI P n cap Y→(Y.th t).kC n cap≤f→(Y.th t).kC n cap≤f'→oZ n cap t f Y=oZ n cap t f' Y
 |0,f',Y,h,h1,_=>by
  have hp:(Y.th t).part=0:=by
   by_cases hp:(Y.th t).part=0
   ·exact hp
   ·have:=wV (h.ok.th t ht) hp;omega
  cases f' with
  |zero=>rfl
  |succ f'=>simp only [oZ,if_pos hp]
 |f+1,0,Y,h,_,h2=>by
  have hp:(Y.th t).part=0:=by
   by_cases hp:(Y.th t).part=0
   ·exact hp
   ·have:=wV (h.ok.th t ht) hp;omega
  simp only [oZ,if_pos hp]
 |f+1,f'+1,Y,h,h1,h2=>by
  simp only [oZ]
  by_cases hp:(Y.th t).part=0
  ·rw [if_pos hp,if_pos hp]
  ·rw [if_neg hp,if_neg hp]
   have:=rM hn (h.ok.th t ht) hp
   exact zD hn ht f f' _ (h.step hn ht hp) (by omega) (by omega)
def fin (n cap t:Nat) (Y:aP):aP:=oZ n cap t 100000 Y
theorem UU (hn:0<n) (ht:t<n) {Y:aP} (h:YI P n cap Y) (hr:(Y.th t).kC n cap≤90000) (hp:(Y.th t).part≠0):fin n cap t (bD n cap Y t).1=fin n cap t Y:=by
 have:=rM hn (h.ok.th t ht) hp
 obtain ⟨f,hf,hf2⟩:∃ f,100000=f+1∧90000≤f:=⟨99999,rfl,by decide⟩
 unfold fin
 rw [hf]
 have e:oZ n cap t (f+1) Y=oZ n cap t f (bD n cap Y t).1:=by simp only [oZ,if_neg hp]
 rw [e]
 exact zD (P:=P) hn ht (f+1) f _ (h.step hn ht hp) (by omega) (by omega)
theorem UW {Y:aP} (hp:(Y.th t).part=0):fin n cap t Y=Y:=by
 obtain ⟨f,hf⟩:∃ f,100000=f+1:=⟨99999,rfl⟩
 unfold fin
 rw [hf]
 simp only [oZ,if_pos hp]
theorem vY (n cap:Nat) (Y:aP) (t:Nat) (o:Op):((bG Y t o).th t).kC n cap=bound n cap:=by
 unfold bG aP.set
 simp [aC,bA.kC,after,bound]
 omega
theorem BW {n cap:Nat} (hn:n≤64) (hc:cap≤64):bound n cap≤2000:=by
 unfold bound vR aQ tw
 omega
theorem qZ (n B:Nat):∀ l:List Nat,(∀ k∈l,k<n)→(∀ k,k<n→l.count k≤B)→l.length≤n*B:=by
 induction n with
 |zero =>
  intro l h _
  cases l with
  |nil=>simp
  |cons a l=>exact absurd (h a List.mem_cons_self) (Nat.not_lt_zero _)
 |succ n ih =>
  intro l h1 h2
  have e:l.length=(l.filter fun k=>decide (k≠n)).length+l.count n:=by
   have:∀ l:List Nat,l.length=(l.filter fun k=>decide (k≠n)).length+l.count n:=by
    intro l
    induction l with
    |nil=>rfl
    |cons a l ih =>
     by_cases q:a=n
     ·subst q
      simp only [ne_eq,not_true_eq_false,decide_false,List.filter_cons,Bool.false_eq_true,if_false,List.length_cons,List.count_cons_self]
      simp only [ne_eq] at ih
      omega
     ·simp only [ne_eq,List.filter_cons,q,not_false_eq_true,decide_true,if_true,List.length_cons,List.count_cons,beq_iff_eq,if_false]
      simp only [ne_eq] at ih
      omega
   exact this l
  have h3:=ih (l.filter fun k=>decide (k≠n)) (fun k hk=>by
   obtain ⟨q1,q2⟩:=List.mem_filter.1 hk
   have:=h1 k q1
   have:k≠n:=by simpa using q2
   omega) (fun k hk=>Nat.le_trans (List.Sublist.count_le _ List.filter_sublist) (h2 k (by omega)))
  have h4:=h2 n (Nat.lt_succ_self _)
  rw [e,Nat.succ_mul]
  omega
theorem YI.all {Y:aP} (h:YI P n cap Y) (hn:n≤64) {B:Nat} (hB:∀ t,t<n→(Y.th t).ops.length≤B):Y.bs.flatten.length≤64*B:=by
 have:=qZ n B Y.bs.flatten (fun k hk=>by obtain ⟨b,h1,h2⟩:=List.mem_flatten.1 hk;exact h.ok.mem b h1 k h2) (fun k hk=>Nat.le_trans (h.ok.ops k hk) (hB k hk))
 exact Nat.le_trans this (Nat.mul_le_mul_right _ hn)
end
end Go.Proofs.YtefjhnhdagolhaaGreat.M
