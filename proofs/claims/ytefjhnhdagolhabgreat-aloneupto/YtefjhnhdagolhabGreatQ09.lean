import Derived.Test.YtefjhnhdagolhabGreatQ08
import Derived.Test.YtefjhnhdagolhabGreatQ01
import Derived.Test.YtefjhnhdagolhabGreatQ06
set_option maxHeartbeats 800000
namespace Go.Proofs.YtefjhnhdagolhabGreat.M
section
variable {σ:Type} {P:Plain σ} {n cap:Nat} {E:aK σ} {Y:aT} {t:Nat} {nf:Nat→Nat}
theorem wA {α:Type} (f:Nat→α) (t:Nat):aH f t (f t)=f:=by funext k;unfold aH;split<;>simp_all
theorem tV {α β:Type} (f:α→β) (g:Nat→α) (t:Nat) (x:α):(fun k=>f (aH g t x k))=aH (fun k=>f (g k)) t (f x):=by funext k;unfold aH;split<;>rfl
theorem fS {E':aK σ} {Y':aT} {V':View σ} {e':aS σ} {x':bJ} (pb' nf':Nat→Nat) (hv:view E' Y' pb' nf'=V') (hN:E'.cZ=Y'.bs.length) (hG:gK P n V') (hE:E'.th=aH E.th t e') (hY:Y'.th=aH Y.th t x')
  (ho:∀ k,k<n→k≠t→eT P n cap V' k (E.th k) (Y.th k)) (h:eT P n cap V' t e' x'):sS P n cap E' Y' nf':=by
 refine ⟨pb',hN,by rw [hv];exact hG,fun k hk=>?_⟩
 rw [hv,hE,hY]
 by_cases q:k=t
 ·subst q;rw [aC,aC];exact h
 ·rw [aE _ _ q,aE _ _ q];exact ho k hk q
theorem oO {x:bJ} (hx:x=Y.th t) (h6:x.part≠6) (hl:1<x.left):eH n cap Y t=(Y.set t {x with left:=x.left-1},false):=by
 subst hx
 unfold eH
 simp only [h6,if_false]
 rw [if_pos (by omega)]
theorem fV {x:bJ} (hx:x=Y.th t) (h6:x.part≠6) (hl:x.left=1):eH n cap Y t=over n cap Y t {x with left:=0}:=by
 subst hx
 unfold eH
 simp only [h6,if_false]
 rw [hl,if_neg (by omega)]
theorem eU (y:bJ) (p:Nat) (hp:p≠0):(bJ.enter n y p).part≠0:=by
 unfold bJ.enter
 split
 ·show p+1≠0;omega
 ·exact hp
theorem EP (y:bJ):(bJ.fail n cap y).part≠0:=by
 unfold bJ.fail
 split
 ·exact eU _ _ (by decide)
 ·exact eU _ _ (by decide)
theorem MS (h:sS P n cap E Y nf) (ht:t<n) (hp:(Y.th t).part=0) (o:Op):sS P n cap (begin E t o) (aY Y t o) nf:=by
 obtain ⟨pb,h1,h2,h3⟩:=h
 refine fS (V':=(view E Y pb nf).more t o) pb nf ?_ h1 (h2.more o) rfl rfl (fun k hk OW=>(h3 k hk).more h2 OW) (TQ (h3 t ht) hp o)
 unfold view View.more
 congr 1
 ·show (fun k=>(aH Y.th t _ k).aN)=_
  rw [tV (fun x:bJ=>x.aN)]
  exact wA _ t
 ·show (fun k=>(aH Y.th t _ k).ops)=_
  rw [tV (fun x:bJ=>x.ops)]
theorem ER (h:Inv P n cap E Y) (ht:t<n) (hp:(Y.th t).part=0) (o:Op):Inv P n cap (begin E t o) (aY Y t o):=by
 obtain ⟨pb,nf,h⟩:=h
 obtain ⟨pb',h'⟩:=MS ⟨pb,h⟩ ht hp o
 exact ⟨pb',nf,h'⟩
def QI (Y:aT) (t:Nat) (nf:Nat→Nat):Nat→Nat:=if (Y.th t).part=2 then aH nf t Y.bs.length else nf
def Stepped (P:Plain σ) (n cap:Nat) (E:aK σ) (Y:aT) (t:Nat) (nf:Nat→Nat):Prop:=sS P n cap (step P n cap E t) (eH n cap Y t).1 (QI Y t nf)∧(eH n cap Y t).2=decide (((eH n cap Y t).1.th t).part=0)
theorem eS (pb nf:Nat→Nat) {E':aK σ} {Y':aT} {x':bJ} (hY:Y'.th=aH Y.th t x') (hf:x'.aN=(Y.th t).aN) (ho:x'.ops=(Y.th t).ops) :
  view E' Y' pb nf = {bs:=Y'.bs,aN:=fun k=>(Y.th k).aN,ops:=fun k=>(Y.th k).ops,bD:=E'.bD,eJ:=E'.eJ,rw:=E'.rw,eV:=E'.eV,prec:=E'.prec,pb:=pb,nf:=nf}:=by
 unfold view
 congr 1
 ·rw [hY,tV (fun x:bJ=>x.aN),hf]
  exact wA _ t
 ·rw [hY,tV (fun x:bJ=>x.ops),ho]
  exact wA _ t
theorem eX {x':bJ} (h:x'.part≠0):false=decide (((Y.set t x').th t).part=0):=by
 have:((Y.set t x').th t).part=x'.part:=by show (aH Y.th t x' t).part=_;rw [aC]
 rw [this]
 simp [h]
theorem bI (y:bJ) (p:Nat):(bJ.enter n y p).aN=y.aN∧(bJ.enter n y p).ops=y.ops:=by
 unfold bJ.enter
 split<;>exact ⟨rfl,rfl⟩
theorem rU (y:bJ):(bJ.fail n cap y).aN=y.aN∧(bJ.fail n cap y).ops=y.ops:=by
 unfold bJ.fail
 split
 ·exact bI _ _
 ·exact bI _ _
theorem aCm (h:sS P n cap E Y nf) (ht:t<n) (hp:(Y.th t).part=1):Stepped P n cap E Y t nf:=by
 obtain ⟨pb,h1,h2,h3⟩:=h
 have hT:=h3 t ht
 have cG:(E.th t).phase=1:=(hT.p2 (by omega)).trans hp
 obtain ⟨k0,k1,k2⟩:=aE4 hT hp
 obtain ⟨l1,l2⟩:=hT.p3 (by omega) (by omega)
 have hs:step P n cap E t = {E with eJ:=aH E.eJ t (aH (E.eJ t) (E.th t).past ((E.th t).op.w (E.th t).past)),th:=aH E.th t ((E.th t).pass 3 2)}:=by unfold step;simp only [cG]
 unfold Stepped QI
 rw [if_neg (show ¬(Y.th t).part=2 by omega)]
 rw [hs]
 by_cases hl:1<(Y.th t).left
 ·rw [oO rfl (by omega) hl]
  exact ⟨fS pb nf (eS pb nf rfl rfl rfl) h1 (h2.eJ k0 _) rfl rfl (fun k hk OW=>(h3 k hk).eJ (Ne.symm OW) k0 _) (k1 hl),eX (by show (Y.th t).part≠0;omega)⟩
 ·have JW:(Y.th t).left=1:=by omega
  have ho:over n cap Y t {Y.th t with left:=0} = (Y.set t (bJ.enter n {Y.th t with left:=0} 2),false):=by unfold over;simp only [hp]
  rw [fV rfl (by omega) JW,ho]
  exact ⟨fS pb nf (eS pb nf rfl (bI _ _).1 (bI _ _).2) h1 (h2.eJ k0 _) rfl rfl (fun k hk OW=>(h3 k hk).eJ (Ne.symm OW) k0 _) (k2 JW),eX (eU _ _ (by decide))⟩
theorem aCn (h:sS P n cap E Y nf) (ht:t<n) (hp:(Y.th t).part=2):Stepped P n cap E Y t nf:=by
 obtain ⟨pb,h1,h2,h3⟩:=h
 have hT:=h3 t ht
 have cG:(E.th t).phase=2:=(hT.p2 (by omega)).trans hp
 obtain ⟨k1,k2,k3,k4,k5,k6⟩:=aE5 hT hp (aH E.bD (t / 16) (E.bD (t / 16)+(if (Y.th t).aN % 2=1 then -(2 ^ (t % 16)) else 2 ^ (t % 16))))
 have htg:(if (E.th t).cP=true then -(2 ^ (t % 16)) else 2 ^ (t % 16):Int)=if (Y.th t).aN % 2=1 then -(2 ^ (t % 16)) else 2 ^ (t % 16):=by
  rw [k5]
  show (if decide ((Y.th t).aN % 2=1)=true then _ else _)=_
  by_cases c:(Y.th t).aN % 2=1<;>simp [c]
 have hs:step P n cap E t = {E with bD:=aH E.bD (t / 16) (E.bD (t / 16)+(if (Y.th t).aN % 2=1 then -(2 ^ (t % 16)) else 2 ^ (t % 16))),th:=aH E.th t (aS.bO {E.th t with cP:=!(E.th t).cP})}:=by unfold step;simp only [cG,htg]
 have ho:over n cap Y t {Y.th t with left:=0} = (Y.set t (bJ.enter n {Y.th t with left:=0,aN:=(Y.th t).aN+1,tries:=1} 3),false):=by unfold over;simp only [hp]
 unfold Stepped QI
 rw [if_pos hp]
 rw [hs,fV rfl (by omega) k1,ho]
 refine ⟨fS pb (aH nf t Y.bs.length) (V':=(view E Y pb nf).flip t (aH E.bD (t / 16) (E.bD (t / 16)+(if (Y.th t).aN % 2=1 then -(2 ^ (t % 16)) else 2 ^ (t % 16))))) ?_ h1 (h2.flip ht k2 k3 k4) rfl rfl (fun k hk OW=>(h3 k hk).flip OW k2 _) k6,eX (eU _ _ (by decide))⟩
 unfold view View.flip
 congr 1
 ·show (fun k=>(aH Y.th t _ k).aN)=_
  rw [tV (fun x:bJ=>x.aN),(bI _ _).1]
 ·show (fun k=>(aH Y.th t _ k).ops)=_
  rw [tV (fun x:bJ=>x.ops),(bI _ _).2]
  exact wA _ t
theorem aCo (h:sS P n cap E Y nf) (ht:t<n) (hp:(Y.th t).part=3):Stepped P n cap E Y t nf:=by
 obtain ⟨pb,h1,h2,h3⟩:=h
 have hT:=h3 t ht
 have cG:(E.th t).phase=3:=(hT.p2 (by omega)).trans hp
 obtain ⟨k1,k2⟩:=aEY hT hp
 obtain ⟨l1,l2⟩:=hT.p3 (by omega) (by omega)
 have hs:step P n cap E t = {E with th:=aH E.th t ((E.th t).pass (E.th t).aG 4)}:=by unfold step;simp only [cG]
 unfold Stepped QI
 rw [if_neg (show ¬(Y.th t).part=2 by omega)]
 rw [hs]
 by_cases hl:1<(Y.th t).left
 ·rw [oO rfl (by omega) hl]
  exact ⟨fS pb nf (eS pb nf rfl rfl rfl) h1 h2 rfl rfl (fun k hk _=>h3 k hk) (k1 hl),eX (by show (Y.th t).part≠0;omega)⟩
 ·have JW:(Y.th t).left=1:=by omega
  have ho:over n cap Y t {Y.th t with left:=0} = (Y.set t (bJ.enter n {Y.th t with left:=0} 4),false):=by unfold over;simp only [hp]
  rw [fV rfl (by omega) JW,ho]
  exact ⟨fS pb nf (eS pb nf rfl (bI _ _).1 (bI _ _).2) h1 h2 rfl rfl (fun k hk _=>h3 k hk) (k2 JW),eX (eU _ _ (by decide))⟩
theorem aCp (h:sS P n cap E Y nf) (ht:t<n) (hp:(Y.th t).part=4):Stepped P n cap E Y t nf:=by
 obtain ⟨pb,h1,h2,h3⟩:=h
 have hT:=h3 t ht
 have cG:(E.th t).phase=4:=(hT.p2 (by omega)).trans hp
 obtain ⟨k1,k2⟩:=aEZ hT h2 hp
 have hs:step P n cap E t = {E with th:=aH E.th t (aS.enter {E.th t with stamp:=Y.bs.length,aQ:=E.prec} 5)}:=by unfold step;simp only [cG,h1]
 have ho:over n cap Y t {Y.th t with left:=0} = (Y.set t (bJ.enter n {Y.th t with left:=0,stamp:=Y.bs.length} 5),false):=by unfold over;simp only [hp]
 unfold Stepped QI
 rw [if_neg (show ¬(Y.th t).part=2 by omega)]
 rw [hs,fV rfl (by omega) k1,ho]
 exact ⟨fS pb nf (eS pb nf rfl (bI _ _).1 (bI _ _).2) h1 h2 rfl rfl (fun k hk _=>h3 k hk) k2,eX (eU _ _ (by decide))⟩
theorem aCq (hn:0<n) (h:sS P n cap E Y nf) (ht:t<n) (hp:(Y.th t).part=5):Stepped P n cap E Y t nf:=by
 obtain ⟨pb,h1,h2,h3⟩:=h
 have hT:=h3 t ht
 have cG:(E.th t).phase=5:=(hT.p2 (by omega)).trans hp
 by_cases hw:(E.th t).past<aR n
 ·obtain ⟨k1,k2⟩:=aCf hT h2 hp hw
  have hs:step P n cap E t = {E with th:=aH E.th t (aS.pass {E.th t with dw:=aH (E.th t).dw (E.th t).past (E.rw (E.th t).aQ (E.th t).past)} (aR n+1) 6)}:=by unfold step;simp only [cG,hw,if_true]
  unfold Stepped QI
  rw [if_neg (show ¬(Y.th t).part=2 by omega)]
  rw [hs,oO rfl (by omega) k1]
  exact ⟨fS pb nf (eS pb nf rfl rfl rfl) h1 h2 rfl rfl (fun k hk _=>h3 k hk) k2,eX (by show (Y.th t).part≠0;omega)⟩
 ·obtain ⟨k1,k2⟩:=aCg hn hT h2 hp hw
  have hs:step P n cap E t = {E with th:=aH E.th t (aS.pass {E.th t with now:=(E.eV (E.th t).aQ).map Prod.fst,cC:=(E.eV (E.th t).aQ).map Prod.fst} (aR n+1) 6)}:=by unfold step;simp only [cG,hw,if_false]
  have ho:over n cap Y t {Y.th t with left:=0} = (Y.set t (bJ.enter n {Y.th t with left:=0} 6),false):=by unfold over;simp only [hp]
  unfold Stepped QI
  rw [if_neg (show ¬(Y.th t).part=2 by omega)]
  rw [hs,fV rfl (by omega) k1,ho]
  exact ⟨fS pb nf (eS pb nf rfl (bI _ _).1 (bI _ _).2) h1 h2 rfl rfl (fun k hk _=>h3 k hk) k2,eX (eU _ _ (by decide))⟩
theorem aCr (h:sS P n cap E Y nf) (ht:t<n) (hp:(Y.th t).part=6):Stepped P n cap E Y t nf:=by
 obtain ⟨pb,h1,h2,h3⟩:=h
 have hT:=h3 t ht
 have cG:(E.th t).phase=6:=(hT.p2 (by omega)).trans hp
 obtain ⟨k1,k2⟩:=aE0 hT h2 hp (fun k=>if k / 16=tw n-((Y.th t).left-1)-1∧k<n then (Y.th k).aN else (Y.th t).flipped k) rfl
 obtain ⟨l1,l2⟩:=hT.p3 (by omega) (by omega)
 have hs:step P n cap E t = {E with th:=aH E.th t (aS.pass {E.th t with tg:=aH (E.th t).tg (E.th t).past (E.bD (E.th t).past)} (tw n) 7)}:=by unfold step;simp only [cG]
 unfold Stepped QI
 rw [if_neg (show ¬(Y.th t).part=2 by omega)]
 rw [hs]
 by_cases hl:1<(Y.th t).left
 ·have hr:eH n cap Y t=(Y.set t {Y.th t with left:=(Y.th t).left-1,flipped:=fun k=>if k / 16=tw n-((Y.th t).left-1)-1∧k<n then (Y.th k).aN else (Y.th t).flipped k},false):=by
   unfold eH
   simp only [hp,if_true]
   rw [if_pos (by omega)]
  rw [hr]
  exact ⟨fS pb nf (eS pb nf rfl rfl rfl) h1 h2 rfl rfl (fun k hk _=>h3 k hk) (k1 hl),eX (by show (Y.th t).part≠0;omega)⟩
 ·have JW:(Y.th t).left=1:=by omega
  have hr:eH n cap Y t=(Y.set t (bJ.enter n {Y.th t with left:=0,flipped:=fun k=>if k / 16=tw n-((Y.th t).left-1)-1∧k<n then (Y.th k).aN else (Y.th t).flipped k} 7),false):=by
   unfold eH
   simp only [hp,if_true]
   rw [if_neg (by omega)]
   unfold over
   simp only [JW,Nat.sub_self]
  rw [hr]
  exact ⟨fS pb nf (eS pb nf rfl (bI _ _).1 (bI _ _).2) h1 h2 rfl rfl (fun k hk _=>h3 k hk) (k2 JW),eX (eU _ _ (by decide))⟩
end
section
variable {σ:Type} {P:Plain σ} {n cap:Nat} {E:aK σ} {Y:aT} {t:Nat} {nf:Nat→Nat}
theorem aCs (h:sS P n cap E Y nf) (ht:t<n) (hp:(Y.th t).part=7):Stepped P n cap E Y t nf:=by
 obtain ⟨pb,h1,h2,h3⟩:=h
 have hT:=h3 t ht
 have cG:(E.th t).phase=7:=(hT.p2 (by omega)).trans hp
 obtain ⟨k1,k2,k3⟩:=aE1 ht hT h2 hp
 have hst:(Y.th t).stamp=(E.th t).stamp:=(hT.vI (by omega) (by omega)).st
 unfold Stepped QI
 rw [if_neg (show ¬(Y.th t).part=2 by omega)]
 by_cases hs0:(E.th t).stamp=Y.bs.length
 ·obtain ⟨q1,q2⟩:=k3 hs0 _ rfl
  have SI:Y.pending n {Y.th t with left:=0} = (List.range n).filter (fun k=>decide (((Y.th t).flipped k+cnt Y.bs k) % 2=1)):=rfl
  have hs:step P n cap E t = {E with th:=aH E.th t (aS.enter {E.th t with aI:=(List.range n).filter (fun k=>decide (((Y.th t).flipped k+cnt Y.bs k) % 2=1))} (if t∈(List.range n).filter (fun k=>decide (((Y.th t).flipped k+cnt Y.bs k) % 2=1)) then 8 else 11))}:=by
   unfold step
   simp only [cG]
   rw [if_pos (by rw [h1,hs0]),q1]
   rfl
  have ho:over n cap Y t {Y.th t with left:=0} = (Y.set t (bJ.enter n {Y.th t with left:=0,aI:=(List.range n).filter (fun k=>decide (((Y.th t).flipped k+cnt Y.bs k) % 2=1))} (if t∈(List.range n).filter (fun k=>decide (((Y.th t).flipped k+cnt Y.bs k) % 2=1)) then 8 else 11)),false):=by
   unfold over
   simp only [hp]
   rw [if_pos (by rw [hst,hs0])]
   rfl
  rw [hs,fV rfl (by omega) k1,ho]
  exact ⟨fS pb nf (eS pb nf rfl (bI _ _).1 (bI _ _).2) h1 h2 rfl rfl (fun k hk _=>h3 k hk) q2,eX (eU _ _ (by split<;>decide))⟩
 ·have hs:step P n cap E t = {E with th:=aH E.th t ((E.th t).fail cap)}:=by
   unfold step
   simp only [cG]
   rw [if_neg (by rw [h1];exact fun q=>hs0 q.symm)]
  have ho:over n cap Y t {Y.th t with left:=0} = (Y.set t (bJ.fail n cap {Y.th t with left:=0}),false):=by
   unfold over
   simp only [hp]
   rw [if_neg (by rw [hst];exact fun q=>hs0 q.symm)]
  rw [hs,fV rfl (by omega) k1,ho]
  exact ⟨fS pb nf (eS pb nf rfl (rU _).1 (rU _).2) h1 h2 rfl rfl (fun k hk _=>h3 k hk) (k2 hs0),eX (EP _)⟩
theorem aCt (h:sS P n cap E Y nf) (ht:t<n) (hp:(Y.th t).part=8):Stepped P n cap E Y t nf:=by
 obtain ⟨pb,h1,h2,h3⟩:=h
 have hT:=h3 t ht
 have cG:(E.th t).phase=8:=(hT.p2 (by omega)).trans hp
 obtain ⟨e3,TN⟩:∃ e3,e3=(if (E.th t).past+1=3*(E.th t).aI.length then aS.close n (if (E.th t).past % 3=2 then aS.apply P n {E.th t with heard:=aH (E.th t).heard ((E.th t).past % 3) (E.eJ ((E.th t).aI.getD ((E.th t).past / 3) 0) ((E.th t).past % 3))} ((E.th t).aI.getD ((E.th t).past / 3) 0) else {E.th t with heard:=aH (E.th t).heard ((E.th t).past % 3) (E.eJ ((E.th t).aI.getD ((E.th t).past / 3) 0) ((E.th t).past % 3))}) else (if (E.th t).past % 3=2 then aS.apply P n {E.th t with heard:=aH (E.th t).heard ((E.th t).past % 3) (E.eJ ((E.th t).aI.getD ((E.th t).past / 3) 0) ((E.th t).past % 3))} ((E.th t).aI.getD ((E.th t).past / 3) 0) else {E.th t with heard:=aH (E.th t).heard ((E.th t).past % 3) (E.eJ ((E.th t).aI.getD ((E.th t).past / 3) 0) ((E.th t).past % 3))})):=⟨_,rfl⟩
 obtain ⟨-,k1,k2⟩:=aE3 hT h2 hp e3 _ rfl TN
 obtain ⟨l1,l2⟩:=hT.p3 (by omega) (by omega)
 have hs:step P n cap E t = {E with th:=aH E.th t (e3.pass (3*(E.th t).aI.length) 9)}:=by
  rw [TN]
  unfold step
  simp only [cG]
 unfold Stepped QI
 rw [if_neg (show ¬(Y.th t).part=2 by omega)]
 rw [hs]
 by_cases hl:1<(Y.th t).left
 ·rw [oO rfl (by omega) hl]
  exact ⟨fS pb nf (eS pb nf rfl rfl rfl) h1 h2 rfl rfl (fun k hk _=>h3 k hk) (k1 hl),eX (by show (Y.th t).part≠0;omega)⟩
 ·have JW:(Y.th t).left=1:=by omega
  have ho:over n cap Y t {Y.th t with left:=0} = (Y.set t (bJ.enter n {Y.th t with left:=0} 9),false):=by unfold over;simp only [hp]
  rw [fV rfl (by omega) JW,ho]
  exact ⟨fS pb nf (eS pb nf rfl (bI _ _).1 (bI _ _).2) h1 h2 rfl rfl (fun k hk _=>h3 k hk) (k2 JW),eX (eU _ _ (by decide))⟩
theorem BN {V:View σ} {u:Nat} {e f:aS σ} {x y:bJ} (h:eT P n cap V t e x) (h':eT P n cap V u f y) (hu:u≠t):f.spare≠e.spare:=by
 rcases h.sp with ⟨a,b⟩|⟨a,b⟩<;>rcases h'.sp with ⟨c,d⟩|⟨c,d⟩<;>omega
theorem aCu (h:sS P n cap E Y nf) (ht:t<n) (hp:(Y.th t).part=9):Stepped P n cap E Y t nf:=by
 obtain ⟨pb,h1,h2,h3⟩:=h
 have hT:=h3 t ht
 have cG:(E.th t).phase=9:=(hT.p2 (by omega)).trans hp
 unfold Stepped QI
 rw [if_neg (show ¬(Y.th t).part=2 by omega)]
 by_cases hw:(E.th t).past<aR n
 ·obtain ⟨k1,k2⟩:=aCj hT hp hw
  have hs:step P n cap E t = {E with rw:=aH E.rw (E.th t).spare (aH (E.rw (E.th t).spare) (E.th t).past ((E.th t).dw (E.th t).past)),th:=aH E.th t ((E.th t).pass (aR n+1) 10)}:=by unfold step;simp only [cG,hw,if_true]
  rw [hs,oO rfl (by omega) k1]
  exact ⟨fS pb nf (eS pb nf rfl rfl rfl) h1 (h2.word hT.vU (hT.vI (by omega) (by omega)).spb (hT.d6 (by omega) (by omega)).1) rfl rfl (fun k hk OW=>(h3 k hk).word hT.vU (BN hT (h3 k hk) OW) _) k2,eX (by show (Y.th t).part≠0;omega)⟩
 ·obtain ⟨k1,k2,k3⟩:=aCk hT hp hw
  have hs:step P n cap E t = {E with eV:=aH E.eV (E.th t).spare ((E.th t).now.bind fun v=>(E.th t).cC.map fun f=>(v,f)),th:=aH E.th t ((E.th t).pass (aR n+1) 10)}:=by unfold step;simp only [cG,hw,if_false]
  have ho:over n cap Y t {Y.th t with left:=0} = (Y.set t (bJ.enter n {Y.th t with left:=0} 10),false):=by unfold over;simp only [hp]
  rw [hs,fV rfl (by omega) k1,ho]
  exact ⟨fS pb nf (eS pb nf rfl (bI _ _).1 (bI _ _).2) h1 (h2.state hT.vU _) rfl rfl (fun k hk OW=>(h3 k hk).state (BN hT (h3 k hk) OW) _ k2) k3,eX (eU _ _ (by decide))⟩
theorem aAs (h:sS P n cap E Y nf) (ht:t<n) (hp:(Y.th t).part=10):Stepped P n cap E Y t nf:=by
 obtain ⟨pb,h1,h2,h3⟩:=h
 have hT:=h3 t ht
 have cG:(E.th t).phase=10:=(hT.p2 (by omega)).trans hp
 obtain ⟨k1,k2,k3⟩:=aCl ht hT h2 hp
 have hst:(Y.th t).stamp=(E.th t).stamp:=(hT.vI (by omega) (by omega)).st
 unfold Stepped QI
 rw [if_neg (show ¬(Y.th t).part=2 by omega)]
 by_cases hs0:(E.th t).stamp=Y.bs.length
 ·obtain ⟨q1,q2,q3,q4,q5,q6⟩:=k3 hs0
  have hs:step P n cap E t = {E with cZ:=(E.th t).stamp+1,prec:=(E.th t).spare,th:=aH E.th t (aS.enter {E.th t with spare:=(E.th t).kept,kept:=(E.th t).spare,aG:=(E.th t).aG / 2} 11)}:=by
   unfold step
   simp only [cG]
   rw [if_pos ⟨by rw [h1,hs0],q1.symm⟩]
  have ho:over n cap Y t {Y.th t with left:=0} = ({th:=aH Y.th t (bJ.enter n {Y.th t with left:=0,aI:=[],aG:=(Y.th t).aG / 2} 11),bs:=Y.bs++[(E.th t).aI]},false):=by
   unfold over
   simp only [hp]
   rw [if_pos (by rw [hst,hs0]),q2]
  rw [hs,fV rfl (by omega) k1,ho]
  refine ⟨fS (aH pb (E.th t).spare (Y.bs.length+1)) nf (V':=(view E Y pb nf).cK (E.th t).spare (E.th t).aI) (eS _ nf rfl (bI _ _).1 (bI _ _).2) (by simp [hs0]) q4 rfl rfl (fun k hk OW=>(h3 k hk).cK q5 h2 (BN hT (h3 k hk) OW)) q6,?_⟩
  show false=decide ((aH Y.th t _ t).part=0)
  rw [aC]
  have:=eU (n:=n) {Y.th t with left:=0,aI:=[],aG:=(Y.th t).aG / 2} 11 (by decide)
  simp [this]
 ·have hs:step P n cap E t = {E with th:=aH E.th t ((E.th t).fail cap)}:=by
   unfold step
   simp only [cG]
   rw [if_neg (by rintro ⟨q,-⟩;rw [h1] at q;exact hs0 q.symm)]
  have ho:over n cap Y t {Y.th t with left:=0} = (Y.set t (bJ.fail n cap {Y.th t with left:=0}),false):=by
   unfold over
   simp only [hp]
   rw [if_neg (by rw [hst];exact fun q=>hs0 q.symm)]
  rw [hs,fV rfl (by omega) k1,ho]
  exact ⟨fS pb nf (eS pb nf rfl (rU _).1 (rU _).2) h1 h2 rfl rfl (fun k hk _=>h3 k hk) (k2 hs0),eX (EP _)⟩
theorem aAt (h:sS P n cap E Y nf) (ht:t<n) (hp:(Y.th t).part=11):Stepped P n cap E Y t nf:=by
 obtain ⟨pb,h1,h2,h3⟩:=h
 have hT:=h3 t ht
 obtain ⟨l1,l2,l3⟩:=hT.p4 hp
 obtain ⟨k1,k2,k3⟩:=aCh ht hT h2 hp
 unfold Stepped QI
 rw [if_neg (show ¬(Y.th t).part=2 by omega)]
 rcases (by omega:(Y.th t).left=3∨(Y.th t).left=2∨(Y.th t).left=1) with hl|hl|hl
 ·have cG:(E.th t).phase=11:=by rw [l3,hl]
  have hs:step P n cap E t = {E with th:=aH E.th t (aS.enter {E.th t with found:=E.prec} 12)}:=by unfold step;simp only [cG]
  rw [hs,oO rfl (by omega) (by omega)]
  exact ⟨fS pb nf (eS pb nf rfl rfl rfl) h1 h2 rfl rfl (fun k hk _=>h3 k hk) (k1 hl),eX (by show (Y.th t).part≠0;omega)⟩
 ·have cG:(E.th t).phase=12:=by rw [l3,hl]
  have hs:step P n cap E t = {E with th:=aH E.th t (aS.enter {E.th t with xG:=E.rw (E.th t).found (aL n t)} 13)}:=by unfold step;simp only [cG]
  rw [hs,oO rfl (by omega) (by omega)]
  exact ⟨fS pb nf (eS pb nf rfl rfl rfl) h1 h2 rfl rfl (fun k hk _=>h3 k hk) (k2 hl),eX (by show (Y.th t).part≠0;omega)⟩
 ·have cG:(E.th t).phase=13:=by rw [l3,hl]
  have hs:step P n cap E t = {E with th:=aH E.th t (aS.enter {E.th t with val:=E.rw (E.th t).found (aM n t),ended:=true} 0)}:=by unfold step;simp only [cG]
  have ho:over n cap Y t {Y.th t with left:=0} = (Y.set t {Y.th t with left:=0,part:=0,ended:=(Y.th t).ended+1},true):=by unfold over;simp only [hp]
  rw [hs,fV rfl (by omega) hl,ho]
  refine ⟨fS pb nf (eS pb nf rfl rfl rfl) h1 h2 rfl rfl (fun k hk _=>h3 k hk) (k3 hl),?_⟩
  show true=decide ((aH Y.th t _ t).part=0)
  rw [aC]
  rfl
theorem QJ (hn:0<n) (h:sS P n cap E Y nf) (ht:t<n) (hb:(Y.th t).part≠0):Stepped P n cap E Y t nf:=by
 have WQ:(Y.th t).part≤11:=by obtain ⟨pb,-,-,h3⟩:=h;exact (h3 t ht).p1
 rcases (by omega:(Y.th t).part=1∨(Y.th t).part=2∨(Y.th t).part=3∨(Y.th t).part=4∨(Y.th t).part=5∨(Y.th t).part=6∨(Y.th t).part=7∨(Y.th t).part=8∨(Y.th t).part=9∨(Y.th t).part=10∨(Y.th t).part=11) with q|q|q|q|q|q|q|q|q|q|q
 ·exact aCm h ht q
 ·exact aCn h ht q
 ·exact aCo h ht q
 ·exact aCp h ht q
 ·exact aCq hn h ht q
 ·exact aCr h ht q
 ·exact aCs h ht q
 ·exact aCt h ht q
 ·exact aCu h ht q
 ·exact aAs h ht q
 ·exact aAt h ht q
theorem JY (hn:0<n) (h:Inv P n cap E Y) (ht:t<n) (hb:(Y.th t).part≠0):Inv P n cap (step P n cap E t) (eH n cap Y t).1∧(eH n cap Y t).2=decide (((eH n cap Y t).1.th t).part=0):=by
 obtain ⟨pb,nf,h⟩:=h
 obtain ⟨⟨pb',h'⟩,q⟩:=QJ hn ⟨pb,h⟩ ht hb
 exact ⟨⟨pb',_,h'⟩,q⟩
end
section
variable {σ:Type} {P:Plain σ} {n cap:Nat} {E:aK σ} {Y:aT} {t:Nat}
structure DS (n:Nat) (E:aK σ):Prop where
 pr:E.prec<2*n+1
 th:∀ t,t<n→(E.th t).aQ<2*n+1∧(E.th t).found<2*n+1∧(E.th t).stamp≤E.cZ
theorem DS.aH {E':aK σ} {e':aS σ} (h:DS n E) (hp:E'.prec=E.prec) (hs:E.cZ≤E'.cZ) (ht:E'.th=M.aH E.th t e') (h1:e'.aQ<2*n+1) (h2:e'.found<2*n+1) (h3:e'.stamp≤E'.cZ):DS n E':=by
 refine ⟨by rw [hp];exact h.pr,fun u hu=>?_⟩
 rw [ht]
 by_cases q:u=t
 ·subst q;rw [aC];exact ⟨h1,h2,h3⟩
 ·rw [aE _ _ q]
  obtain ⟨a,b,c⟩:=h.th u hu
  exact ⟨a,b,Nat.le_trans c hs⟩
theorem dF (e:aS σ) (s p:Nat):(e.pass s p).aQ=e.aQ∧(e.pass s p).found=e.found∧(e.pass s p).stamp=e.stamp:=by unfold aS.pass;split<;>exact ⟨rfl,rfl,rfl⟩
theorem nK (e:aS σ):e.bO.aQ=e.aQ∧e.bO.found=e.found∧e.bO.stamp=e.stamp:=by unfold aS.bO;split<;>exact ⟨rfl,rfl,rfl⟩
theorem rD (e:aS σ) (cap:Nat):(e.fail cap).aQ=e.aQ∧(e.fail cap).found=e.found∧(e.fail cap).stamp=e.stamp:=by
 unfold aS.fail
 split
 ·exact ⟨rfl,rfl,rfl⟩
 ·exact nK _
theorem oD (P:Plain σ) (n:Nat) (e:aS σ) (k:Nat):(e.apply P n k).aQ=e.aQ∧(e.apply P n k).found=e.found∧(e.apply P n k).stamp=e.stamp:=by unfold aS.apply;split<;>exact ⟨rfl,rfl,rfl⟩
theorem DS.step (h:DS n E) (ht:t<n) (hsp:(E.th t).spare<2*n+1):DS n (M.step P n cap E t):=by
 obtain ⟨b1,b2,b3⟩:=h.th t ht
 unfold M.step
 dsimp only
 split
 ·exact h.aH rfl (Nat.le_refl _) rfl (by rw [(dF _ _ _).1];exact b1) (by rw [(dF _ _ _).2.1];exact b2) (by rw [(dF _ _ _).2.2];exact b3)
 ·exact h.aH rfl (Nat.le_refl _) rfl (by rw [(nK _).1];exact b1) (by rw [(nK _).2.1];exact b2) (by rw [(nK _).2.2];exact b3)
 ·exact h.aH rfl (Nat.le_refl _) rfl (by rw [(dF _ _ _).1];exact b1) (by rw [(dF _ _ _).2.1];exact b2) (by rw [(dF _ _ _).2.2];exact b3)
 ·exact h.aH rfl (Nat.le_refl _) rfl h.pr b2 (Nat.le_refl _)
 ·refine h.aH rfl (Nat.le_refl _) rfl (by rw [(dF _ _ _).1];split<;>exact b1) (by rw [(dF _ _ _).2.1];split<;>exact b2) (by rw [(dF _ _ _).2.2];split<;>exact b3)
 ·exact h.aH rfl (Nat.le_refl _) rfl (by rw [(dF _ _ _).1];exact b1) (by rw [(dF _ _ _).2.1];exact b2) (by rw [(dF _ _ _).2.2];exact b3)
 ·refine h.aH rfl (Nat.le_refl _) rfl ?_ ?_ ?_
  ·split
   ·exact b1
   ·rw [(rD _ _).1];exact b1
  ·split
   ·exact b2
   ·rw [(rD _ _).2.1];exact b2
  ·split
   ·exact b3
   ·rw [(rD _ _).2.2];exact b3
 ·refine h.aH rfl (Nat.le_refl _) rfl ?_ ?_ ?_
  ·rw [(dF _ _ _).1]
   split<;>split<;>first|exact b1|(rw [(oD _ _ _ _).1];exact b1)|(show ((aS.apply P n _ _).aQ<_);rw [(oD _ _ _ _).1];exact b1)
  ·rw [(dF _ _ _).2.1]
   split<;>split<;>first|exact b2|(rw [(oD _ _ _ _).2.1];exact b2)|(show ((aS.apply P n _ _).found<_);rw [(oD _ _ _ _).2.1];exact b2)
  ·rw [(dF _ _ _).2.2]
   split<;>split<;>first|exact b3|(rw [(oD _ _ _ _).2.2];exact b3)|(show ((aS.apply P n _ _).stamp≤_);rw [(oD _ _ _ _).2.2];exact b3)
 ·split
  ·exact h.aH rfl (Nat.le_refl _) rfl (by rw [(dF _ _ _).1];exact b1) (by rw [(dF _ _ _).2.1];exact b2) (by rw [(dF _ _ _).2.2];exact b3)
  ·exact h.aH rfl (Nat.le_refl _) rfl (by rw [(dF _ _ _).1];exact b1) (by rw [(dF _ _ _).2.1];exact b2) (by rw [(dF _ _ _).2.2];exact b3)
 ·split
  ·rename_i q
   refine ⟨hsp,fun u hu=>?_⟩
   show ((M.aH E.th t _ u).aQ<_)∧((M.aH E.th t _ u).found<_)∧((M.aH E.th t _ u).stamp≤(E.th t).stamp+1)
   by_cases c:u=t
   ·subst c;rw [aC];exact ⟨b1,b2,Nat.le_succ _⟩
   ·rw [aE _ _ c]
    obtain ⟨a1,a2,a3⟩:=h.th u hu
    exact ⟨a1,a2,by omega⟩
  ·exact h.aH rfl (Nat.le_refl _) rfl (by rw [(rD _ _).1];exact b1) (by rw [(rD _ _).2.1];exact b2) (by rw [(rD _ _).2.2];exact b3)
 ·exact h.aH rfl (Nat.le_refl _) rfl b1 h.pr b3
 ·exact h.aH rfl (Nat.le_refl _) rfl b1 b2 b3
 ·exact h.aH rfl (Nat.le_refl _) rfl b1 b2 b3
 ·exact h
theorem DS.begin (h:DS n E) (ht:t<n) (o:Op):DS n (M.begin E t o):=by
 obtain ⟨b1,b2,b3⟩:=h.th t ht
 exact h.aH rfl (Nat.le_refl _) rfl b1 b2 b3
end
section
variable {σ:Type}
def E0 (P:Plain σ) (f:cY σ):aK σ :=
 {bD:=fun _=>0,eJ:=fun _ _=>0,rw:=fun _ _=>0,eV:=fun r=>if r=0 then some (⟨P.first,[]⟩,f) else none,cZ:=0,prec:=0
  th:=fun t=>{phase:=0,past:=0,op:=⟨0,0,0⟩,cP:=false,aG:=0,again:=false,spare:=2*t+1,kept:=2*t+2,stamp:=0,aQ:=0,dw:=fun _=>0,now:=none,cC:=none,tg:=fun _=>0,aI:=[],heard:=fun _=>0,found:=0,xG:=0,val:=0,ended:=false}}
def Y0:aT:={th:=fun _=>{ops:=[],ended:=0,aN:=0,part:=0,left:=0,aG:=0,tries:=0,stamp:=0,flipped:=fun _=>0,aI:=[]},bs:=[]}
theorem ES (n w:Nat):bits n (fun _=>0) w=0:=by
 have:∀ m,val (LP n (fun _=>0) w) m=0:=by
  intro m
  induction m with
  |zero=>rfl
  |succ m ih =>
   have hd:LP n (fun _=>0) w m=0:=by unfold LP;split<;>rfl
   simp [val,ih,hd]
 unfold bits
 rw [this]
 rfl
theorem TR (P:Plain σ) (n cap:Nat) (f:cY σ):sS P n cap (E0 P f) Y0 (fun _=>0):=by
 refine ⟨fun _=>0,rfl,?_,fun t ht=>?_⟩
 ·exact {fl:=fun t _=>⟨Nat.le_refl _,Nat.zero_le _⟩,WM:=fun t _=>Nat.le_refl _,TC:=fun t _ h=>absurd h (Nat.lt_irrefl _),mem:=fun b hb=>absurd hb List.not_mem_nil,bD:=fun w _=>(ES n w).symm,QB:=fun w _=>(ES n w).symm,MC:=fun t _=>⟨rfl,rfl⟩,zC:=⟨f,rfl⟩,recs:=fun r t _ _=>⟨rfl,rfl⟩,pbN:=fun _=>Nat.le_refl _,pbc:=rfl,nfN:=fun _=>Nat.le_refl _,TD:=fun t _ h=>absurd h (by show ¬(0+2≤0);decide)}
 ·have h0:(Y0.th t).part=0:=rfl
  exact {p1:=by rw [h0];decide,p2:=fun _=>rfl,p3:=fun h=>absurd h0 h,p4:=fun h=>by rw [h0] at h;exact absurd h (by decide),xo:=rfl,xf:=rfl,bk:=rfl,bc:=Nat.zero_le _,ag:=fun h=>absurd h0 h,vT:=rfl,xI:=fun h=>absurd h0 h,c0:=fun _=>⟨rfl,rfl,rfl⟩,c1:=fun h=>by rw [h0] at h;omega,c3:=fun h=>by rw [h0] at h;omega,vA:=fun h=>by rw [h0] at h;omega,QC:=fun h=>by rw [h0] at h;omega,xJ:=fun h=>by rw [h0] at h;omega,sp:=.inl ⟨rfl,rfl⟩,vU:=Nat.succ_ne_zero _,en:=rfl,a0:=fun _ h=>absurd h (Nat.lt_irrefl _),a1:=fun h=>by rw [h0] at h;omega,fd:=fun h=>by rw [h0] at h;omega,t0:=fun h=>by rw [h0] at h;omega,tr:=fun h=>by rw [h0] at h;omega,tn:=fun h=>by rw [h0] at h;omega,s1:=fun h=>by rw [h0] at h;omega,d5:=fun h=>by rw [h0] at h;omega,d6:=fun h=>by rw [h0] at h;omega,d7:=fun h=>by rw [h0] at h;omega,t6:=fun h=>by rw [h0] at h;omega,t7:=fun h=>by rw [h0] at h;omega,h8:=fun h=>by rw [h0] at h;omega,JH:=fun h=>by rw [h0] at h;omega,h9:=fun h=>by rw [h0] at h;omega,w9:=fun h=>by rw [h0] at h;omega,JI:=fun h=>by rw [h0] at h;omega}
theorem wB (P:Plain σ) (n cap:Nat) (f:cY σ):Inv P n cap (E0 P f) Y0:=by
 obtain ⟨pb,h⟩:=TR P n cap f
 exact ⟨pb,_,h⟩
theorem zQ (P:Plain σ) (n:Nat) (f:cY σ):DS n (E0 P f):=⟨Nat.succ_pos _,fun _ _=>⟨Nat.succ_pos _,Nat.succ_pos _,Nat.le_refl _⟩⟩
end
def YI {σ:Type} (P:Plain σ) (n cap:Nat) (Y:aT):Prop:=∃ E,Inv P n cap E Y
section
variable {σ:Type} {P:Plain σ} {n cap:Nat} {Y:aT} {t:Nat}
theorem YI.ok (h:YI P n cap Y):YOk n cap Y:=by obtain ⟨E,h⟩:=h;exact h.yok
theorem YI.step (hn:0<n) (h:YI P n cap Y) (ht:t<n) (hp:(Y.th t).part≠0):YI P n cap (eH n cap Y t).1:=by
 obtain ⟨E,h⟩:=h
 exact ⟨_,(JY hn h ht hp).1⟩
theorem YI.begin (h:YI P n cap Y) (ht:t<n) (hp:(Y.th t).part=0) (o:Op):YI P n cap (aY Y t o):=by
 obtain ⟨E,h⟩:=h
 exact ⟨_,ER h ht hp o⟩
theorem YI.new (P:Plain σ) (n cap:Nat):YI P n cap Y0:=⟨_,wB P n cap ⟨P.first,[]⟩⟩
end
theorem TS (n cap:Nat) (x:bJ):(x.fail n cap).ops=x.ops:=by
 unfold bJ.fail
 split<;>rw [(yG _ _ _).1]
theorem XS (n cap:Nat) (Y:aT) (t:Nat) (x:bJ):(over n cap Y t x).1.bs.length≤Y.bs.length+1∧Y.bs.length≤(over n cap Y t x).1.bs.length:=by
 unfold over
 split<;>(try split)<;>simp [aT.set]
theorem TT (n cap:Nat) (Y:aT) (t:Nat) (x:bJ) (k:Nat):((over n cap Y t x).1.th k).ops=if k=t then x.ops else (Y.th k).ops:=by
 by_cases e:k=t
 ·subst e
  rw [if_pos rfl]
  unfold over
  split<;>(try split)<;>simp only [aT.set,aC,(yG _ _ _).1,TS]
 ·rw [if_neg e]
  unfold over
  split<;>(try split)<;>simp only [aT.set,aE _ _ e]
theorem TU (n cap:Nat) (Y:aT) (t:Nat):(eH n cap Y t).1.bs.length≤Y.bs.length+1∧Y.bs.length≤(eH n cap Y t).1.bs.length:=by
 unfold eH
 dsimp only
 split
 ·exact ⟨Nat.le_succ _,Nat.le_refl _⟩
 ·exact XS _ _ _ _ _
theorem xN (n cap:Nat) (Y:aT) (t k:Nat):((eH n cap Y t).1.th k).ops=(Y.th k).ops:=by
 unfold eH
 dsimp only
 split
 ·simp only [aT.set]
  by_cases e:k=t
  ·subst e;rw [aC]
  ·rw [aE _ _ e]
 ·rw [TT]
  by_cases e:k=t
  ·subst e;rw [if_pos rfl]
  ·rw [if_neg e]
def fH (n cap t:Nat):Nat→aT→aT
 |0,Y=>Y
 |f+1,Y=>if (Y.th t).part=0 then Y else fH n cap t f (eH n cap Y t).1
section
variable {σ:Type} {P:Plain σ} {n cap:Nat} {t:Nat}
theorem BO {Y:aT} (h:TOk n cap (Y.th t)) (hp:(Y.th t).part≠0):0<(Y.th t).mL n cap:=by
 have:=(h.p2 hp).1
 unfold bJ.mL
 rw [if_neg hp]
 omega
theorem yO (hn:0<n) (ht:t<n):∀ (f f':Nat) (Y:aT),YI P n cap Y→(Y.th t).mL n cap≤f→(Y.th t).mL n cap≤f'→fH n cap t f Y=fH n cap t f' Y
 |0,f',Y,h,h1,_=>by
  have hp:(Y.th t).part=0:=by
   by_cases hp:(Y.th t).part=0
   ·exact hp
   ·have:=BO (h.ok.th t ht) hp;omega
  cases f' with
  |zero=>rfl
  |succ f'=>simp only [fH,if_pos hp]
 |f+1,0,Y,h,_,h2=>by
  have hp:(Y.th t).part=0:=by
   by_cases hp:(Y.th t).part=0
   ·exact hp
   ·have:=BO (h.ok.th t ht) hp;omega
  simp only [fH,if_pos hp]
 |f+1,f'+1,Y,h,h1,h2=>by
  simp only [fH]
  by_cases hp:(Y.th t).part=0
  ·rw [if_pos hp,if_pos hp]
  ·rw [if_neg hp,if_neg hp]
   have:=tS hn (h.ok.th t ht) hp
   exact yO hn ht f f' _ (h.step hn ht hp) (by omega) (by omega)
def fin (n cap t:Nat) (Y:aT):aT:=fH n cap t 100000 Y
theorem TV (hn:0<n) (ht:t<n) {Y:aT} (h:YI P n cap Y) (hr:(Y.th t).mL n cap≤90000) (hp:(Y.th t).part≠0):fin n cap t (eH n cap Y t).1=fin n cap t Y:=by
 have:=tS hn (h.ok.th t ht) hp
 obtain ⟨f,hf,hf2⟩:∃ f,100000=f+1∧90000≤f:=⟨99999,rfl,by decide⟩
 unfold fin
 rw [hf]
 have e:fH n cap t (f+1) Y=fH n cap t f (eH n cap Y t).1:=by simp only [fH,if_neg hp]
 rw [e]
 exact yO (P:=P) hn ht (f+1) f _ (h.step hn ht hp) (by omega) (by omega)
theorem TW {Y:aT} (hp:(Y.th t).part=0):fin n cap t Y=Y:=by
 obtain ⟨f,hf⟩:∃ f,100000=f+1:=⟨99999,rfl⟩
 unfold fin
 rw [hf]
 simp only [fH,if_pos hp]
theorem BP (n cap:Nat) (Y:aT) (t:Nat) (o:Op):((aY Y t o).th t).mL n cap=bound n cap:=by
 unfold aY aT.set
 simp [aC,bJ.mL,after,bound]
 omega
theorem JZ {n cap:Nat} (hn:n≤64) (hc:cap≤64):bound n cap≤2000:=by
 unfold bound vI aR tw
 omega
theorem DY (n B:Nat):∀ l:List Nat,(∀ k∈l,k<n)→(∀ k,k<n→l.count k≤B)→l.length≤n*B:=by
 induction n with
 |zero =>
  intro l h _
  cases l with
  |nil=>simp
  |cons a l=>exact absurd (h a List.mem_cons_self) (Nat.not_lt_zero _)
 |succ n ih =>
  intro l h1 h2
  have e:l.length=(l.filter fun k=>decide (k≠n)).length+l.count n:=by
   have:∀ l:List Nat,l.length=(l.filter fun k=>decide (k≠n)).length+l.count n:=by
    intro l
    induction l with
    |nil=>rfl
    |cons a l ih =>
     by_cases q:a=n
     ·subst q
      simp only [ne_eq,not_true_eq_false,decide_false,List.filter_cons,Bool.false_eq_true,if_false,List.length_cons,List.count_cons_self]
      simp only [ne_eq] at ih
      omega
     ·simp only [ne_eq,List.filter_cons,q,not_false_eq_true,decide_true,if_true,List.length_cons,List.count_cons,beq_iff_eq,if_false]
      simp only [ne_eq] at ih
      omega
   exact this l
  have h3:=ih (l.filter fun k=>decide (k≠n)) (fun k hk=>by
   obtain ⟨q1,q2⟩:=List.mem_filter.1 hk
   have:=h1 k q1
   have:k≠n:=by simpa using q2
   omega) (fun k hk=>Nat.le_trans (List.Sublist.count_le _ List.filter_sublist) (h2 k (by omega)))
  have h4:=h2 n (Nat.lt_succ_self _)
  rw [e,Nat.succ_mul]
  omega
theorem YI.all {Y:aT} (h:YI P n cap Y) (hn:n≤64) {B:Nat} (hB:∀ t,t<n→(Y.th t).ops.length≤B):Y.bs.flatten.length≤64*B:=by
 have:=DY n B Y.bs.flatten (fun k hk=>by obtain ⟨b,h1,h2⟩:=List.mem_flatten.1 hk;exact h.ok.mem b h1 k h2) (fun k hk=>Nat.le_trans (h.ok.ops k hk) (hB k hk))
 exact Nat.le_trans this (Nat.mul_le_mul_right _ hn)
end
end Go.Proofs.YtefjhnhdagolhabGreat.M
namespace Go.Proofs.YtefjhnhdagolhabGreat
open Go.RowKit
attribute [local go_sem ↓] Go.wp_at_zero Go.wp_at_succ
theorem rE (b o:Nat) (x:Int) (w:World) (hc:w.cell? ⟨b,o,none⟩=some (.int .i64 x)) :
  Calls Tryz.prog 137 #[.pointer (some ⟨b,o,none⟩)] w fun e w'=>e = .returned (.int .i64 x)∧w'=w:=by
 have HC:=aA hc
 clear hc
 go_enter Tryz.func137,Tryz.ntmps137
 go_wp2_with fail
 refine (EN b o x _ HC.out).mono ?_
 rintro e w1 ⟨rfl,rfl⟩
 go_wp2_with fail
 go_ret
 exact ⟨rfl,rfl⟩
theorem MT (b o:Nat) (u:Value) (y:Int) (w:World) (hc:w.cell? ⟨b,o,none⟩=some u) (hz:w.frozen? ⟨b,o,none⟩=false) :
  Calls Tryz.prog 152 #[.pointer (some ⟨b,o,none⟩),.int .i64 y] w fun e w'=>e = .returned (.tuple #[])∧w'=w.setCell ⟨b,o,none⟩ (.int .i64 y):=by
 have hst:=run_call_store (P:=Tryz.prog) Tryz.func159 (by kernel_rfl) (by kernel_rfl) (by kernel_rfl) (by kernel_rfl) (k:=.i64) (y:=y) hc hz
 clear hc hz
 go_enter Tryz.func152,Tryz.ntmps152
 go_wp2
 exact bodyPost_end (v:=.tuple #[]) (by simp [results,Tryz.results152,go_sem]) rfl ⟨rfl,rfl⟩
theorem ET (b o:Nat) (u:Value) (y:Int) (w:World) (hc:w.cell? ⟨b,o,none⟩=some u) (hz:w.frozen? ⟨b,o,none⟩=false) :
  Calls Tryz.prog 130 #[.pointer (some ⟨b,o,none⟩),.int .i64 y] w fun e w'=>e = .returned (.tuple #[])∧w'=w.setCell ⟨b,o,none⟩ (.int .i64 y):=by
 have HC:=aA (And.intro hc hz)
 clear hc hz
 go_enter Tryz.func130,Tryz.ntmps130
 go_wp2_with fail
 refine (MT b o u y _ HC.out.1 HC.out.2).mono ?_
 rintro e w1 ⟨rfl,rfl⟩
 go_wp2_with fail
 exact bodyPost_end (v:=.tuple #[]) (by simp [results,Tryz.results130,go_sem]) rfl ⟨rfl,rfl⟩
theorem KA (b o:Nat) (x y:Int) (w:World) (hc:w.cell? ⟨b,o,none⟩=some (.int .i64 x)) (hz:w.frozen? ⟨b,o,none⟩=false) (h0 : -9223372036854775808≤x+y) (h1:x+y≤9223372036854775807) :
  Calls Tryz.prog 132 #[.pointer (some ⟨b,o,none⟩),.int .i64 y] w fun e w'=>e = .returned (.int .i64 (x+y))∧w'=w.setCell ⟨b,o,none⟩ (.int .i64 (x+y)):=by
 have hst:=run_call_add (P:=Tryz.prog) Tryz.func153 (by kernel_rfl) (by kernel_rfl) (by kernel_rfl) .i64 (by kernel_rfl) (y:=y) (s:=x+y) hc hz (by simp [Op.intArith,dR (x+y) h0 h1])
 clear hc hz h0 h1
 go_enter Tryz.func132,Tryz.ntmps132
 go_wp2
 go_ret
 exact ⟨rfl,rfl⟩
theorem XT (t:Nat):Go.RowKit.wrap64 ((2:Int) ^ (t % 16))=((2 ^ (t % 16):Nat):Int):=by
 have h:2 ^ (t % 16)≤2 ^ 15:=Nat.pow_le_pow_right (by decide) (by omega)
 have e:(2:Int) ^ (t % 16)=((2 ^ (t % 16):Nat):Int):=by push_cast;rfl
 rw [e]
 generalize 2 ^ (t % 16)=m at h ⊢
 unfold Go.RowKit.wrap64
 omega
theorem FP (t:Nat) (w:World) (ht:t<64) :
  Calls Tryz.prog 131 #[.int .i64 (t:Int)] w fun e w'=>e = .returned (.tuple #[.int .i64 ((t / 16:Nat):Int),.int .i64 ((2 ^ (t % 16):Nat):Int)])∧∃ k,w'=w.drewN k:=by
 go_enter Tryz.func131,Tryz.ntmps131
 go_wp2
 go_quiet (fail)
 go_wp2
 rw [XT]
 go_ret2
 exact ⟨rfl,nq,rfl⟩
theorem tB (t q m:Nat) (w:World) (ht:t<64) (hq:q=t / 16) (hm:m=2 ^ (t % 16)) :
  Calls Tryz.prog 131 #[.int .i64 (t:Int)] w fun e w'=>e = .returned (.tuple #[.int .i64 (q:Int),.int .i64 (m:Int)])∧∃ k,w'=w.drewN k:=by
 subst hq
 subst hm
 exact FP t w ht
theorem OX (ps r:Nat) (x:Int) (w:World) (hx:x=(ps:Int)*129+(r:Int)) (hr:r<129) (q:Nat) (hq:q<129) (hp:ps≤1000000000000) :
  Calls Tryz.prog 146 #[.int .i64 x,.int .i64 (q:Int)] w fun e w'=>e = .returned (.int .i64 (((ps:Int)+1)*129+(q:Int)))∧w'=w:=by
 have h0:0≤x:=by omega
 have h1:x≤9223372036854775807:=by omega
 have hd:=aA (show x / 129=(ps:Int) by omega)
 clear hx
 go_enter Tryz.func146,Tryz.ntmps146
 go_wp2_with fail
 refine (rC x _ h0 h1).mono ?_
 rintro e w1 ⟨rfl,rfl⟩
 rw [hd.out]
 go_wp2_with fail
 go_ret
 exact ⟨rL (by omega),rfl⟩
theorem FQ (b o:Nat) (x y:Int) (w:World) (hc:w.cell? ⟨b,o,none⟩=some (.int .i64 x)) (hz:w.frozen? ⟨b,o,none⟩=false) :
  Calls Tryz.prog 156 #[.pointer (some ⟨b,o,none⟩),.int .i64 x,.int .i64 y] w fun e w'=>e = .returned (.bool true)∧w'=w.setCell ⟨b,o,none⟩ (.int .i64 y):=by
 have hst:=run_call_cas_hit (P:=Tryz.prog) Tryz.func160 (by kernel_rfl) (by kernel_rfl) (by kernel_rfl) .i64 (by kernel_rfl) (y:=y) hc hz
 clear hc hz
 go_enter Tryz.func156,Tryz.ntmps156
 go_wp2
 go_ret
 exact ⟨rfl,rfl⟩
theorem DZ (b o:Nat) (x old y:Int) (w:World) (hc:w.cell? ⟨b,o,none⟩=some (.int .i64 x)) (hz:w.frozen? ⟨b,o,none⟩=false) (hne:¬x=old) :
  Calls Tryz.prog 156 #[.pointer (some ⟨b,o,none⟩),.int .i64 old,.int .i64 y] w fun e w'=>e = .returned (.bool false)∧w'=w:=by
 have hst:=run_call_cas_miss (P:=Tryz.prog) Tryz.func160 (by kernel_rfl) (by kernel_rfl) (by kernel_rfl) .i64 (by kernel_rfl) (y:=y) hc hz hne
 clear hc hz
 go_enter Tryz.func156,Tryz.ntmps156
 go_wp2
 go_ret
 exact ⟨rfl,rfl⟩
theorem BQ (b o:Nat) (x y:Int) (w:World) (hc:w.cell? ⟨b,o,none⟩=some (.int .i64 x)) (hz:w.frozen? ⟨b,o,none⟩=false) :
  Calls Tryz.prog 145 #[.pointer (some ⟨b,o,none⟩),.int .i64 x,.int .i64 y] w fun e w'=>e = .returned (.bool true)∧w'=w.setCell ⟨b,o,none⟩ (.int .i64 y):=by
 have HC:=aA (And.intro hc hz)
 clear hc hz
 go_enter Tryz.func145,Tryz.ntmps145
 go_wp2_with fail
 refine (FQ b o x y _ HC.out.1 HC.out.2).mono ?_
 rintro e w1 ⟨rfl,rfl⟩
 go_wp2_with fail
 go_ret
 exact ⟨rfl,rfl⟩
theorem zG (b o:Nat) (x old y:Int) (w:World) (hc:w.cell? ⟨b,o,none⟩=some (.int .i64 x)) (hz:w.frozen? ⟨b,o,none⟩=false) (hne:¬x=old) :
  Calls Tryz.prog 145 #[.pointer (some ⟨b,o,none⟩),.int .i64 old,.int .i64 y] w fun e w'=>e = .returned (.bool false)∧w'=w:=by
 have HC:=aA (And.intro hc (And.intro hz hne))
 clear hc hz hne
 go_enter Tryz.func145,Tryz.ntmps145
 go_wp2_with fail
 refine (DZ b o x old y _ HC.out.1 HC.out.2.1 HC.out.2.2).mono ?_
 rintro e w1 ⟨rfl,rfl⟩
 go_wp2_with fail
 go_ret
 exact ⟨rfl,rfl⟩
theorem rV (n t:Nat) (w:World) (h0:1≤n) (h1:n≤64) (ht:t<n) :
  Calls Tryz.prog 148 #[.agg #[.int .i64 (n:Int)],.int .i64 (t:Int)] w fun e w'=>e = .returned (.int .i64 ((M.aL n t:Nat):Int))∧Below w.heap.size w w':=by
 go_enter Tryz.func148,Tryz.ntmps148
 go_wp2_with fail
 refine (cX (n:Int) _ (by omega) (by omega)).mono ?_
 rintro e w1 ⟨rfl,lW⟩
 go_wp2_with fail
 go_ret
 exact ⟨rL (by unfold M.aL M.tw;omega),Below.next (aB _ _) lW (by simp)⟩
theorem pR (n t:Nat) (w:World) (h0:1≤n) (h1:n≤64) (ht:t<n) :
  Calls Tryz.prog 149 #[.agg #[.int .i64 (n:Int)],.int .i64 (t:Int)] w fun e w'=>e = .returned (.int .i64 ((M.aM n t:Nat):Int))∧Below w.heap.size w w':=by
 go_enter Tryz.func149,Tryz.ntmps149
 go_wp2
 go_region_with (first|(go_at_call 58;refine (cX (n:Int) _ (by omega) (by omega)).mono ?_;rintro e w' ⟨rfl,hb⟩;obtain ⟨hc,hf⟩:=EJ hb;have hz:=hb.size;simp at hz))
 all_goals go_wp2
 all_goals go_ret
 all_goals exact ⟨rL (by unfold M.aM M.tw;rw [dR (((n:Int)+15) / 16+(n:Int)) (by omega) (by omega),dR _ (by omega) (by omega)];omega),(by repeat (first|exact Below.refl _ _|refine Below.drewN ?_ _|refine Below.drew ?_|refine Below.alloc ?_ (by first|(simp;done)|(simp;omega)) _|refine Below.next ?_ (by assumption) (by first|(simp;done)|(simp;omega))))⟩
end Go.Proofs.YtefjhnhdagolhabGreat
