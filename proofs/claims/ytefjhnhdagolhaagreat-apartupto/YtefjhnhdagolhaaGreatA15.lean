import Derived.Test.YtefjhnhdagolhaaGreatA14
import Derived.Test.YtefjhnhdagolhaaGreatA01
set_option maxRecDepth 20000
namespace Go.Proofs.YtefjhnhdagolhaaGreat.M
section
variable {σ:Type} {P:Plain σ} {n cap:Nat} {E:bD σ} {Y:aR} {t:Nat} {nf:Nat→Nat}
theorem IW {α:Type} (f:Nat→α) (t:Nat):aM f t (f t)=f:=by funext k;unfold aM;split<;>simp_all
theorem CO {α β:Type} (f:α→β) (g:Nat→α) (t:Nat) (x:α):(fun k=>f (aM g t x k))=aM (fun k=>f (g k)) t (f x):=by funext k;unfold aM;split<;>rfl
theorem iA {E':bD σ} {Y':aR} {V':View σ} {e':bU σ} {x':bJ} (pb' nf':Nat→Nat) (hv:view E' Y' pb' nf'=V') (hN:E'.gB=Y'.bs.length) (hG:jN P n V') (hE:E'.th=aM E.th t e') (hY:Y'.th=aM Y.th t x')
  (ho:∀ k,k<n→k≠t→fX P n cap V' k (E.th k) (Y.th k)) (h:fX P n cap V' t e' x'):AM P n cap E' Y' nf':=by
 refine ⟨pb',hN,by rw [hv];exact hG,fun k hk=>?_⟩;rw [hv,hE,hY]
 by_cases q:k=t
 ·subst q;rw [aC,aC];exact h
 ·rw [aD _ _ q,aD _ _ q];exact ho k hk q
theorem vE {x:bJ} (hx:x=Y.th t) (h6:x.part≠6) (hl:1<x.left):dZ n cap Y t=(Y.set t {x with left:=x.left-1},false):=by
 subst hx;unfold dZ;simp only [h6,if_false];rw [aJ (by omega)]
theorem iD {x:bJ} (hx:x=Y.th t) (h6:x.part≠6) (hl:x.left=1):dZ n cap Y t=over n cap Y t {x with left:=0}:=by
 subst hx;unfold dZ;simp only [h6,if_false];rw [hl,aN (by omega)]
theorem fY (y:bJ) (p:Nat) (hp:p≠0):(bJ.enter n y p).part≠0:=by
 unfold bJ.enter
 split
 ·show p+1≠0;omega
 ·exact hp
theorem RP (y:bJ):(bJ.fail n cap y).part≠0:=by
 unfold bJ.fail
 split
 ·exact fY _ _ (by decide)
 ·exact fY _ _ (by decide)
theorem jt (h:AM P n cap E Y nf) (ht:t<n) (hp:(Y.th t).part=0) (o:Op):AM P n cap (begin E t o) (eE Y t o) nf:=by
 obtain ⟨pb,h1,h2,h3⟩:=h;refine iA (V':=(view E Y pb nf).more t o) pb nf ?_ h1 (h2.more o) rfl rfl (fun k hk UD=>(h3 k hk).more h2 UD) (aBC (h3 t ht) hp o);unfold view View.more;congr 1
 ·show (fun k=>(aM Y.th t _ k).aO)=_
  rw [CO (fun x:bJ=>x.aO)];exact IW _ t
 ·show (fun k=>(aM Y.th t _ k).ops)=_
  rw [CO (fun x:bJ=>x.ops)]
theorem SL (h:Inv P n cap E Y) (ht:t<n) (hp:(Y.th t).part=0) (o:Op):Inv P n cap (begin E t o) (eE Y t o):=by
 obtain ⟨pb,nf,h⟩:=h;obtain ⟨pb',h'⟩:=jt ⟨pb,h⟩ ht hp o;exact ⟨pb',nf,h'⟩
def xg (Y:aR) (t:Nat) (nf:Nat→Nat):Nat→Nat:=if (Y.th t).part=2 then aM nf t Y.bs.length else nf
def Stepped (P:Plain σ) (n cap:Nat) (E:bD σ) (Y:aR) (t:Nat) (nf:Nat→Nat):Prop:=AM P n cap (step P n cap E t) (dZ n cap Y t).1 (xg Y t nf)∧(dZ n cap Y t).2=decide (((dZ n cap Y t).1.th t).part=0)
theorem fV (pb nf:Nat→Nat) {E':bD σ} {Y':aR} {x':bJ} (hY:Y'.th=aM Y.th t x') (hf:x'.aO=(Y.th t).aO) (ho:x'.ops=(Y.th t).ops) :
  view E' Y' pb nf = {bs:=Y'.bs,aO:=fun k=>(Y.th k).aO,ops:=fun k=>(Y.th k).ops,dS:=E'.dS,gY:=E'.gY,rw:=E'.rw,lI:=E'.lI,prec:=E'.prec,pb:=pb,nf:=nf}:=by
 unfold view;congr 1
 ·rw [hY,CO (fun x:bJ=>x.aO),hf]
  exact IW _ t
 ·rw [hY,CO (fun x:bJ=>x.ops),ho]
  exact IW _ t
theorem gC {x':bJ} (h:x'.part≠0):false=decide (((Y.set t x').th t).part=0):=by
 have:((Y.set t x').th t).part=x'.part:=by show (aM Y.th t x' t).part=_;rw [aC]
 rw [this];simp [h]
theorem cL (y:bJ) (p:Nat):(bJ.enter n y p).aO=y.aO∧(bJ.enter n y p).ops=y.ops:=by
 unfold bJ.enter
 split<;>exact ⟨rfl,rfl⟩
theorem zJ (y:bJ):(bJ.fail n cap y).aO=y.aO∧(bJ.fail n cap y).ops=y.ops:=by
 unfold bJ.fail
 split
 ·exact cL _ _
 ·exact cL _ _
theorem aIj (h:AM P n cap E Y nf) (ht:t<n) (hp:(Y.th t).part=1):Stepped P n cap E Y t nf:=by
 obtain ⟨pb,h1,h2,h3⟩:=h;have hT:=h3 t ht;have eA:(E.th t).phase=1:=(hT.p2 (by omega)).trans hp;obtain ⟨k0,k1,k2⟩:=aMt hT hp;obtain ⟨l1,l2⟩:=hT.p3 (by omega) (by omega);have hs:step P n cap E t = {E with gY:=aM E.gY t (aM (E.gY t) (E.th t).past ((E.th t).op.w (E.th t).past)),th:=aM E.th t ((E.th t).pass 3 2)}:=by unfold step;simp only [eA]
 unfold Stepped xg;rw [aN (show ¬(Y.th t).part=2 by omega)];rw [hs]
 by_cases hl:1<(Y.th t).left
 ·rw [vE rfl (by omega) hl]
  exact ⟨iA pb nf (fV pb nf rfl rfl rfl) h1 (h2.gY k0 _) rfl rfl (fun k hk UD=>(h3 k hk).gY (nI UD) k0 _) (k1 hl),gC (by show (Y.th t).part≠0;omega)⟩
 ·have PU:(Y.th t).left=1:=by omega
  have ho:over n cap Y t {Y.th t with left:=0} = (Y.set t (bJ.enter n {Y.th t with left:=0} 2),false):=by unfold over;simp only [hp]
  rw [iD rfl (by omega) PU,ho];exact ⟨iA pb nf (fV pb nf rfl (cL _ _).1 (cL _ _).2) h1 (h2.gY k0 _) rfl rfl (fun k hk UD=>(h3 k hk).gY (nI UD) k0 _) (k2 PU),gC (fY _ _ (by decide))⟩
theorem aIk (h:AM P n cap E Y nf) (ht:t<n) (hp:(Y.th t).part=2):Stepped P n cap E Y t nf:=by
 obtain ⟨pb,h1,h2,h3⟩:=h;have hT:=h3 t ht;have eA:(E.th t).phase=2:=(hT.p2 (by omega)).trans hp;obtain ⟨k1,k2,k3,k4,k5,k6⟩:=aMu hT hp (aM E.dS (t / 16) (E.dS (t / 16)+(if (Y.th t).aO % 2=1 then -(2 ^ (t % 16)) else 2 ^ (t % 16))));have htg:(if (E.th t).fZ=true then -(2 ^ (t % 16)) else 2 ^ (t % 16):Int)=if (Y.th t).aO % 2=1 then -(2 ^ (t % 16)) else 2 ^ (t % 16):=by
  rw [k5];show (if decide ((Y.th t).aO % 2=1)=true then _ else _)=_
  by_cases c:(Y.th t).aO % 2=1<;>simp [c]
 have hs:step P n cap E t = {E with dS:=aM E.dS (t / 16) (E.dS (t / 16)+(if (Y.th t).aO % 2=1 then -(2 ^ (t % 16)) else 2 ^ (t % 16))),th:=aM E.th t (bU.dM {E.th t with fZ:=!(E.th t).fZ})}:=by unfold step;simp only [eA,htg]
 have ho:over n cap Y t {Y.th t with left:=0} = (Y.set t (bJ.enter n {Y.th t with left:=0,aO:=(Y.th t).aO+1,tries:=1} 3),false):=by unfold over;simp only [hp]
 unfold Stepped xg;rw [aJ hp];rw [hs,iD rfl (by omega) k1,ho];refine ⟨iA pb (aM nf t Y.bs.length) (V':=(view E Y pb nf).flip t (aM E.dS (t / 16) (E.dS (t / 16)+(if (Y.th t).aO % 2=1 then -(2 ^ (t % 16)) else 2 ^ (t % 16))))) ?_ h1 (h2.flip ht k2 k3 k4) rfl rfl (fun k hk UD=>(h3 k hk).flip UD k2 _) k6,gC (fY _ _ (by decide))⟩;unfold view View.flip;congr 1
 ·show (fun k=>(aM Y.th t _ k).aO)=_
  rw [CO (fun x:bJ=>x.aO),(cL _ _).1]
 ·show (fun k=>(aM Y.th t _ k).ops)=_
  rw [CO (fun x:bJ=>x.ops),(cL _ _).2];exact IW _ t
theorem aIl (h:AM P n cap E Y nf) (ht:t<n) (hp:(Y.th t).part=3):Stepped P n cap E Y t nf:=by
 obtain ⟨pb,h1,h2,h3⟩:=h;have hT:=h3 t ht;have eA:(E.th t).phase=3:=(hT.p2 (by omega)).trans hp;obtain ⟨k1,k2⟩:=aMv hT hp;obtain ⟨l1,l2⟩:=hT.p3 (by omega) (by omega);have hs:step P n cap E t = {E with th:=aM E.th t ((E.th t).pass (E.th t).aG 4)}:=by unfold step;simp only [eA]
 unfold Stepped xg;rw [aN (show ¬(Y.th t).part=2 by omega)];rw [hs]
 by_cases hl:1<(Y.th t).left
 ·rw [vE rfl (by omega) hl]
  exact ⟨iA pb nf (fV pb nf rfl rfl rfl) h1 h2 rfl rfl (fun k hk _=>h3 k hk) (k1 hl),gC (by show (Y.th t).part≠0;omega)⟩
 ·have PU:(Y.th t).left=1:=by omega
  have ho:over n cap Y t {Y.th t with left:=0} = (Y.set t (bJ.enter n {Y.th t with left:=0} 4),false):=by unfold over;simp only [hp]
  rw [iD rfl (by omega) PU,ho];exact ⟨iA pb nf (fV pb nf rfl (cL _ _).1 (cL _ _).2) h1 h2 rfl rfl (fun k hk _=>h3 k hk) (k2 PU),gC (fY _ _ (by decide))⟩
theorem aIm (h:AM P n cap E Y nf) (ht:t<n) (hp:(Y.th t).part=4):Stepped P n cap E Y t nf:=by
 obtain ⟨pb,h1,h2,h3⟩:=h;have hT:=h3 t ht;have eA:(E.th t).phase=4:=(hT.p2 (by omega)).trans hp;obtain ⟨k1,k2⟩:=aMw hT h2 hp;have hs:step P n cap E t = {E with th:=aM E.th t (bU.enter {E.th t with stamp:=Y.bs.length,cG:=E.prec} 5)}:=by unfold step;simp only [eA,h1]
 have ho:over n cap Y t {Y.th t with left:=0} = (Y.set t (bJ.enter n {Y.th t with left:=0,stamp:=Y.bs.length} 5),false):=by unfold over;simp only [hp]
 unfold Stepped xg;rw [aN (show ¬(Y.th t).part=2 by omega)];rw [hs,iD rfl (by omega) k1,ho];exact ⟨iA pb nf (fV pb nf rfl (cL _ _).1 (cL _ _).2) h1 h2 rfl rfl (fun k hk _=>h3 k hk) k2,gC (fY _ _ (by decide))⟩
theorem aIn (hn:0<n) (h:AM P n cap E Y nf) (ht:t<n) (hp:(Y.th t).part=5):Stepped P n cap E Y t nf:=by
 obtain ⟨pb,h1,h2,h3⟩:=h;have hT:=h3 t ht;have eA:(E.th t).phase=5:=(hT.p2 (by omega)).trans hp
 by_cases hw:(E.th t).past<bC n
 ·obtain ⟨k1,k2⟩:=aIb hT h2 hp hw
  have hs:step P n cap E t = {E with th:=aM E.th t (bU.pass {E.th t with dw:=aM (E.th t).dw (E.th t).past (E.rw (E.th t).cG (E.th t).past)} (bC n+1) 6)}:=by unfold step;simp only [eA,hw,if_true]
  unfold Stepped xg;rw [aN (show ¬(Y.th t).part=2 by omega)];rw [hs,vE rfl (by omega) k1];exact ⟨iA pb nf (fV pb nf rfl rfl rfl) h1 h2 rfl rfl (fun k hk _=>h3 k hk) k2,gC (by show (Y.th t).part≠0;omega)⟩
 ·obtain ⟨k1,k2⟩:=aIa hn hT h2 hp hw
  have hs:step P n cap E t = {E with th:=aM E.th t (bU.pass {E.th t with now:=(E.lI (E.th t).cG).map Prod.fst,fD:=(E.lI (E.th t).cG).map Prod.fst} (bC n+1) 6)}:=by unfold step;simp only [eA,hw,if_false]
  have ho:over n cap Y t {Y.th t with left:=0} = (Y.set t (bJ.enter n {Y.th t with left:=0} 6),false):=by unfold over;simp only [hp]
  unfold Stepped xg;rw [aN (show ¬(Y.th t).part=2 by omega)];rw [hs,iD rfl (by omega) k1,ho];exact ⟨iA pb nf (fV pb nf rfl (cL _ _).1 (cL _ _).2) h1 h2 rfl rfl (fun k hk _=>h3 k hk) k2,gC (fY _ _ (by decide))⟩
theorem aIo (h:AM P n cap E Y nf) (ht:t<n) (hp:(Y.th t).part=6):Stepped P n cap E Y t nf:=by
 obtain ⟨pb,h1,h2,h3⟩:=h;have hT:=h3 t ht;have eA:(E.th t).phase=6:=(hT.p2 (by omega)).trans hp;obtain ⟨k1,k2⟩:=aMx hT h2 hp (fun k=>if k / 16=tw n-((Y.th t).left-1)-1∧k<n then (Y.th k).aO else (Y.th t).flipped k) rfl;obtain ⟨l1,l2⟩:=hT.p3 (by omega) (by omega);have hs:step P n cap E t = {E with th:=aM E.th t (bU.pass {E.th t with tg:=aM (E.th t).tg (E.th t).past (E.dS (E.th t).past)} (tw n) 7)}:=by unfold step;simp only [eA]
 unfold Stepped xg;rw [aN (show ¬(Y.th t).part=2 by omega)];rw [hs]
 by_cases hl:1<(Y.th t).left
 ·have hr:dZ n cap Y t=(Y.set t {Y.th t with left:=(Y.th t).left-1,flipped:=fun k=>if k / 16=tw n-((Y.th t).left-1)-1∧k<n then (Y.th k).aO else (Y.th t).flipped k},false):=by
   unfold dZ;simp only [hp,if_true];rw [aJ (by omega)]
  rw [hr];exact ⟨iA pb nf (fV pb nf rfl rfl rfl) h1 h2 rfl rfl (fun k hk _=>h3 k hk) (k1 hl),gC (by show (Y.th t).part≠0;omega)⟩
 ·have PU:(Y.th t).left=1:=by omega
  have hr:dZ n cap Y t=(Y.set t (bJ.enter n {Y.th t with left:=0,flipped:=fun k=>if k / 16=tw n-((Y.th t).left-1)-1∧k<n then (Y.th k).aO else (Y.th t).flipped k} 7),false):=by
   unfold dZ;simp only [hp,if_true];rw [aN (by omega)];unfold over;simp only [PU,Nat.sub_self]
  rw [hr];exact ⟨iA pb nf (fV pb nf rfl (cL _ _).1 (cL _ _).2) h1 h2 rfl rfl (fun k hk _=>h3 k hk) (k2 PU),gC (fY _ _ (by decide))⟩
end
section
variable {σ:Type} {P:Plain σ} {n cap:Nat} {E:bD σ} {Y:aR} {t:Nat} {nf:Nat→Nat}
theorem aIp (h:AM P n cap E Y nf) (ht:t<n) (hp:(Y.th t).part=7):Stepped P n cap E Y t nf:=by
 obtain ⟨pb,h1,h2,h3⟩:=h;have hT:=h3 t ht;have eA:(E.th t).phase=7:=(hT.p2 (by omega)).trans hp;obtain ⟨k1,k2,k3⟩:=aMy ht hT h2 hp;have hst:(Y.th t).stamp=(E.th t).stamp:=(hT.EM (by omega) (by omega)).st;unfold Stepped xg;rw [aN (show ¬(Y.th t).part=2 by omega)]
 by_cases hs0:(E.th t).stamp=Y.bs.length
 ·obtain ⟨q1,q2⟩:=k3 hs0 _ rfl
  have yu:Y.pending n {Y.th t with left:=0} = (List.range n).filter (fun k=>decide (((Y.th t).flipped k+cnt Y.bs k) % 2=1)):=rfl;have hs:step P n cap E t = {E with th:=aM E.th t (bU.enter {E.th t with aK:=(List.range n).filter (fun k=>decide (((Y.th t).flipped k+cnt Y.bs k) % 2=1))} (if t∈(List.range n).filter (fun k=>decide (((Y.th t).flipped k+cnt Y.bs k) % 2=1)) then 8 else 11))}:=by
   unfold step;simp only [eA];rw [aJ (by rw [h1,hs0]),q1];rfl
  have ho:over n cap Y t {Y.th t with left:=0} = (Y.set t (bJ.enter n {Y.th t with left:=0,aK:=(List.range n).filter (fun k=>decide (((Y.th t).flipped k+cnt Y.bs k) % 2=1))} (if t∈(List.range n).filter (fun k=>decide (((Y.th t).flipped k+cnt Y.bs k) % 2=1)) then 8 else 11)),false):=by
   unfold over;simp only [hp];rw [aJ (by rw [hst,hs0])];rfl
  rw [hs,iD rfl (by omega) k1,ho];exact ⟨iA pb nf (fV pb nf rfl (cL _ _).1 (cL _ _).2) h1 h2 rfl rfl (fun k hk _=>h3 k hk) q2,gC (fY _ _ (by split<;>decide))⟩
 ·have hs:step P n cap E t = {E with th:=aM E.th t ((E.th t).fail cap)}:=by
   unfold step;simp only [eA];rw [aN (by rw [h1];exact fun q=>hs0 q.symm)]
  have ho:over n cap Y t {Y.th t with left:=0} = (Y.set t (bJ.fail n cap {Y.th t with left:=0}),false):=by
   unfold over;simp only [hp];rw [aN (by rw [hst];exact fun q=>hs0 q.symm)]
  rw [hs,iD rfl (by omega) k1,ho];exact ⟨iA pb nf (fV pb nf rfl (zJ _).1 (zJ _).2) h1 h2 rfl rfl (fun k hk _=>h3 k hk) (k2 hs0),gC (RP _)⟩
theorem aIq (h:AM P n cap E Y nf) (ht:t<n) (hp:(Y.th t).part=8):Stepped P n cap E Y t nf:=by
 obtain ⟨pb,h1,h2,h3⟩:=h;have hT:=h3 t ht;have eA:(E.th t).phase=8:=(hT.p2 (by omega)).trans hp;obtain ⟨e3,he3⟩:∃ e3,e3=(if (E.th t).past+1=3*(E.th t).aK.length then bU.close n (if (E.th t).past % 3=2 then bU.apply P n {E.th t with heard:=aM (E.th t).heard ((E.th t).past % 3) (E.gY ((E.th t).aK.getD ((E.th t).past / 3) 0) ((E.th t).past % 3))} ((E.th t).aK.getD ((E.th t).past / 3) 0) else {E.th t with heard:=aM (E.th t).heard ((E.th t).past % 3) (E.gY ((E.th t).aK.getD ((E.th t).past / 3) 0) ((E.th t).past % 3))}) else (if (E.th t).past % 3=2 then bU.apply P n {E.th t with heard:=aM (E.th t).heard ((E.th t).past % 3) (E.gY ((E.th t).aK.getD ((E.th t).past / 3) 0) ((E.th t).past % 3))} ((E.th t).aK.getD ((E.th t).past / 3) 0) else {E.th t with heard:=aM (E.th t).heard ((E.th t).past % 3) (E.gY ((E.th t).aK.getD ((E.th t).past / 3) 0) ((E.th t).past % 3))})):=⟨_,rfl⟩;obtain ⟨-,k1,k2⟩:=aMz hT h2 hp e3 _ rfl he3;obtain ⟨l1,l2⟩:=hT.p3 (by omega) (by omega);have hs:step P n cap E t = {E with th:=aM E.th t (e3.pass (3*(E.th t).aK.length) 9)}:=by
  rw [he3];unfold step;simp only [eA]
 unfold Stepped xg;rw [aN (show ¬(Y.th t).part=2 by omega)];rw [hs]
 by_cases hl:1<(Y.th t).left
 ·rw [vE rfl (by omega) hl]
  exact ⟨iA pb nf (fV pb nf rfl rfl rfl) h1 h2 rfl rfl (fun k hk _=>h3 k hk) (k1 hl),gC (by show (Y.th t).part≠0;omega)⟩
 ·have PU:(Y.th t).left=1:=by omega
  have ho:over n cap Y t {Y.th t with left:=0} = (Y.set t (bJ.enter n {Y.th t with left:=0} 9),false):=by unfold over;simp only [hp]
  rw [iD rfl (by omega) PU,ho];exact ⟨iA pb nf (fV pb nf rfl (cL _ _).1 (cL _ _).2) h1 h2 rfl rfl (fun k hk _=>h3 k hk) (k2 PU),gC (fY _ _ (by decide))⟩
theorem PD {V:View σ} {u:Nat} {e f:bU σ} {x y:bJ} (h:fX P n cap V t e x) (h':fX P n cap V u f y) (hu:u≠t):f.spare≠e.spare:=by
 rcases h.sp with ⟨a,b⟩|⟨a,b⟩<;>rcases h'.sp with ⟨c,d⟩|⟨c,d⟩<;>omega
theorem aIr (h:AM P n cap E Y nf) (ht:t<n) (hp:(Y.th t).part=9):Stepped P n cap E Y t nf:=by
 obtain ⟨pb,h1,h2,h3⟩:=h;have hT:=h3 t ht;have eA:(E.th t).phase=9:=(hT.p2 (by omega)).trans hp;unfold Stepped xg;rw [aN (show ¬(Y.th t).part=2 by omega)]
 by_cases hw:(E.th t).past<bC n
 ·obtain ⟨k1,k2⟩:=aId hT hp hw
  have hs:step P n cap E t = {E with rw:=aM E.rw (E.th t).spare (aM (E.rw (E.th t).spare) (E.th t).past ((E.th t).dw (E.th t).past)),th:=aM E.th t ((E.th t).pass (bC n+1) 10)}:=by unfold step;simp only [eA,hw,if_true]
  rw [hs,vE rfl (by omega) k1];exact ⟨iA pb nf (fV pb nf rfl rfl rfl) h1 (h2.word hT.IB (hT.EM (by omega) (by omega)).spb (hT.d6 (by omega) (by omega)).1) rfl rfl (fun k hk UD=>(h3 k hk).word hT.IB (PD hT (h3 k hk) UD) _) k2,gC (by show (Y.th t).part≠0;omega)⟩
 ·obtain ⟨k1,k2,k3⟩:=aIc hT hp hw
  have hs:step P n cap E t = {E with lI:=aM E.lI (E.th t).spare ((E.th t).now.bind fun v=>(E.th t).fD.map fun f=>(v,f)),th:=aM E.th t ((E.th t).pass (bC n+1) 10)}:=by unfold step;simp only [eA,hw,if_false]
  have ho:over n cap Y t {Y.th t with left:=0} = (Y.set t (bJ.enter n {Y.th t with left:=0} 10),false):=by unfold over;simp only [hp]
  rw [hs,iD rfl (by omega) k1,ho];exact ⟨iA pb nf (fV pb nf rfl (cL _ _).1 (cL _ _).2) h1 (h2.state hT.IB _) rfl rfl (fun k hk UD=>(h3 k hk).state (PD hT (h3 k hk) UD) _ k2) k3,gC (fY _ _ (by decide))⟩
theorem aFx (h:AM P n cap E Y nf) (ht:t<n) (hp:(Y.th t).part=10):Stepped P n cap E Y t nf:=by
 obtain ⟨pb,h1,h2,h3⟩:=h;have hT:=h3 t ht;have eA:(E.th t).phase=10:=(hT.p2 (by omega)).trans hp;obtain ⟨k1,k2,k3⟩:=aH8 ht hT h2 hp;have hst:(Y.th t).stamp=(E.th t).stamp:=(hT.EM (by omega) (by omega)).st;unfold Stepped xg;rw [aN (show ¬(Y.th t).part=2 by omega)]
 by_cases hs0:(E.th t).stamp=Y.bs.length
 ·obtain ⟨q1,q2,q3,q4,q5,q6⟩:=k3 hs0
  have hs:step P n cap E t = {E with gB:=(E.th t).stamp+1,prec:=(E.th t).spare,th:=aM E.th t (bU.enter {E.th t with spare:=(E.th t).kept,kept:=(E.th t).spare,aG:=(E.th t).aG / 2} 11)}:=by
   unfold step;simp only [eA];rw [aJ ⟨by rw [h1,hs0],q1.symm⟩]
  have ho:over n cap Y t {Y.th t with left:=0} = ({th:=aM Y.th t (bJ.enter n {Y.th t with left:=0,aK:=[],aG:=(Y.th t).aG / 2} 11),bs:=Y.bs++[(E.th t).aK]},false):=by
   unfold over;simp only [hp];rw [aJ (by rw [hst,hs0]),q2]
  rw [hs,iD rfl (by omega) k1,ho];refine ⟨iA (aM pb (E.th t).spare (Y.bs.length+1)) nf (V':=(view E Y pb nf).dI (E.th t).spare (E.th t).aK) (fV _ nf rfl (cL _ _).1 (cL _ _).2) (by simp [hs0]) q4 rfl rfl (fun k hk UD=>(h3 k hk).dI q5 h2 (PD hT (h3 k hk) UD)) q6,?_⟩;show false=decide ((aM Y.th t _ t).part=0);rw [aC];have:=fY (n:=n) {Y.th t with left:=0,aK:=[],aG:=(Y.th t).aG / 2} 11 (by decide);simp [this]
 ·have hs:step P n cap E t = {E with th:=aM E.th t ((E.th t).fail cap)}:=by
   unfold step;simp only [eA];rw [aN (by rintro ⟨q,-⟩;rw [h1] at q;exact hs0 q.symm)]
  have ho:over n cap Y t {Y.th t with left:=0} = (Y.set t (bJ.fail n cap {Y.th t with left:=0}),false):=by
   unfold over;simp only [hp];rw [aN (by rw [hst];exact fun q=>hs0 q.symm)]
  rw [hs,iD rfl (by omega) k1,ho];exact ⟨iA pb nf (fV pb nf rfl (zJ _).1 (zJ _).2) h1 h2 rfl rfl (fun k hk _=>h3 k hk) (k2 hs0),gC (RP _)⟩
theorem aFy (h:AM P n cap E Y nf) (ht:t<n) (hp:(Y.th t).part=11):Stepped P n cap E Y t nf:=by
 obtain ⟨pb,h1,h2,h3⟩:=h;have hT:=h3 t ht;obtain ⟨l1,l2,l3⟩:=hT.p4 hp;obtain ⟨k1,k2,k3⟩:=aH9 ht hT h2 hp;unfold Stepped xg;rw [aN (show ¬(Y.th t).part=2 by omega)]
 rcases (by omega:(Y.th t).left=3∨(Y.th t).left=2∨(Y.th t).left=1) with hl|hl|hl
 ·have eA:(E.th t).phase=11:=by rw [l3,hl]
  have hs:step P n cap E t = {E with th:=aM E.th t (bU.enter {E.th t with found:=E.prec} 12)}:=by unfold step;simp only [eA]
  rw [hs,vE rfl (by omega) (by omega)];exact ⟨iA pb nf (fV pb nf rfl rfl rfl) h1 h2 rfl rfl (fun k hk _=>h3 k hk) (k1 hl),gC (by show (Y.th t).part≠0;omega)⟩
 ·have eA:(E.th t).phase=12:=by rw [l3,hl]
  have hs:step P n cap E t = {E with th:=aM E.th t (bU.enter {E.th t with VI:=E.rw (E.th t).found (aL n t)} 13)}:=by unfold step;simp only [eA]
  rw [hs,vE rfl (by omega) (by omega)];exact ⟨iA pb nf (fV pb nf rfl rfl rfl) h1 h2 rfl rfl (fun k hk _=>h3 k hk) (k2 hl),gC (by show (Y.th t).part≠0;omega)⟩
 ·have eA:(E.th t).phase=13:=by rw [l3,hl]
  have hs:step P n cap E t = {E with th:=aM E.th t (bU.enter {E.th t with val:=E.rw (E.th t).found (aQ n t),ended:=true} 0)}:=by unfold step;simp only [eA]
  have ho:over n cap Y t {Y.th t with left:=0} = (Y.set t {Y.th t with left:=0,part:=0,ended:=(Y.th t).ended+1},true):=by unfold over;simp only [hp]
  rw [hs,iD rfl (by omega) hl,ho];refine ⟨iA pb nf (fV pb nf rfl rfl rfl) h1 h2 rfl rfl (fun k hk _=>h3 k hk) (k3 hl),?_⟩;show true=decide ((aM Y.th t _ t).part=0);rw [aC];rfl
theorem yb (hn:0<n) (h:AM P n cap E Y nf) (ht:t<n) (hb:(Y.th t).part≠0):Stepped P n cap E Y t nf:=by
 have ym:(Y.th t).part≤11:=by obtain ⟨pb,-,-,h3⟩:=h;exact (h3 t ht).p1
 rcases (by omega:(Y.th t).part=1∨(Y.th t).part=2∨(Y.th t).part=3∨(Y.th t).part=4∨(Y.th t).part=5∨(Y.th t).part=6∨(Y.th t).part=7∨(Y.th t).part=8∨(Y.th t).part=9∨(Y.th t).part=10∨(Y.th t).part=11) with q|q|q|q|q|q|q|q|q|q|q
 ·exact aIj h ht q
 ·exact aIk h ht q
 ·exact aIl h ht q
 ·exact aIm h ht q
 ·exact aIn hn h ht q
 ·exact aIo h ht q
 ·exact aIp h ht q
 ·exact aIq h ht q
 ·exact aIr h ht q
 ·exact aFx h ht q
 ·exact aFy h ht q
theorem IA (hn:0<n) (h:Inv P n cap E Y) (ht:t<n) (hb:(Y.th t).part≠0):Inv P n cap (step P n cap E t) (dZ n cap Y t).1∧(dZ n cap Y t).2=decide (((dZ n cap Y t).1.th t).part=0):=by
 obtain ⟨pb,nf,h⟩:=h;obtain ⟨⟨pb',h'⟩,q⟩:=yb hn ⟨pb,h⟩ ht hb;exact ⟨⟨pb',_,h'⟩,q⟩
end
section
variable {σ:Type} {P:Plain σ} {n cap:Nat} {E:bD σ} {Y:aR} {t:Nat}
structure SY (n:Nat) (E:bD σ):Prop where
 pr:E.prec<2*n+1
 th:∀ t,t<n→(E.th t).cG<2*n+1∧(E.th t).found<2*n+1∧(E.th t).stamp≤E.gB
theorem SY.aM {E':bD σ} {e':bU σ} (h:SY n E) (hp:E'.prec=E.prec) (hs:E.gB≤E'.gB) (ht:E'.th=M.aM E.th t e') (h1:e'.cG<2*n+1) (h2:e'.found<2*n+1) (h3:e'.stamp≤E'.gB):SY n E':=by
 refine ⟨by rw [hp];exact h.pr,fun u hu=>?_⟩;rw [ht]
 by_cases q:u=t
 ·subst q;rw [aC];exact ⟨h1,h2,h3⟩
 ·rw [aD _ _ q]
  obtain ⟨a,b,c⟩:=h.th u hu;exact ⟨a,b,bK c hs⟩
theorem eG (e:bU σ) (s p:Nat):(e.pass s p).cG=e.cG∧(e.pass s p).found=e.found∧(e.pass s p).stamp=e.stamp:=by unfold bU.pass;split<;>exact ⟨rfl,rfl,rfl⟩
theorem tU (e:bU σ):e.dM.cG=e.cG∧e.dM.found=e.found∧e.dM.stamp=e.stamp:=by unfold bU.dM;split<;>exact ⟨rfl,rfl,rfl⟩
theorem xR (e:bU σ) (cap:Nat):(e.fail cap).cG=e.cG∧(e.fail cap).found=e.found∧(e.fail cap).stamp=e.stamp:=by
 unfold bU.fail
 split
 ·exact ⟨rfl,rfl,rfl⟩
 ·exact tU _
theorem uI (P:Plain σ) (n:Nat) (e:bU σ) (k:Nat):(e.apply P n k).cG=e.cG∧(e.apply P n k).found=e.found∧(e.apply P n k).stamp=e.stamp:=by unfold bU.apply;split<;>exact ⟨rfl,rfl,rfl⟩
theorem SY.step (h:SY n E) (ht:t<n) (hsp:(E.th t).spare<2*n+1):SY n (M.step P n cap E t):=by
 obtain ⟨b1,b2,b3⟩:=h.th t ht;unfold M.step;dsimp only
 split
 ·exact h.aM rfl (bQ _) rfl (by rw [(eG _ _ _).1];exact b1) (by rw [(eG _ _ _).2.1];exact b2) (by rw [(eG _ _ _).2.2];exact b3)
 ·exact h.aM rfl (bQ _) rfl (by rw [(tU _).1];exact b1) (by rw [(tU _).2.1];exact b2) (by rw [(tU _).2.2];exact b3)
 ·exact h.aM rfl (bQ _) rfl (by rw [(eG _ _ _).1];exact b1) (by rw [(eG _ _ _).2.1];exact b2) (by rw [(eG _ _ _).2.2];exact b3)
 ·exact h.aM rfl (bQ _) rfl h.pr b2 (bQ _)
 ·refine h.aM rfl (bQ _) rfl (by rw [(eG _ _ _).1];split<;>exact b1) (by rw [(eG _ _ _).2.1];split<;>exact b2) (by rw [(eG _ _ _).2.2];split<;>exact b3)
 ·exact h.aM rfl (bQ _) rfl (by rw [(eG _ _ _).1];exact b1) (by rw [(eG _ _ _).2.1];exact b2) (by rw [(eG _ _ _).2.2];exact b3)
 ·refine h.aM rfl (bQ _) rfl ?_ ?_ ?_
  ·split
   ·exact b1
   ·rw [(xR _ _).1];exact b1
  ·split
   ·exact b2
   ·rw [(xR _ _).2.1];exact b2
  ·split
   ·exact b3
   ·rw [(xR _ _).2.2];exact b3
 ·refine h.aM rfl (bQ _) rfl ?_ ?_ ?_
  ·rw [(eG _ _ _).1]
   split<;>split<;>first|exact b1|(rw [(uI _ _ _ _).1];exact b1)|(show ((bU.apply P n _ _).cG<_);rw [(uI _ _ _ _).1];exact b1)
  ·rw [(eG _ _ _).2.1]
   split<;>split<;>first|exact b2|(rw [(uI _ _ _ _).2.1];exact b2)|(show ((bU.apply P n _ _).found<_);rw [(uI _ _ _ _).2.1];exact b2)
  ·rw [(eG _ _ _).2.2]
   split<;>split<;>first|exact b3|(rw [(uI _ _ _ _).2.2];exact b3)|(show ((bU.apply P n _ _).stamp≤_);rw [(uI _ _ _ _).2.2];exact b3)
 ·split
  ·exact h.aM rfl (bQ _) rfl (by rw [(eG _ _ _).1];exact b1) (by rw [(eG _ _ _).2.1];exact b2) (by rw [(eG _ _ _).2.2];exact b3)
  ·exact h.aM rfl (bQ _) rfl (by rw [(eG _ _ _).1];exact b1) (by rw [(eG _ _ _).2.1];exact b2) (by rw [(eG _ _ _).2.2];exact b3)
 ·split
  ·rename_i q
   refine ⟨hsp,fun u hu=>?_⟩;show ((M.aM E.th t _ u).cG<_)∧((M.aM E.th t _ u).found<_)∧((M.aM E.th t _ u).stamp≤(E.th t).stamp+1)
   by_cases c:u=t
   ·subst c;rw [aC];exact ⟨b1,b2,Nat.le_succ _⟩
   ·rw [aD _ _ c]
    obtain ⟨a1,a2,a3⟩:=h.th u hu;exact ⟨a1,a2,by omega⟩
  ·exact h.aM rfl (bQ _) rfl (by rw [(xR _ _).1];exact b1) (by rw [(xR _ _).2.1];exact b2) (by rw [(xR _ _).2.2];exact b3)
 ·exact h.aM rfl (bQ _) rfl b1 h.pr b3
 ·exact h.aM rfl (bQ _) rfl b1 b2 b3
 ·exact h.aM rfl (bQ _) rfl b1 b2 b3
 ·exact h
theorem SY.begin (h:SY n E) (ht:t<n) (o:Op):SY n (M.begin E t o):=by
 obtain ⟨b1,b2,b3⟩:=h.th t ht;exact h.aM rfl (bQ _) rfl b1 b2 b3
end
section
variable {σ:Type}
def E0 (P:Plain σ) (f:eX σ):bD σ :=
 {dS:=fun _=>0,gY:=fun _ _=>0,rw:=fun _ _=>0,lI:=fun r=>if r=0 then some (⟨P.first,[]⟩,f) else none,gB:=0,prec:=0
  th:=fun t=>{phase:=0,past:=0,op:=⟨0,0,0⟩,fZ:=false,aG:=0,again:=false,spare:=2*t+1,kept:=2*t+2,stamp:=0,cG:=0,dw:=fun _=>0,now:=none,fD:=none,tg:=fun _=>0,aK:=[],heard:=fun _=>0,found:=0,VI:=0,val:=0,ended:=false}}
def Y0:aR:={th:=fun _=>{ops:=[],ended:=0,aO:=0,part:=0,left:=0,aG:=0,tries:=0,stamp:=0,flipped:=fun _=>0,aK:=[]},bs:=[]}
theorem RI (n w:Nat):bits n (fun _=>0) w=0:=by
 have:∀ m,val (ah n (fun _=>0) w) m=0:=by
  intro m
  induction m with
  |zero=>rfl
  |succ m ih =>
   have hd:ah n (fun _=>0) w m=0:=by unfold ah;split<;>rfl
   simp [val,ih,hd]
 unfold bits;rw [this];rfl
theorem aBg (P:Plain σ) (n cap:Nat) (f:eX σ):AM P n cap (E0 P f) Y0 (fun _=>0):=by
 refine ⟨fun _=>0,rfl,?_,fun t ht=>?_⟩
 ·exact {fl:=fun t _=>⟨bQ _,aW _⟩,opl:=fun t _=>bQ _,MP:=fun t _ h=>absurd h (Nat.lt_irrefl _),mem:=fun b hb=>absurd hb List.not_mem_nil,dS:=fun w _=>(RI n w).symm,ug:=fun w _=>(RI n w).symm,fq:=fun t _=>⟨rfl,rfl⟩,LJ:=⟨f,rfl⟩,recs:=fun r t _ _=>⟨rfl,rfl⟩,pbN:=fun _=>bQ _,pbc:=rfl,nfN:=fun _=>bQ _,aAO:=fun t _ h=>absurd h (by show ¬(0+2≤0);decide)}
 ·have h0:(Y0.th t).part=0:=rfl
  exact {p1:=by rw [h0];decide,p2:=fun _=>rfl,p3:=fun h=>absurd h0 h,p4:=fun h=>by rw [h0] at h;exact absurd h (by decide),xo:=rfl,xf:=rfl,bk:=rfl,bc:=aW _,ag:=fun h=>absurd h0 h,IU:=rfl,JO:=fun h=>absurd h0 h,c0:=fun _=>⟨rfl,rfl,rfl⟩,c1:=fun h=>by rw [h0] at h;omega,c3:=fun h=>by rw [h0] at h;omega,FK:=fun h=>by rw [h0] at h;omega,rz:=fun h=>by rw [h0] at h;omega,JL:=fun h=>by rw [h0] at h;omega,sp:=.inl ⟨rfl,rfl⟩,IB:=Nat.succ_ne_zero _,en:=rfl,a0:=fun _ h=>absurd h (Nat.lt_irrefl _),a1:=fun h=>by rw [h0] at h;omega,fd:=fun h=>by rw [h0] at h;omega,t0:=fun h=>by rw [h0] at h;omega,tr:=fun h=>by rw [h0] at h;omega,tn:=fun h=>by rw [h0] at h;omega,s1:=fun h=>by rw [h0] at h;omega,d5:=fun h=>by rw [h0] at h;omega,d6:=fun h=>by rw [h0] at h;omega,d7:=fun h=>by rw [h0] at h;omega,t6:=fun h=>by rw [h0] at h;omega,t7:=fun h=>by rw [h0] at h;omega,h8:=fun h=>by rw [h0] at h;omega,WN:=fun h=>by rw [h0] at h;omega,h9:=fun h=>by rw [h0] at h;omega,w9:=fun h=>by rw [h0] at h;omega,ay:=fun h=>by rw [h0] at h;omega}
theorem GG (P:Plain σ) (n cap:Nat) (f:eX σ):Inv P n cap (E0 P f) Y0:=by
 obtain ⟨pb,h⟩:=aBg P n cap f;exact ⟨pb,_,h⟩
theorem MH (P:Plain σ) (n:Nat) (f:eX σ):SY n (E0 P f):=⟨Nat.succ_pos _,fun _ _=>⟨Nat.succ_pos _,Nat.succ_pos _,bQ _⟩⟩
end
def YI {σ:Type} (P:Plain σ) (n cap:Nat) (Y:aR):Prop:=∃ E,Inv P n cap E Y
section
variable {σ:Type} {P:Plain σ} {n cap:Nat} {Y:aR} {t:Nat}
theorem YI.ok (h:YI P n cap Y):YOk n cap Y:=by obtain ⟨E,h⟩:=h;exact h.yok
theorem YI.step (hn:0<n) (h:YI P n cap Y) (ht:t<n) (hp:(Y.th t).part≠0):YI P n cap (dZ n cap Y t).1:=by
 obtain ⟨E,h⟩:=h;exact ⟨_,(IA hn h ht hp).1⟩
theorem YI.begin (h:YI P n cap Y) (ht:t<n) (hp:(Y.th t).part=0) (o:Op):YI P n cap (eE Y t o):=by
 obtain ⟨E,h⟩:=h;exact ⟨_,SL h ht hp o⟩
theorem YI.new (P:Plain σ) (n cap:Nat):YI P n cap Y0:=⟨_,GG P n cap ⟨P.first,[]⟩⟩
theorem YI.word (hn:0<n) (h:YI P n cap Y) (ht:t<n) (hp:(Y.th t).part≠0):(dZ n cap Y t).2=decide (((dZ n cap Y t).1.th t).part=0):=by
 obtain ⟨E,h⟩:=h;exact (IA hn h ht hp).2
end
theorem aAw (n cap:Nat) (x:bJ):(x.fail n cap).ops=x.ops:=by
 unfold bJ.fail
 split<;>rw [(KH _ _ _).1]
theorem aDb (n cap:Nat) (Y:aR) (t:Nat) (x:bJ):(over n cap Y t x).1.bs.length≤Y.bs.length+1∧Y.bs.length≤(over n cap Y t x).1.bs.length:=by
 unfold over
 split<;>(try split)<;>simp [aR.set]
theorem aBB (n cap:Nat) (Y:aR) (t:Nat) (x:bJ) (k:Nat):((over n cap Y t x).1.th k).ops=if k=t then x.ops else (Y.th k).ops:=by
 by_cases e:k=t
 ·subst e
  rw [aJ rfl];unfold over
  split<;>(try split)<;>simp only [aR.set,aC,(KH _ _ _).1,aAw]
 ·rw [aN e]
  unfold over
  split<;>(try split)<;>simp only [aR.set,aD _ _ e]
theorem aBI (n cap:Nat) (Y:aR) (t:Nat):(dZ n cap Y t).1.bs.length≤Y.bs.length+1∧Y.bs.length≤(dZ n cap Y t).1.bs.length:=by
 unfold dZ;dsimp only
 split
 ·exact ⟨Nat.le_succ _,bQ _⟩
 ·exact aDb _ _ _ _ _
theorem SK (n cap:Nat) (Y:aR) (t k:Nat):((dZ n cap Y t).1.th k).ops=(Y.th k).ops:=by
 unfold dZ;dsimp only
 split
 ·simp only [aR.set]
  by_cases e:k=t
  ·subst e;rw [aC]
  ·rw [aD _ _ e]
 ·rw [aBB]
  by_cases e:k=t
  ·subst e;rw [aJ rfl]
  ·rw [aN e]
def mY (n cap t:Nat):Nat→aR→aR
 |0,Y=>Y
 |f+1,Y=>if (Y.th t).part=0 then Y else mY n cap t f (dZ n cap Y t).1
section
variable {σ:Type} {P:Plain σ} {n cap:Nat} {t:Nat}
theorem ZI {Y:aR} (h:TOk n cap (Y.th t)) (hp:(Y.th t).part≠0):0<(Y.th t).sU n cap:=by
 have:=(h.p2 hp).1;unfold bJ.sU;rw [aN hp];omega
theorem KG (hn:0<n) (ht:t<n):∀ (f f':Nat) (Y:aR),YI P n cap Y→(Y.th t).sU n cap≤f→(Y.th t).sU n cap≤f'→mY n cap t f Y=mY n cap t f' Y
 |0,f',Y,h,h1,_=>by
  have hp:(Y.th t).part=0:=by
   by_cases hp:(Y.th t).part=0
   ·exact hp
   ·have:=ZI (h.ok.th t ht) hp;omega
  cases f' with
  |zero=>rfl
  |succ f'=>simp only [mY,aJ hp]
 |f+1,0,Y,h,_,h2=>by
  have hp:(Y.th t).part=0:=by
   by_cases hp:(Y.th t).part=0
   ·exact hp
   ·have:=ZI (h.ok.th t ht) hp;omega
  simp only [mY,aJ hp]
 |f+1,f'+1,Y,h,h1,h2=>by
  simp only [mY]
  by_cases hp:(Y.th t).part=0
  ·rw [aJ hp,aJ hp]
  ·rw [aN hp,aN hp]
   have:=CS hn (h.ok.th t ht) hp;exact KG hn ht f f' _ (h.step hn ht hp) (by omega) (by omega)
def fin (n cap t:Nat) (Y:aR):aR:=mY n cap t 100000 Y
theorem aAy (hn:0<n) (ht:t<n) {Y:aR} (h:YI P n cap Y) (hr:(Y.th t).sU n cap≤90000) (hp:(Y.th t).part≠0):fin n cap t (dZ n cap Y t).1=fin n cap t Y:=by
 have:=CS hn (h.ok.th t ht) hp;obtain ⟨f,hf,hf2⟩:∃ f,100000=f+1∧90000≤f:=⟨99999,rfl,by decide⟩;unfold fin;rw [hf];have e:mY n cap t (f+1) Y=mY n cap t f (dZ n cap Y t).1:=by simp only [mY,aN hp]
 rw [e];exact KG (P:=P) hn ht (f+1) f _ (h.step hn ht hp) (by omega) (by omega)
theorem aAx {Y:aR} (hp:(Y.th t).part=0):fin n cap t Y=Y:=by
 obtain ⟨f,hf⟩:∃ f,100000=f+1:=⟨99999,rfl⟩;unfold fin;rw [hf];simp only [mY,aJ hp]
theorem OV (n cap:Nat) (Y:aR) (t:Nat) (o:Op):((eE Y t o).th t).sU n cap=bound n cap:=by
 unfold eE aR.set;simp [aC,bJ.sU,after,bound];omega
theorem XH {n cap:Nat} (hn:n≤64) (hc:cap≤64):bound n cap≤2000:=by
 unfold bound EM bC tw;omega
theorem QS (n B:Nat):∀ l:List Nat,(∀ k∈l,k<n)→(∀ k,k<n→l.count k≤B)→l.length≤n*B:=by
 induction n with
 |zero =>
  intro l h _
  cases l with
  |nil=>simp
  |cons a l=>exact absurd (h a List.mem_cons_self) (pY _)
 |succ n ih =>
  intro l h1 h2;have e:l.length=(l.filter fun k=>decide (k≠n)).length+l.count n:=by
   have:∀ l:List Nat,l.length=(l.filter fun k=>decide (k≠n)).length+l.count n:=by
    intro l
    induction l with
    |nil=>rfl
    |cons a l ih =>
     by_cases q:a=n
     ·subst q
      simp only [ne_eq,not_true_eq_false,decide_false,yF,Bool.false_eq_true,if_false,eM,List.count_cons_self];simp only [ne_eq] at ih;omega
     ·simp only [ne_eq,yF,q,not_false_eq_true,decide_true,if_true,eM,List.count_cons,beq_iff_eq,if_false]
      simp only [ne_eq] at ih;omega
   exact this l
  have h3:=ih (l.filter fun k=>decide (k≠n)) (fun k hk=>by
   obtain ⟨q1,q2⟩:=List.mem_filter.1 hk;have:=h1 k q1;have:k≠n:=by simpa using q2
   omega) (fun k hk=>bK (List.Sublist.count_le _ List.filter_sublist) (h2 k (by omega)))
  have h4:=h2 n (Nat.lt_succ_self _);rw [e,Nat.succ_mul];omega
theorem YI.all {Y:aR} (h:YI P n cap Y) (hn:n≤64) {B:Nat} (hB:∀ t,t<n→(Y.th t).ops.length≤B):Y.bs.flatten.length≤64*B:=by
 have:=QS n B Y.bs.flatten (fun k hk=>by obtain ⟨b,h1,h2⟩:=List.mem_flatten.1 hk;exact h.ok.mem b h1 k h2) (fun k hk=>bK (h.ok.ops k hk) (hB k hk));exact bK this (Nat.mul_le_mul_right _ hn)
end
end Go.Proofs.YtefjhnhdagolhaaGreat.M
