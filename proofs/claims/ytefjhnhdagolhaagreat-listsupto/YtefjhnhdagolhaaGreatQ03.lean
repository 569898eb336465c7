import Derived.Test.YtefjhnhdagolhaaGreatQ02
namespace Go.Proofs.YtefjhnhdagolhaaGreat.M
section
variable {σ:Type} {P:Plain σ} {n cap:Nat} {V:View σ} {t:Nat} {e:aS σ} {x:aT}
theorem aCd (h:eB P n cap V t e x) (hp:x.part=9) (hw:e.past<aO n) :
  1<x.left∧eB P n cap {V with rw:=aI V.rw e.spare (aI (V.rw e.spare) e.past (e.dw e.past))} t (e.pass (aO n+1) 10) {x with left:=x.left-1}:=by
 have b:=h.base (by omega)
 have a:=h.qT (by omega) (by omega)
 obtain ⟨l1,l2⟩:=h.p3 (by omega) (by omega)
 have l3:x.len n x.part=aO n+1:=by rw [hp];simp [aT.len]
 obtain ⟨c1,c2,c3⟩:=h.d6 (by omega) (by omega)
 refine ⟨by omega,?_⟩
 have e1:e.pass (aO n+1) 10 = {e with past:=e.past+1}:=by unfold aS.pass;rw [if_neg (by omega)]
 rw [e1]
 refine eB.mk8 ⟨b.xo,b.xf,b.bk,b.bc,b.ag,b.sD,b.tI,b.c3,b.tJ,b.sp,b.sF,b.en,b.tr,b.tn⟩ ⟨a.st,a.le,a.pb,a.cur,a.nf,a.nf2,a.spb,a.some⟩ ⟨c1,c2,c3⟩ (h.t7 (by omega) (by omega)) (h.h8 (by omega) (by omega)) ⟨by show 8≤x.part;omega,by show x.part≤10;omega⟩ (h.p2 (by omega)) ⟨?_,by show 0<x.left-1;omega⟩ (by intros;(try dsimp only at *);omega) (fun q=>h.h9 q) (fun _ i hi hi2=>?_) (by intros;(try dsimp only at *);omega)
 ·show e.past+1+(x.left-1)=x.len n x.part
  omega
 ·show aI V.rw e.spare (aI (V.rw e.spare) e.past (e.dw e.past)) e.spare i=e.dw i
  have hi':i<e.past+1:=hi
  rw [aC]
  by_cases c:i=e.past
  ·rw [c,aC]
  ·rw [aD _ _ c]
   exact h.w9 hp i (by omega) hi2
theorem aCe (h:eB P n cap V t e x) (hp:x.part=9) (hw:¬e.past<aO n) :
  x.left=1∧(e.now.bind fun v=>e.dM.map fun f=>(v,f)).isSome∧eB P n cap {V with gC:=aI V.gC e.spare (e.now.bind fun v=>e.dM.map fun f=>(v,f))} t (e.pass (aO n+1) 10) (aT.enter n {x with left:=0} 10):=by
 have b:=h.base (by omega)
 have a:=h.qT (by omega) (by omega)
 obtain ⟨l1,l2⟩:=h.p3 (by omega) (by omega)
 have l3:x.len n x.part=aO n+1:=by rw [hp];simp [aT.len]
 obtain ⟨c1,c2,c3⟩:=h.d6 (by omega) (by omega)
 have hs:(e.now.bind fun v=>e.dM.map fun f=>(v,f)).isSome:=by
  obtain ⟨v,hv⟩:=Option.isSome_iff_exists.1 c2
  obtain ⟨f,hf⟩:=Option.isSome_iff_exists.1 c3
  rw [hv,hf]
  rfl
 refine ⟨by omega,hs,?_⟩
 have e1:e.pass (aO n+1) 10=e.enter 10:=by unfold aS.pass;rw [if_pos (by omega)]
 have e2:aT.enter n {x with left:=0} 10 = {x with part:=10,left:=1}:=by simp [aT.enter,aT.len]
 rw [e1,e2]
 refine eB.mk8 ⟨b.xo,b.xf,b.bk,b.bc,b.ag,b.sD,b.tI,b.c3,b.tJ,b.sp,b.sF,b.en,b.tr,b.tn⟩ ⟨a.st,a.le,a.pb,a.cur,a.nf,a.nf2,a.spb,?_⟩ ⟨c1,c2,c3⟩ (h.t7 (by omega) (by omega)) (h.h8 (by omega) (by omega)) ⟨(by intros;(try dsimp only at *);omega),(by intros;(try dsimp only at *);omega)⟩ rfl ⟨rfl,(by intros;(try dsimp only at *);omega)⟩ (by intros;(try dsimp only at *);omega) (fun _=>h.h9 (.inl hp)) (by intros;(try dsimp only at *);omega) (fun _=>⟨fun i hi=>h.w9 hp i (by omega) hi,aC _ _ _⟩)
 show (aI V.gC e.spare _ e.aW).isSome=true
 unfold aI
 split
 ·exact hs
 ·exact a.some
theorem aCf (ht:t<n) (h:eB P n cap V t e x) (hG:fK P n V) (hp:x.part=10) :
  x.left=1∧(e.stamp≠V.N→eB P n cap V t (e.fail cap) (aT.fail n cap {x with left:=0})) ∧
  (e.stamp=V.N→e.aW=V.prec∧x.aK=e.aK∧x.stamp=e.stamp∧fK P n (V.cN e.spare e.aK)∧Good n V e.aK∧eB P n cap (V.cN e.spare e.aK) t (aS.enter {e with spare:=e.kept,kept:=e.spare,aE:=e.aE / 2} 11) (aT.enter n {x with left:=0,aK:=[],aE:=x.aE / 2} 11)):=by
 have b:=h.base (by omega)
 have a:=h.qT (by omega) (by omega)
 obtain ⟨l1,l2⟩:=h.p3 (by omega) (by omega)
 have l3:x.len n x.part=1:=by rw [hp];simp [aT.len]
 refine ⟨by omega,fun hs=>?_,fun hs=>?_⟩
 ·exact eB.failed (x:={x with left:=0}) (b.same rfl rfl rfl rfl rfl rfl rfl rfl rfl rfl rfl rfl) (a.same rfl rfl rfl rfl rfl) hG ht hs
 ·obtain ⟨q1,q2⟩:=h.h8 (by omega) (by omega)
  have sc:=h.t7 (by omega) (by omega)
  obtain ⟨w1,w2⟩:=h.IJ hp
  obtain ⟨g1,g2,g3⟩:=h.h9 (.inr hp) hs
  obtain ⟨c1,c2,c3⟩:=h.d6 (by omega) (by omega)
  obtain ⟨f,hf⟩:=Option.isSome_iff_exists.1 c3
  have RD:=q2.good hs sc hG
  rw [g1,hf] at w2
  have hG':=fK.cN hG hs sc q2 w1 w2 rfl g2 g3
  refine ⟨a.cur hs,q1.symm,a.st,hG',RD,?_⟩
  have e2:aT.enter n {x with left:=0,aK:=[],aE:=x.aE / 2} 11 = {x with part:=11,left:=3,aK:=[],aE:=x.aE / 2}:=by simp [aT.enter,aT.len]
  rw [e2]
  have hsp:e.kept≠e.spare:=by rcases b.sp with ⟨u,v⟩|⟨u,v⟩<;>omega
  refine eB.QZ ⟨b.xo,b.xf,by show e.aE / 2=x.aE / 2;rw [b.bk],by show x.aE / 2≤cap;have:=b.bc;omega,b.ag,b.sD,b.tI,b.c3,b.tJ,?_,hsp,b.en,b.tr,fun q=>?_⟩ rfl ⟨(by intros;(try dsimp only at *);omega),(by intros;(try dsimp only at *);omega),rfl⟩ ?_ (by intros;(try dsimp only at *);omega) (by intros;(try dsimp only at *);omega)
  ·show (e.kept=_∧e.spare=_)∨(e.kept=_∧e.spare=_)
   rcases b.sp with ⟨u,v⟩|⟨u,v⟩
   ·exact .inr ⟨v,u⟩
   ·exact .inl ⟨v,u⟩
  ·rw [sH]
   exact Nat.lt_succ_of_lt (b.tn q)
  ·rw [sI RD,if_pos q2.2.1]
   exact (RD.fl t q2.2.1).symm
theorem aEL (h:eB P n cap V t e x) (hp:x.part=1) :
  cnt V.bs t=V.aL t∧(1<x.left→eB P n cap {V with eS:=aI V.eS t (aI (V.eS t) e.past (e.op.w e.past))} t (e.pass 3 2) {x with left:=x.left-1}) ∧
  (x.left=1→eB P n cap {V with eS:=aI V.eS t (aI (V.eS t) e.past (e.op.w e.past))} t (e.pass 3 2) (aT.enter n {x with left:=0} 2)):=by
 obtain ⟨l1,l2⟩:=h.p3 (by omega) (by omega)
 have l3:x.len n x.part=3:=by rw [hp];simp [aT.len]
 obtain ⟨k1,k2,k3⟩:=h.c1 (.inl hp)
 have han:∀ i,i<e.past+1→aI V.eS t (aI (V.eS t) e.past (e.op.w e.past)) t i=e.op.w i:=by
  intro i hi
  rw [aC]
  by_cases c:i=e.past
  ·rw [c,aC]
  ·rw [aD _ _ c]
   exact h.NS hp i (by omega)
 refine ⟨k3,fun hl=>?_,fun hl=>?_⟩
 ·have e1:e.pass 3 2 = {e with past:=e.past+1}:=by unfold aS.pass;rw [if_neg (by omega)]
  rw [e1]
  refine {h with p3:=fun _ _=>⟨?_,by show 0<x.left-1;omega⟩,NS:=fun _ i hi=>han i hi,p4:=(by intros;(try dsimp only at *);omega),tJ:=(by intros;(try dsimp only at *);omega),a1:=(by intros;(try dsimp only at *);omega),fd:=(by intros;(try dsimp only at *);omega),d5:=(by intros;(try dsimp only at *);omega),t6:=(by intros;(try dsimp only at *);omega),ET:=(by intros;(try dsimp only at *);omega),w9:=(by intros;(try dsimp only at *);omega)}
  show e.past+1+(x.left-1)=x.len n x.part
  omega
 ·have e1:e.pass 3 2=e.enter 2:=by unfold aS.pass;rw [if_pos (by omega)]
  have e2:aT.enter n {x with left:=0} 2 = {x with part:=2,left:=1}:=by simp [aT.enter,aT.len]
  rw [e1,e2]
  exact {xo:=h.xo,xf:=h.xf,bk:=h.bk,bc:=h.bc,ag:=fun _=>h.ag (by omega),sD:=h.sD,tI:=fun _=>h.tI (by omega),c1:=fun _=>⟨k1,k2,k3⟩,t0:=fun _=>h.t0 (.inl hp),tJ:=fun _ i hi=>han i (by omega),sp:=h.sp,sF:=h.sF,en:=h.en,p1:=(by intros;(try dsimp only at *);omega),p2:=fun _=>rfl,p3:=fun _ _=>⟨rfl,(by intros;(try dsimp only at *);omega)⟩,p4:=(by intros;(try dsimp only at *);omega),c0:=(by intros;(try dsimp only at *);omega),c3:=(by intros;(try dsimp only at *);omega),mK:=(by intros;(try dsimp only at *);omega),NS:=(by intros;(try dsimp only at *);omega),a0:=(by intros;(try dsimp only at *);omega),a1:=(by intros;(try dsimp only at *);omega),fd:=(by intros;(try dsimp only at *);omega),tr:=(by intros;(try dsimp only at *);omega),tn:=(by intros;(try dsimp only at *);omega),s1:=(by intros;(try dsimp only at *);omega),d5:=(by intros;(try dsimp only at *);omega),d6:=(by intros;(try dsimp only at *);omega),d7:=(by intros;(try dsimp only at *);omega),t6:=(by intros;(try dsimp only at *);omega),t7:=(by intros;(try dsimp only at *);omega),h8:=(by intros;(try dsimp only at *);omega),ET:=(by intros;(try dsimp only at *);omega),h9:=(by intros;(try dsimp only at *);omega),w9:=(by intros;(try dsimp only at *);omega),IJ:=(by intros;(try dsimp only at *);omega)}
theorem aEM (h:eB P n cap V t e x) (hp:x.part=2) (g:Nat→Int) :
  x.left=1∧cnt V.bs t=V.aL t∧(V.ops t).length=V.aL t+1∧(∀ i,i<3→V.eS t i=(V.op t (V.aL t)).w i)∧e.cX=decide (V.aL t % 2=1) ∧
  eB P n cap (V.flip t g) t (aS.bK {e with cX:=!e.cX}) (aT.enter n {x with left:=0,aL:=x.aL+1,tries:=1} 3):=by
 obtain ⟨l1,l2⟩:=h.p3 (by omega) (by omega)
 have l3:x.len n x.part=1:=by rw [hp];simp [aT.len]
 obtain ⟨k1,k2,k3⟩:=h.c1 (.inr hp)
 obtain ⟨o1,o2⟩:=h.tI (by omega)
 have hop:e.op=V.op t (V.aL t):=by rw [o2,k1];rfl
 refine ⟨by omega,k3,k1,fun i hi=>by rw [←hop];exact h.tJ (by omega) i hi,h.sD,?_⟩
 have hfl:(V.flip t g).aL t=V.aL t+1:=aC _ _ _
 have hag:=h.ag (by omega)
 refine eB.bK ⟨h.xo,by rw [hfl];show x.aL+1=_;rw [h.xf],h.bk,h.bc,?_,?_,⟨o1,o2⟩,by rw [hfl];exact ⟨k1,by show x.ended+1=_;omega⟩,h.tJ (by omega),h.sp,h.sF,h.en,.inl rfl,(by intros;(try dsimp only at *);omega)⟩
 ·show e.again=_
  rw [hag]
  have:=h.t0 (.inr hp)
  simp [this]
 ·rw [hfl]
  show (!e.cX)=_
  rw [h.sD]
  by_cases c:V.aL t % 2=1
  ·have:¬(V.aL t+1) % 2=1:=by omega
   simp [c,this]
  ·have:(V.aL t+1) % 2=1:=by omega
   simp [c,this]
theorem RF (h:eB P n cap V t e x) (hp:x.part=0) (o:Op):eB P n cap (V.more t o) t (aS.enter {e with op:=o,again:=false} 1) {x with ops:=x.ops++[o],tries:=0,part:=1,left:=3}:=by
 obtain ⟨k1,k2,k3⟩:=h.c0 hp
 have ho:(V.more t o).ops t=V.ops t++[o]:=aC _ _ _
 have hop:(V.more t o).op t (V.ops t).length=o:=by
  show ((V.more t o).ops t).getD _ _=_
  rw [ho]
  simp
 exact {xo:=by rw [ho];show x.ops++[o]=_;rw [h.xo],xf:=h.xf,bk:=h.bk,bc:=h.bc,ag:=fun _=>rfl,sD:=h.sD,tI:=fun _=>by rw [ho];exact ⟨by simp,by simp [hop];rfl⟩,c1:=fun _=>by rw [ho];exact ⟨by rw [List.length_append,k1];rfl,k2,k3⟩,sp:=h.sp,sF:=h.sF,en:=h.en,t0:=(by intros;(try dsimp only at *);omega),p1:=(by intros;(try dsimp only at *);omega),p2:=fun _=>rfl,p3:=fun _ _=>⟨rfl,(by intros;(try dsimp only at *);omega)⟩,NS:=fun _ i hi=>absurd hi (Nat.not_lt_zero _),p4:=(by intros;(try dsimp only at *);omega),c0:=(by intros;(try dsimp only at *);omega),c3:=(by intros;(try dsimp only at *);omega),mK:=(by intros;(try dsimp only at *);omega),tJ:=(by intros;(try dsimp only at *);omega),a0:=(by intros;(try dsimp only at *);omega),a1:=(by intros;(try dsimp only at *);omega),fd:=(by intros;(try dsimp only at *);omega),tr:=(by intros;(try dsimp only at *);omega),tn:=(by intros;(try dsimp only at *);omega),s1:=(by intros;(try dsimp only at *);omega),d5:=(by intros;(try dsimp only at *);omega),d6:=(by intros;(try dsimp only at *);omega),d7:=(by intros;(try dsimp only at *);omega),t6:=(by intros;(try dsimp only at *);omega),t7:=(by intros;(try dsimp only at *);omega),h8:=(by intros;(try dsimp only at *);omega),ET:=(by intros;(try dsimp only at *);omega),h9:=(by intros;(try dsimp only at *);omega),w9:=(by intros;(try dsimp only at *);omega),IJ:=(by intros;(try dsimp only at *);omega)}
end
end Go.Proofs.YtefjhnhdagolhaaGreat.M
namespace Go.Proofs.YtefjhnhdagolhaaGreat.M
section
variable {σ:Type} {P:Plain σ} {n cap:Nat} {E:cA σ} {Y:aR} {t:Nat} {nf:Nat→Nat}
theorem sK {α:Type} (f:Nat→α) (t:Nat):aI f t (f t)=f:=by funext k;unfold aI;split<;>simp_all
theorem pT {α β:Type} (f:α→β) (g:Nat→α) (t:Nat) (x:α):(fun k=>f (aI g t x k))=aI (fun k=>f (g k)) t (f x):=by funext k;unfold aI;split<;>rfl
theorem eU {E':cA σ} {Y':aR} {V':View σ} {e':aS σ} {x':aT} (pb' nf':Nat→Nat) (hv:view E' Y' pb' nf'=V') (hN:E'.dZ=Y'.bs.length) (hG:fK P n V') (hE:E'.th=aI E.th t e') (hY:Y'.th=aI Y.th t x')
  (ho:∀ k,k<n→k≠t→eB P n cap V' k (E.th k) (Y.th k)) (h:eB P n cap V' t e' x'):nY P n cap E' Y' nf':=by
 refine ⟨pb',hN,by rw [hv];exact hG,fun k hk=>?_⟩
 rw [hv,hE,hY]
 by_cases q:k=t
 ·subst q;rw [aC,aC];exact h
 ·rw [aD _ _ q,aD _ _ q];exact ho k hk q
theorem kF {x:aT} (hx:x=Y.th t) (h6:x.part≠6) (hl:1<x.left):cP n cap Y t=(Y.set t {x with left:=x.left-1},false):=by
 subst hx
 unfold cP
 simp only [h6,if_false]
 rw [if_pos (by omega)]
theorem eW {x:aT} (hx:x=Y.th t) (h6:x.part≠6) (hl:x.left=1):cP n cap Y t=over n cap Y t {x with left:=0}:=by
 subst hx
 unfold cP
 simp only [h6,if_false]
 rw [hl,if_neg (by omega)]
theorem eC (y:aT) (p:Nat) (hp:p≠0):(aT.enter n y p).part≠0:=by
 unfold aT.enter
 split
 ·show p+1≠0;omega
 ·exact hp
theorem AL (y:aT):(aT.fail n cap y).part≠0:=by
 unfold aT.fail
 split
 ·exact eC _ _ (by decide)
 ·exact eC _ _ (by decide)
theorem JD (h:nY P n cap E Y nf) (ht:t<n) (hp:(Y.th t).part=0) (o:Op):nY P n cap (begin E t o) (cQ Y t o) nf:=by
 obtain ⟨pb,h1,h2,h3⟩:=h
 refine eU (V':=(view E Y pb nf).more t o) pb nf ?_ h1 (h2.more o) rfl rfl (fun k hk BU=>(h3 k hk).more h2 BU) (RF (h3 t ht) hp o)
 unfold view View.more
 congr 1
 ·show (fun k=>(aI Y.th t _ k).aL)=_
  rw [pT (fun x:aT=>x.aL)]
  exact sK _ t
 ·show (fun k=>(aI Y.th t _ k).ops)=_
  rw [pT (fun x:aT=>x.ops)]
theorem tK (h:Inv P n cap E Y) (ht:t<n) (hp:(Y.th t).part=0) (o:Op):Inv P n cap (begin E t o) (cQ Y t o):=by
 obtain ⟨pb,nf,h⟩:=h
 obtain ⟨pb',h'⟩:=JD ⟨pb,h⟩ ht hp o
 exact ⟨pb',nf,h'⟩
def NW (Y:aR) (t:Nat) (nf:Nat→Nat):Nat→Nat:=if (Y.th t).part=2 then aI nf t Y.bs.length else nf
def Stepped (P:Plain σ) (n cap:Nat) (E:cA σ) (Y:aR) (t:Nat) (nf:Nat→Nat):Prop:=nY P n cap (step P n cap E t) (cP n cap Y t).1 (NW Y t nf)∧(cP n cap Y t).2=decide (((cP n cap Y t).1.th t).part=0)
theorem eA (pb nf:Nat→Nat) {E':cA σ} {Y':aR} {x':aT} (hY:Y'.th=aI Y.th t x') (hf:x'.aL=(Y.th t).aL) (ho:x'.ops=(Y.th t).ops) :
  view E' Y' pb nf = {bs:=Y'.bs,aL:=fun k=>(Y.th k).aL,ops:=fun k=>(Y.th k).ops,cC:=E'.cC,eS:=E'.eS,rw:=E'.rw,gC:=E'.gC,prec:=E'.prec,pb:=pb,nf:=nf}:=by
 unfold view
 congr 1
 ·rw [hY,pT (fun x:aT=>x.aL),hf]
  exact sK _ t
 ·rw [hY,pT (fun x:aT=>x.ops),ho]
  exact sK _ t
theorem eI {x':aT} (h:x'.part≠0):false=decide (((Y.set t x').th t).part=0):=by
 have:((Y.set t x').th t).part=x'.part:=by show (aI Y.th t x' t).part=_;rw [aC]
 rw [this]
 simp [h]
theorem bI (y:aT) (p:Nat):(aT.enter n y p).aL=y.aL∧(aT.enter n y p).ops=y.ops:=by
 unfold aT.enter
 split<;>exact ⟨rfl,rfl⟩
theorem mP (y:aT):(aT.fail n cap y).aL=y.aL∧(aT.fail n cap y).ops=y.ops:=by
 unfold aT.fail
 split
 ·exact bI _ _
 ·exact bI _ _
theorem aCg (h:nY P n cap E Y nf) (ht:t<n) (hp:(Y.th t).part=1):Stepped P n cap E Y t nf:=by
 obtain ⟨pb,h1,h2,h3⟩:=h
 have hT:=h3 t ht
 have cD:(E.th t).phase=1:=(hT.p2 (by omega)).trans hp
 obtain ⟨k0,k1,k2⟩:=aEL hT hp
 obtain ⟨l1,l2⟩:=hT.p3 (by omega) (by omega)
 have hs:step P n cap E t = {E with eS:=aI E.eS t (aI (E.eS t) (E.th t).past ((E.th t).op.w (E.th t).past)),th:=aI E.th t ((E.th t).pass 3 2)}:=by unfold step;simp only [cD]
 unfold Stepped NW
 rw [if_neg (show ¬(Y.th t).part=2 by omega)]
 rw [hs]
 by_cases hl:1<(Y.th t).left
 ·rw [kF rfl (by omega) hl]
  exact ⟨eU pb nf (eA pb nf rfl rfl rfl) h1 (h2.eS k0 _) rfl rfl (fun k hk BU=>(h3 k hk).eS (Ne.symm BU) k0 _) (k1 hl),eI (by show (Y.th t).part≠0;omega)⟩
 ·have EU:(Y.th t).left=1:=by omega
  have ho:over n cap Y t {Y.th t with left:=0} = (Y.set t (aT.enter n {Y.th t with left:=0} 2),false):=by unfold over;simp only [hp]
  rw [eW rfl (by omega) EU,ho]
  exact ⟨eU pb nf (eA pb nf rfl (bI _ _).1 (bI _ _).2) h1 (h2.eS k0 _) rfl rfl (fun k hk BU=>(h3 k hk).eS (Ne.symm BU) k0 _) (k2 EU),eI (eC _ _ (by decide))⟩
theorem aCh (h:nY P n cap E Y nf) (ht:t<n) (hp:(Y.th t).part=2):Stepped P n cap E Y t nf:=by
 obtain ⟨pb,h1,h2,h3⟩:=h
 have hT:=h3 t ht
 have cD:(E.th t).phase=2:=(hT.p2 (by omega)).trans hp
 obtain ⟨k1,k2,k3,k4,k5,k6⟩:=aEM hT hp (aI E.cC (t / 16) (E.cC (t / 16)+(if (Y.th t).aL % 2=1 then -(2 ^ (t % 16)) else 2 ^ (t % 16))))
 have htg:(if (E.th t).cX=true then -(2 ^ (t % 16)) else 2 ^ (t % 16):Int)=if (Y.th t).aL % 2=1 then -(2 ^ (t % 16)) else 2 ^ (t % 16):=by
  rw [k5]
  show (if decide ((Y.th t).aL % 2=1)=true then _ else _)=_
  by_cases c:(Y.th t).aL % 2=1<;>simp [c]
 have hs:step P n cap E t = {E with cC:=aI E.cC (t / 16) (E.cC (t / 16)+(if (Y.th t).aL % 2=1 then -(2 ^ (t % 16)) else 2 ^ (t % 16))),th:=aI E.th t (aS.bK {E.th t with cX:=!(E.th t).cX})}:=by unfold step;simp only [cD,htg]
 have ho:over n cap Y t {Y.th t with left:=0} = (Y.set t (aT.enter n {Y.th t with left:=0,aL:=(Y.th t).aL+1,tries:=1} 3),false):=by unfold over;simp only [hp]
 unfold Stepped NW
 rw [if_pos hp]
 rw [hs,eW rfl (by omega) k1,ho]
 refine ⟨eU pb (aI nf t Y.bs.length) (V':=(view E Y pb nf).flip t (aI E.cC (t / 16) (E.cC (t / 16)+(if (Y.th t).aL % 2=1 then -(2 ^ (t % 16)) else 2 ^ (t % 16))))) ?_ h1 (h2.flip ht k2 k3 k4) rfl rfl (fun k hk BU=>(h3 k hk).flip BU k2 _) k6,eI (eC _ _ (by decide))⟩
 unfold view View.flip
 congr 1
 ·show (fun k=>(aI Y.th t _ k).aL)=_
  rw [pT (fun x:aT=>x.aL),(bI _ _).1]
 ·show (fun k=>(aI Y.th t _ k).ops)=_
  rw [pT (fun x:aT=>x.ops),(bI _ _).2]
  exact sK _ t
theorem aCi (h:nY P n cap E Y nf) (ht:t<n) (hp:(Y.th t).part=3):Stepped P n cap E Y t nf:=by
 obtain ⟨pb,h1,h2,h3⟩:=h
 have hT:=h3 t ht
 have cD:(E.th t).phase=3:=(hT.p2 (by omega)).trans hp
 obtain ⟨k1,k2⟩:=aEF hT hp
 obtain ⟨l1,l2⟩:=hT.p3 (by omega) (by omega)
 have hs:step P n cap E t = {E with th:=aI E.th t ((E.th t).pass (E.th t).aE 4)}:=by unfold step;simp only [cD]
 unfold Stepped NW
 rw [if_neg (show ¬(Y.th t).part=2 by omega)]
 rw [hs]
 by_cases hl:1<(Y.th t).left
 ·rw [kF rfl (by omega) hl]
  exact ⟨eU pb nf (eA pb nf rfl rfl rfl) h1 h2 rfl rfl (fun k hk _=>h3 k hk) (k1 hl),eI (by show (Y.th t).part≠0;omega)⟩
 ·have EU:(Y.th t).left=1:=by omega
  have ho:over n cap Y t {Y.th t with left:=0} = (Y.set t (aT.enter n {Y.th t with left:=0} 4),false):=by unfold over;simp only [hp]
  rw [eW rfl (by omega) EU,ho]
  exact ⟨eU pb nf (eA pb nf rfl (bI _ _).1 (bI _ _).2) h1 h2 rfl rfl (fun k hk _=>h3 k hk) (k2 EU),eI (eC _ _ (by decide))⟩
theorem aCj (h:nY P n cap E Y nf) (ht:t<n) (hp:(Y.th t).part=4):Stepped P n cap E Y t nf:=by
 obtain ⟨pb,h1,h2,h3⟩:=h
 have hT:=h3 t ht
 have cD:(E.th t).phase=4:=(hT.p2 (by omega)).trans hp
 obtain ⟨k1,k2⟩:=aEG hT h2 hp
 have hs:step P n cap E t = {E with th:=aI E.th t (aS.enter {E.th t with stamp:=Y.bs.length,aW:=E.prec} 5)}:=by unfold step;simp only [cD,h1]
 have ho:over n cap Y t {Y.th t with left:=0} = (Y.set t (aT.enter n {Y.th t with left:=0,stamp:=Y.bs.length} 5),false):=by unfold over;simp only [hp]
 unfold Stepped NW
 rw [if_neg (show ¬(Y.th t).part=2 by omega)]
 rw [hs,eW rfl (by omega) k1,ho]
 exact ⟨eU pb nf (eA pb nf rfl (bI _ _).1 (bI _ _).2) h1 h2 rfl rfl (fun k hk _=>h3 k hk) k2,eI (eC _ _ (by decide))⟩
theorem aCk (hn:0<n) (h:nY P n cap E Y nf) (ht:t<n) (hp:(Y.th t).part=5):Stepped P n cap E Y t nf:=by
 obtain ⟨pb,h1,h2,h3⟩:=h
 have hT:=h3 t ht
 have cD:(E.th t).phase=5:=(hT.p2 (by omega)).trans hp
 by_cases hw:(E.th t).past<aO n
 ·obtain ⟨k1,k2⟩:=aB9 hT h2 hp hw
  have hs:step P n cap E t = {E with th:=aI E.th t (aS.pass {E.th t with dw:=aI (E.th t).dw (E.th t).past (E.rw (E.th t).aW (E.th t).past)} (aO n+1) 6)}:=by unfold step;simp only [cD,hw,if_true]
  unfold Stepped NW
  rw [if_neg (show ¬(Y.th t).part=2 by omega)]
  rw [hs,kF rfl (by omega) k1]
  exact ⟨eU pb nf (eA pb nf rfl rfl rfl) h1 h2 rfl rfl (fun k hk _=>h3 k hk) k2,eI (by show (Y.th t).part≠0;omega)⟩
 ·obtain ⟨k1,k2⟩:=aCa hn hT h2 hp hw
  have hs:step P n cap E t = {E with th:=aI E.th t (aS.pass {E.th t with now:=(E.gC (E.th t).aW).map Prod.fst,dM:=(E.gC (E.th t).aW).map Prod.fst} (aO n+1) 6)}:=by unfold step;simp only [cD,hw,if_false]
  have ho:over n cap Y t {Y.th t with left:=0} = (Y.set t (aT.enter n {Y.th t with left:=0} 6),false):=by unfold over;simp only [hp]
  unfold Stepped NW
  rw [if_neg (show ¬(Y.th t).part=2 by omega)]
  rw [hs,eW rfl (by omega) k1,ho]
  exact ⟨eU pb nf (eA pb nf rfl (bI _ _).1 (bI _ _).2) h1 h2 rfl rfl (fun k hk _=>h3 k hk) k2,eI (eC _ _ (by decide))⟩
theorem aCl (h:nY P n cap E Y nf) (ht:t<n) (hp:(Y.th t).part=6):Stepped P n cap E Y t nf:=by
 obtain ⟨pb,h1,h2,h3⟩:=h
 have hT:=h3 t ht
 have cD:(E.th t).phase=6:=(hT.p2 (by omega)).trans hp
 obtain ⟨k1,k2⟩:=aEH hT h2 hp (fun k=>if k / 16=tw n-((Y.th t).left-1)-1∧k<n then (Y.th k).aL else (Y.th t).flipped k) rfl
 obtain ⟨l1,l2⟩:=hT.p3 (by omega) (by omega)
 have hs:step P n cap E t = {E with th:=aI E.th t (aS.pass {E.th t with tg:=aI (E.th t).tg (E.th t).past (E.cC (E.th t).past)} (tw n) 7)}:=by unfold step;simp only [cD]
 unfold Stepped NW
 rw [if_neg (show ¬(Y.th t).part=2 by omega)]
 rw [hs]
 by_cases hl:1<(Y.th t).left
 ·have hr:cP n cap Y t=(Y.set t {Y.th t with left:=(Y.th t).left-1,flipped:=fun k=>if k / 16=tw n-((Y.th t).left-1)-1∧k<n then (Y.th k).aL else (Y.th t).flipped k},false):=by
   unfold cP
   simp only [hp,if_true]
   rw [if_pos (by omega)]
  rw [hr]
  exact ⟨eU pb nf (eA pb nf rfl rfl rfl) h1 h2 rfl rfl (fun k hk _=>h3 k hk) (k1 hl),eI (by show (Y.th t).part≠0;omega)⟩
 ·have EU:(Y.th t).left=1:=by omega
  have hr:cP n cap Y t=(Y.set t (aT.enter n {Y.th t with left:=0,flipped:=fun k=>if k / 16=tw n-((Y.th t).left-1)-1∧k<n then (Y.th k).aL else (Y.th t).flipped k} 7),false):=by
   unfold cP
   simp only [hp,if_true]
   rw [if_neg (by omega)]
   unfold over
   simp only [EU,Nat.sub_self]
  rw [hr]
  exact ⟨eU pb nf (eA pb nf rfl (bI _ _).1 (bI _ _).2) h1 h2 rfl rfl (fun k hk _=>h3 k hk) (k2 EU),eI (eC _ _ (by decide))⟩
end
end Go.Proofs.YtefjhnhdagolhaaGreat.M
namespace Go.Proofs.YtefjhnhdagolhaaGreat.M
section
variable {σ:Type} {P:Plain σ} {n cap:Nat} {E:cA σ} {Y:aR} {t:Nat} {nf:Nat→Nat}
theorem aCm (h:nY P n cap E Y nf) (ht:t<n) (hp:(Y.th t).part=7):Stepped P n cap E Y t nf:=by
 obtain ⟨pb,h1,h2,h3⟩:=h
 have hT:=h3 t ht
 have cD:(E.th t).phase=7:=(hT.p2 (by omega)).trans hp
 obtain ⟨k1,k2,k3⟩:=aEI ht hT h2 hp
 have hst:(Y.th t).stamp=(E.th t).stamp:=(hT.qT (by omega) (by omega)).st
 unfold Stepped NW
 rw [if_neg (show ¬(Y.th t).part=2 by omega)]
 by_cases hs0:(E.th t).stamp=Y.bs.length
 ·obtain ⟨q1,q2⟩:=k3 hs0 _ rfl
  have EV:Y.pending n {Y.th t with left:=0} = (List.range n).filter (fun k=>decide (((Y.th t).flipped k+cnt Y.bs k) % 2=1)):=rfl
  have hs:step P n cap E t = {E with th:=aI E.th t (aS.enter {E.th t with aK:=(List.range n).filter (fun k=>decide (((Y.th t).flipped k+cnt Y.bs k) % 2=1))} (if t∈(List.range n).filter (fun k=>decide (((Y.th t).flipped k+cnt Y.bs k) % 2=1)) then 8 else 11))}:=by
   unfold step
   simp only [cD]
   rw [if_pos (by rw [h1,hs0]),q1]
   rfl
  have ho:over n cap Y t {Y.th t with left:=0} = (Y.set t (aT.enter n {Y.th t with left:=0,aK:=(List.range n).filter (fun k=>decide (((Y.th t).flipped k+cnt Y.bs k) % 2=1))} (if t∈(List.range n).filter (fun k=>decide (((Y.th t).flipped k+cnt Y.bs k) % 2=1)) then 8 else 11)),false):=by
   unfold over
   simp only [hp]
   rw [if_pos (by rw [hst,hs0])]
   rfl
  rw [hs,eW rfl (by omega) k1,ho]
  exact ⟨eU pb nf (eA pb nf rfl (bI _ _).1 (bI _ _).2) h1 h2 rfl rfl (fun k hk _=>h3 k hk) q2,eI (eC _ _ (by split<;>decide))⟩
 ·have hs:step P n cap E t = {E with th:=aI E.th t ((E.th t).fail cap)}:=by
   unfold step
   simp only [cD]
   rw [if_neg (by rw [h1];exact fun q=>hs0 q.symm)]
  have ho:over n cap Y t {Y.th t with left:=0} = (Y.set t (aT.fail n cap {Y.th t with left:=0}),false):=by
   unfold over
   simp only [hp]
   rw [if_neg (by rw [hst];exact fun q=>hs0 q.symm)]
  rw [hs,eW rfl (by omega) k1,ho]
  exact ⟨eU pb nf (eA pb nf rfl (mP _).1 (mP _).2) h1 h2 rfl rfl (fun k hk _=>h3 k hk) (k2 hs0),eI (AL _)⟩
theorem aCn (h:nY P n cap E Y nf) (ht:t<n) (hp:(Y.th t).part=8):Stepped P n cap E Y t nf:=by
 obtain ⟨pb,h1,h2,h3⟩:=h
 have hT:=h3 t ht
 have cD:(E.th t).phase=8:=(hT.p2 (by omega)).trans hp
 obtain ⟨e3,RB⟩:∃ e3,e3=(if (E.th t).past+1=3*(E.th t).aK.length then aS.close n (if (E.th t).past % 3=2 then aS.apply P n {E.th t with heard:=aI (E.th t).heard ((E.th t).past % 3) (E.eS ((E.th t).aK.getD ((E.th t).past / 3) 0) ((E.th t).past % 3))} ((E.th t).aK.getD ((E.th t).past / 3) 0) else {E.th t with heard:=aI (E.th t).heard ((E.th t).past % 3) (E.eS ((E.th t).aK.getD ((E.th t).past / 3) 0) ((E.th t).past % 3))}) else (if (E.th t).past % 3=2 then aS.apply P n {E.th t with heard:=aI (E.th t).heard ((E.th t).past % 3) (E.eS ((E.th t).aK.getD ((E.th t).past / 3) 0) ((E.th t).past % 3))} ((E.th t).aK.getD ((E.th t).past / 3) 0) else {E.th t with heard:=aI (E.th t).heard ((E.th t).past % 3) (E.eS ((E.th t).aK.getD ((E.th t).past / 3) 0) ((E.th t).past % 3))})):=⟨_,rfl⟩
 obtain ⟨-,k1,k2⟩:=aEK hT h2 hp e3 _ rfl RB
 obtain ⟨l1,l2⟩:=hT.p3 (by omega) (by omega)
 have hs:step P n cap E t = {E with th:=aI E.th t (e3.pass (3*(E.th t).aK.length) 9)}:=by
  rw [RB]
  unfold step
  simp only [cD]
 unfold Stepped NW
 rw [if_neg (show ¬(Y.th t).part=2 by omega)]
 rw [hs]
 by_cases hl:1<(Y.th t).left
 ·rw [kF rfl (by omega) hl]
  exact ⟨eU pb nf (eA pb nf rfl rfl rfl) h1 h2 rfl rfl (fun k hk _=>h3 k hk) (k1 hl),eI (by show (Y.th t).part≠0;omega)⟩
 ·have EU:(Y.th t).left=1:=by omega
  have ho:over n cap Y t {Y.th t with left:=0} = (Y.set t (aT.enter n {Y.th t with left:=0} 9),false):=by unfold over;simp only [hp]
  rw [eW rfl (by omega) EU,ho]
  exact ⟨eU pb nf (eA pb nf rfl (bI _ _).1 (bI _ _).2) h1 h2 rfl rfl (fun k hk _=>h3 k hk) (k2 EU),eI (eC _ _ (by decide))⟩
theorem wG {V:View σ} {u:Nat} {e f:aS σ} {x y:aT} (h:eB P n cap V t e x) (h':eB P n cap V u f y) (hu:u≠t):f.spare≠e.spare:=by
 rcases h.sp with ⟨a,b⟩|⟨a,b⟩<;>rcases h'.sp with ⟨c,d⟩|⟨c,d⟩<;>omega
theorem aCo (h:nY P n cap E Y nf) (ht:t<n) (hp:(Y.th t).part=9):Stepped P n cap E Y t nf:=by
 obtain ⟨pb,h1,h2,h3⟩:=h
 have hT:=h3 t ht
 have cD:(E.th t).phase=9:=(hT.p2 (by omega)).trans hp
 unfold Stepped NW
 rw [if_neg (show ¬(Y.th t).part=2 by omega)]
 by_cases hw:(E.th t).past<aO n
 ·obtain ⟨k1,k2⟩:=aCd hT hp hw
  have hs:step P n cap E t = {E with rw:=aI E.rw (E.th t).spare (aI (E.rw (E.th t).spare) (E.th t).past ((E.th t).dw (E.th t).past)),th:=aI E.th t ((E.th t).pass (aO n+1) 10)}:=by unfold step;simp only [cD,hw,if_true]
  rw [hs,kF rfl (by omega) k1]
  exact ⟨eU pb nf (eA pb nf rfl rfl rfl) h1 (h2.word hT.sF (hT.qT (by omega) (by omega)).spb (hT.d6 (by omega) (by omega)).1) rfl rfl (fun k hk BU=>(h3 k hk).word hT.sF (wG hT (h3 k hk) BU) _) k2,eI (by show (Y.th t).part≠0;omega)⟩
 ·obtain ⟨k1,k2,k3⟩:=aCe hT hp hw
  have hs:step P n cap E t = {E with gC:=aI E.gC (E.th t).spare ((E.th t).now.bind fun v=>(E.th t).dM.map fun f=>(v,f)),th:=aI E.th t ((E.th t).pass (aO n+1) 10)}:=by unfold step;simp only [cD,hw,if_false]
  have ho:over n cap Y t {Y.th t with left:=0} = (Y.set t (aT.enter n {Y.th t with left:=0} 10),false):=by unfold over;simp only [hp]
  rw [hs,eW rfl (by omega) k1,ho]
  exact ⟨eU pb nf (eA pb nf rfl (bI _ _).1 (bI _ _).2) h1 (h2.state hT.sF _) rfl rfl (fun k hk BU=>(h3 k hk).state (wG hT (h3 k hk) BU) _ k2) k3,eI (eC _ _ (by decide))⟩
theorem aAb (h:nY P n cap E Y nf) (ht:t<n) (hp:(Y.th t).part=10):Stepped P n cap E Y t nf:=by
 obtain ⟨pb,h1,h2,h3⟩:=h
 have hT:=h3 t ht
 have cD:(E.th t).phase=10:=(hT.p2 (by omega)).trans hp
 obtain ⟨k1,k2,k3⟩:=aCf ht hT h2 hp
 have hst:(Y.th t).stamp=(E.th t).stamp:=(hT.qT (by omega) (by omega)).st
 unfold Stepped NW
 rw [if_neg (show ¬(Y.th t).part=2 by omega)]
 by_cases hs0:(E.th t).stamp=Y.bs.length
 ·obtain ⟨q1,q2,q3,q4,q5,q6⟩:=k3 hs0
  have hs:step P n cap E t = {E with dZ:=(E.th t).stamp+1,prec:=(E.th t).spare,th:=aI E.th t (aS.enter {E.th t with spare:=(E.th t).kept,kept:=(E.th t).spare,aE:=(E.th t).aE / 2} 11)}:=by
   unfold step
   simp only [cD]
   rw [if_pos ⟨by rw [h1,hs0],q1.symm⟩]
  have ho:over n cap Y t {Y.th t with left:=0} = ({th:=aI Y.th t (aT.enter n {Y.th t with left:=0,aK:=[],aE:=(Y.th t).aE / 2} 11),bs:=Y.bs++[(E.th t).aK]},false):=by
   unfold over
   simp only [hp]
   rw [if_pos (by rw [hst,hs0]),q2]
  rw [hs,eW rfl (by omega) k1,ho]
  refine ⟨eU (aI pb (E.th t).spare (Y.bs.length+1)) nf (V':=(view E Y pb nf).cN (E.th t).spare (E.th t).aK) (eA _ nf rfl (bI _ _).1 (bI _ _).2) (by simp [hs0]) q4 rfl rfl (fun k hk BU=>(h3 k hk).cN q5 h2 (wG hT (h3 k hk) BU)) q6,?_⟩
  show false=decide ((aI Y.th t _ t).part=0)
  rw [aC]
  have:=eC (n:=n) {Y.th t with left:=0,aK:=[],aE:=(Y.th t).aE / 2} 11 (by decide)
  simp [this]
 ·have hs:step P n cap E t = {E with th:=aI E.th t ((E.th t).fail cap)}:=by
   unfold step
   simp only [cD]
   rw [if_neg (by rintro ⟨q,-⟩;rw [h1] at q;exact hs0 q.symm)]
  have ho:over n cap Y t {Y.th t with left:=0} = (Y.set t (aT.fail n cap {Y.th t with left:=0}),false):=by
   unfold over
   simp only [hp]
   rw [if_neg (by rw [hst];exact fun q=>hs0 q.symm)]
  rw [hs,eW rfl (by omega) k1,ho]
  exact ⟨eU pb nf (eA pb nf rfl (mP _).1 (mP _).2) h1 h2 rfl rfl (fun k hk _=>h3 k hk) (k2 hs0),eI (AL _)⟩
theorem aAc (h:nY P n cap E Y nf) (ht:t<n) (hp:(Y.th t).part=11):Stepped P n cap E Y t nf:=by
 obtain ⟨pb,h1,h2,h3⟩:=h
 have hT:=h3 t ht
 obtain ⟨l1,l2,l3⟩:=hT.p4 hp
 obtain ⟨k1,k2,k3⟩:=aCb ht hT h2 hp
 unfold Stepped NW
 rw [if_neg (show ¬(Y.th t).part=2 by omega)]
 rcases (by omega:(Y.th t).left=3∨(Y.th t).left=2∨(Y.th t).left=1) with hl|hl|hl
 ·have cD:(E.th t).phase=11:=by rw [l3,hl]
  have hs:step P n cap E t = {E with th:=aI E.th t (aS.enter {E.th t with found:=E.prec} 12)}:=by unfold step;simp only [cD]
  rw [hs,kF rfl (by omega) (by omega)]
  exact ⟨eU pb nf (eA pb nf rfl rfl rfl) h1 h2 rfl rfl (fun k hk _=>h3 k hk) (k1 hl),eI (by show (Y.th t).part≠0;omega)⟩
 ·have cD:(E.th t).phase=12:=by rw [l3,hl]
  have hs:step P n cap E t = {E with th:=aI E.th t (aS.enter {E.th t with zI:=E.rw (E.th t).found (aG n t)} 13)}:=by unfold step;simp only [cD]
  rw [hs,kF rfl (by omega) (by omega)]
  exact ⟨eU pb nf (eA pb nf rfl rfl rfl) h1 h2 rfl rfl (fun k hk _=>h3 k hk) (k2 hl),eI (by show (Y.th t).part≠0;omega)⟩
 ·have cD:(E.th t).phase=13:=by rw [l3,hl]
  have hs:step P n cap E t = {E with th:=aI E.th t (aS.enter {E.th t with val:=E.rw (E.th t).found (aJ n t),ended:=true} 0)}:=by unfold step;simp only [cD]
  have ho:over n cap Y t {Y.th t with left:=0} = (Y.set t {Y.th t with left:=0,part:=0,ended:=(Y.th t).ended+1},true):=by unfold over;simp only [hp]
  rw [hs,eW rfl (by omega) hl,ho]
  refine ⟨eU pb nf (eA pb nf rfl rfl rfl) h1 h2 rfl rfl (fun k hk _=>h3 k hk) (k3 hl),?_⟩
  show true=decide ((aI Y.th t _ t).part=0)
  rw [aC]
  rfl
theorem NY (hn:0<n) (h:nY P n cap E Y nf) (ht:t<n) (hb:(Y.th t).part≠0):Stepped P n cap E Y t nf:=by
 have MI:(Y.th t).part≤11:=by obtain ⟨pb,-,-,h3⟩:=h;exact (h3 t ht).p1
 rcases (by omega:(Y.th t).part=1∨(Y.th t).part=2∨(Y.th t).part=3∨(Y.th t).part=4∨(Y.th t).part=5∨(Y.th t).part=6∨(Y.th t).part=7∨(Y.th t).part=8∨(Y.th t).part=9∨(Y.th t).part=10∨(Y.th t).part=11) with q|q|q|q|q|q|q|q|q|q|q
 ·exact aCg h ht q
 ·exact aCh h ht q
 ·exact aCi h ht q
 ·exact aCj h ht q
 ·exact aCk hn h ht q
 ·exact aCl h ht q
 ·exact aCm h ht q
 ·exact aCn h ht q
 ·exact aCo h ht q
 ·exact aAb h ht q
 ·exact aAc h ht q
theorem lW (hn:0<n) (h:Inv P n cap E Y) (ht:t<n) (hb:(Y.th t).part≠0):Inv P n cap (step P n cap E t) (cP n cap Y t).1∧(cP n cap Y t).2=decide (((cP n cap Y t).1.th t).part=0):=by
 obtain ⟨pb,nf,h⟩:=h
 obtain ⟨⟨pb',h'⟩,q⟩:=NY hn ⟨pb,h⟩ ht hb
 exact ⟨⟨pb',_,h'⟩,q⟩
end
end Go.Proofs.YtefjhnhdagolhaaGreat.M
namespace Go.Proofs.YtefjhnhdagolhaaGreat.M
section
variable {σ:Type} {P:Plain σ} {n cap:Nat} {E:cA σ} {Y:aR} {t:Nat}
structure IL (n:Nat) (E:cA σ):Prop where
 pr:E.prec<2*n+1
 th:∀ t,t<n→(E.th t).aW<2*n+1∧(E.th t).found<2*n+1∧(E.th t).stamp≤E.dZ
theorem IL.aI {E':cA σ} {e':aS σ} (h:IL n E) (hp:E'.prec=E.prec) (hs:E.dZ≤E'.dZ) (ht:E'.th=M.aI E.th t e') (h1:e'.aW<2*n+1) (h2:e'.found<2*n+1) (h3:e'.stamp≤E'.dZ):IL n E':=by
 refine ⟨by rw [hp];exact h.pr,fun u hu=>?_⟩
 rw [ht]
 by_cases q:u=t
 ·subst q;rw [aC];exact ⟨h1,h2,h3⟩
 ·rw [aD _ _ q]
  obtain ⟨a,b,c⟩:=h.th u hu
  exact ⟨a,b,Nat.le_trans c hs⟩
theorem dG (e:aS σ) (s p:Nat):(e.pass s p).aW=e.aW∧(e.pass s p).found=e.found∧(e.pass s p).stamp=e.stamp:=by unfold aS.pass;split<;>exact ⟨rfl,rfl,rfl⟩
theorem jV (e:aS σ):e.bK.aW=e.aW∧e.bK.found=e.found∧e.bK.stamp=e.stamp:=by unfold aS.bK;split<;>exact ⟨rfl,rfl,rfl⟩
theorem lY (e:aS σ) (cap:Nat):(e.fail cap).aW=e.aW∧(e.fail cap).found=e.found∧(e.fail cap).stamp=e.stamp:=by
 unfold aS.fail
 split
 ·exact ⟨rfl,rfl,rfl⟩
 ·exact jV _
theorem jY (P:Plain σ) (n:Nat) (e:aS σ) (k:Nat):(e.apply P n k).aW=e.aW∧(e.apply P n k).found=e.found∧(e.apply P n k).stamp=e.stamp:=by unfold aS.apply;split<;>exact ⟨rfl,rfl,rfl⟩
theorem IL.step (h:IL n E) (ht:t<n) (hsp:(E.th t).spare<2*n+1):IL n (M.step P n cap E t):=by
 obtain ⟨b1,b2,b3⟩:=h.th t ht
 unfold M.step
 dsimp only
 split
 ·exact h.aI rfl (Nat.le_refl _) rfl (by rw [(dG _ _ _).1];exact b1) (by rw [(dG _ _ _).2.1];exact b2) (by rw [(dG _ _ _).2.2];exact b3)
 ·exact h.aI rfl (Nat.le_refl _) rfl (by rw [(jV _).1];exact b1) (by rw [(jV _).2.1];exact b2) (by rw [(jV _).2.2];exact b3)
 ·exact h.aI rfl (Nat.le_refl _) rfl (by rw [(dG _ _ _).1];exact b1) (by rw [(dG _ _ _).2.1];exact b2) (by rw [(dG _ _ _).2.2];exact b3)
 ·exact h.aI rfl (Nat.le_refl _) rfl h.pr b2 (Nat.le_refl _)
 ·refine h.aI rfl (Nat.le_refl _) rfl (by rw [(dG _ _ _).1];split<;>exact b1) (by rw [(dG _ _ _).2.1];split<;>exact b2) (by rw [(dG _ _ _).2.2];split<;>exact b3)
 ·exact h.aI rfl (Nat.le_refl _) rfl (by rw [(dG _ _ _).1];exact b1) (by rw [(dG _ _ _).2.1];exact b2) (by rw [(dG _ _ _).2.2];exact b3)
 ·refine h.aI rfl (Nat.le_refl _) rfl ?_ ?_ ?_
  ·split
   ·exact b1
   ·rw [(lY _ _).1];exact b1
  ·split
   ·exact b2
   ·rw [(lY _ _).2.1];exact b2
  ·split
   ·exact b3
   ·rw [(lY _ _).2.2];exact b3
 ·refine h.aI rfl (Nat.le_refl _) rfl ?_ ?_ ?_
  ·rw [(dG _ _ _).1]
   split<;>split<;>first|exact b1|(rw [(jY _ _ _ _).1];exact b1)|(show ((aS.apply P n _ _).aW<_);rw [(jY _ _ _ _).1];exact b1)
  ·rw [(dG _ _ _).2.1]
   split<;>split<;>first|exact b2|(rw [(jY _ _ _ _).2.1];exact b2)|(show ((aS.apply P n _ _).found<_);rw [(jY _ _ _ _).2.1];exact b2)
  ·rw [(dG _ _ _).2.2]
   split<;>split<;>first|exact b3|(rw [(jY _ _ _ _).2.2];exact b3)|(show ((aS.apply P n _ _).stamp≤_);rw [(jY _ _ _ _).2.2];exact b3)
 ·split
  ·exact h.aI rfl (Nat.le_refl _) rfl (by rw [(dG _ _ _).1];exact b1) (by rw [(dG _ _ _).2.1];exact b2) (by rw [(dG _ _ _).2.2];exact b3)
  ·exact h.aI rfl (Nat.le_refl _) rfl (by rw [(dG _ _ _).1];exact b1) (by rw [(dG _ _ _).2.1];exact b2) (by rw [(dG _ _ _).2.2];exact b3)
 ·split
  ·rename_i q
   refine ⟨hsp,fun u hu=>?_⟩
   show ((M.aI E.th t _ u).aW<_)∧((M.aI E.th t _ u).found<_)∧((M.aI E.th t _ u).stamp≤(E.th t).stamp+1)
   by_cases c:u=t
   ·subst c;rw [aC];exact ⟨b1,b2,Nat.le_succ _⟩
   ·rw [aD _ _ c]
    obtain ⟨a1,a2,a3⟩:=h.th u hu
    exact ⟨a1,a2,by omega⟩
  ·exact h.aI rfl (Nat.le_refl _) rfl (by rw [(lY _ _).1];exact b1) (by rw [(lY _ _).2.1];exact b2) (by rw [(lY _ _).2.2];exact b3)
 ·exact h.aI rfl (Nat.le_refl _) rfl b1 h.pr b3
 ·exact h.aI rfl (Nat.le_refl _) rfl b1 b2 b3
 ·exact h.aI rfl (Nat.le_refl _) rfl b1 b2 b3
 ·exact h
theorem IL.begin (h:IL n E) (ht:t<n) (o:Op):IL n (M.begin E t o):=by
 obtain ⟨b1,b2,b3⟩:=h.th t ht
 exact h.aI rfl (Nat.le_refl _) rfl b1 b2 b3
end
end Go.Proofs.YtefjhnhdagolhaaGreat.M
namespace Go.Proofs.YtefjhnhdagolhaaGreat.M
section
variable {σ:Type}
def E0 (P:Plain σ) (f:dA σ):cA σ :=
 {cC:=fun _=>0,eS:=fun _ _=>0,rw:=fun _ _=>0,gC:=fun r=>if r=0 then some (⟨P.first,[]⟩,f) else none,dZ:=0,prec:=0
  th:=fun t=>{phase:=0,past:=0,op:=⟨0,0,0⟩,cX:=false,aE:=0,again:=false,spare:=2*t+1,kept:=2*t+2,stamp:=0,aW:=0,dw:=fun _=>0,now:=none,dM:=none,tg:=fun _=>0,aK:=[],heard:=fun _=>0,found:=0,zI:=0,val:=0,ended:=false}}
def Y0:aR:={th:=fun _=>{ops:=[],ended:=0,aL:=0,part:=0,left:=0,aE:=0,tries:=0,stamp:=0,flipped:=fun _=>0,aK:=[]},bs:=[]}
theorem AM (n w:Nat):bits n (fun _=>0) w=0:=by
 have:∀ m,val (II n (fun _=>0) w) m=0:=by
  intro m
  induction m with
  |zero=>rfl
  |succ m ih =>
   have hd:II n (fun _=>0) w m=0:=by unfold II;split<;>rfl
   simp [val,ih,hd]
 unfold bits
 rw [this]
 rfl
theorem RG (P:Plain σ) (n cap:Nat) (f:dA σ):nY P n cap (E0 P f) Y0 (fun _=>0):=by
 refine ⟨fun _=>0,rfl,?_,fun t ht=>?_⟩
 ·exact {fl:=fun t _=>⟨Nat.le_refl _,Nat.zero_le _⟩,VJ:=fun t _=>Nat.le_refl _,vQ:=fun t _ h=>absurd h (Nat.lt_irrefl _),mem:=fun b hb=>absurd hb List.not_mem_nil,cC:=fun w _=>(AM n w).symm,IY:=fun w _=>(AM n w).symm,IZ:=fun t _=>⟨rfl,rfl⟩,zL:=⟨f,rfl⟩,recs:=fun r t _ _=>⟨rfl,rfl⟩,pbN:=fun _=>Nat.le_refl _,pbc:=rfl,nfN:=fun _=>Nat.le_refl _,QW:=fun t _ h=>absurd h (by show ¬(0+2≤0);decide)}
 ·have h0:(Y0.th t).part=0:=rfl
  exact {p1:=by rw [h0];decide,p2:=fun _=>rfl,p3:=fun h=>absurd h0 h,p4:=fun h=>by rw [h0] at h;exact absurd h (by decide),xo:=rfl,xf:=rfl,bk:=rfl,bc:=Nat.zero_le _,ag:=fun h=>absurd h0 h,sD:=rfl,tI:=fun h=>absurd h0 h,c0:=fun _=>⟨rfl,rfl,rfl⟩,c1:=fun h=>by rw [h0] at h;omega,c3:=fun h=>by rw [h0] at h;omega,mK:=fun h=>by rw [h0] at h;omega,NS:=fun h=>by rw [h0] at h;omega,tJ:=fun h=>by rw [h0] at h;omega,sp:=.inl ⟨rfl,rfl⟩,sF:=Nat.succ_ne_zero _,en:=rfl,a0:=fun _ h=>absurd h (Nat.lt_irrefl _),a1:=fun h=>by rw [h0] at h;omega,fd:=fun h=>by rw [h0] at h;omega,t0:=fun h=>by rw [h0] at h;omega,tr:=fun h=>by rw [h0] at h;omega,tn:=fun h=>by rw [h0] at h;omega,s1:=fun h=>by rw [h0] at h;omega,d5:=fun h=>by rw [h0] at h;omega,d6:=fun h=>by rw [h0] at h;omega,d7:=fun h=>by rw [h0] at h;omega,t6:=fun h=>by rw [h0] at h;omega,t7:=fun h=>by rw [h0] at h;omega,h8:=fun h=>by rw [h0] at h;omega,ET:=fun h=>by rw [h0] at h;omega,h9:=fun h=>by rw [h0] at h;omega,w9:=fun h=>by rw [h0] at h;omega,IJ:=fun h=>by rw [h0] at h;omega}
theorem BV (P:Plain σ) (n cap:Nat) (f:dA σ):Inv P n cap (E0 P f) Y0:=by
 obtain ⟨pb,h⟩:=RG P n cap f
 exact ⟨pb,_,h⟩
theorem MK (P:Plain σ) (n:Nat) (f:dA σ):IL n (E0 P f):=⟨Nat.succ_pos _,fun _ _=>⟨Nat.succ_pos _,Nat.succ_pos _,Nat.le_refl _⟩⟩
end
end Go.Proofs.YtefjhnhdagolhaaGreat.M
