import Derived.Test.YtefjhnhdagolhaaGreatQ01
namespace Go.Proofs.YtefjhnhdagolhaaGreat.M
section
variable {σ:Type} {P:Plain σ} {n cap:Nat} {V:View σ} {t:Nat} {e:aS σ} {x:aT}
structure lG (P:Plain σ) (n cap:Nat) (V:View σ) (t:Nat) (e:aS σ) (x:aT):Prop where
 xo:x.ops=V.ops t
 xf:x.aL=V.aL t
 bk:e.aE=x.aE
 bc:x.aE≤cap
 ag:e.again=decide (x.tries=2)
 sD:e.cX=decide (V.aL t % 2=1)
 tI:(V.ops t).length≠0∧e.op=V.op t ((V.ops t).length-1)
 c3:(V.ops t).length=V.aL t∧x.ended+1=V.aL t
 tJ:∀ i,i<3→V.eS t i=e.op.w i
 sp:(e.spare=2*t+1∧e.kept=2*t+2)∨(e.spare=2*t+2∧e.kept=2*t+1)
 sF:e.spare≠V.prec
 en:e.ended=decide (0<x.ended)
 tr:x.tries=1∨x.tries=2
 tn:x.tries=2→V.nf t<V.N
theorem eB.base (h:eB P n cap V t e x) (h3:3≤x.part):lG P n cap V t e x :=
 ⟨h.xo,h.xf,h.bk,h.bc,h.ag (by omega),h.sD,h.tI (by omega),h.c3 h3,h.tJ (by omega),h.sp,h.sF,h.en,h.tr h3,h.tn h3⟩
structure VK (P:Plain σ) (n:Nat) (V:View σ) (t:Nat) (e:aS σ) (x:aT):Prop where
 st:x.stamp=e.stamp
 le:e.stamp≤V.N
 pb:e.stamp≤V.pb e.aW
 cur:e.stamp=V.N→e.aW=V.prec
 nf:V.nf t≤e.stamp
 nf2:x.tries=2→V.nf t<e.stamp
 spb:V.pb e.spare≤e.stamp
 some:(V.gC e.aW).isSome
theorem eB.qT (h:eB P n cap V t e x) (h5:5≤x.part) (FF:x.part≤10):VK P n V t e x:=by
 obtain ⟨a1,a2,a3,a4,a5,a6,a7,a8⟩:=h.s1 h5 FF
 exact ⟨a1,a2,a3,a4,a5,a6,a7,a8⟩
theorem VK.all (h:VK P n V t e x):x.stamp=e.stamp∧e.stamp≤V.N∧e.stamp≤V.pb e.aW∧(e.stamp=V.N→e.aW=V.prec)∧V.nf t≤e.stamp∧(x.tries=2→V.nf t<e.stamp)∧V.pb e.spare≤e.stamp∧(V.gC e.aW).isSome :=
 ⟨h.st,h.le,h.pb,h.cur,h.nf,h.nf2,h.spb,h.some⟩
theorem eB.WE (b:lG P n cap V t e x) (h:x.part=3∨x.part=4) (hp:e.phase=x.part) (hl:e.past+x.left=x.len n x.part∧0<x.left):eB P n cap V t e x :=
 {xo:=b.xo,xf:=b.xf,bk:=b.bk,bc:=b.bc,ag:=fun _=>b.ag,sD:=b.sD,tI:=fun _=>b.tI,c3:=fun _=>b.c3,tJ:=fun _=>b.tJ,sp:=b.sp,sF:=b.sF,en:=b.en,tr:=fun _=>b.tr,tn:=fun _=>b.tn,
  p1:=(by intros;(try dsimp only at *);omega),p2:=fun _=>hp,p3:=fun _ _=>hl,p4:=(by intros;(try dsimp only at *);omega),c0:=(by intros;(try dsimp only at *);omega),t0:=(by intros;(try dsimp only at *);omega),c1:=(by intros;(try dsimp only at *);omega),mK:=(by intros;(try dsimp only at *);omega),NS:=(by intros;(try dsimp only at *);omega),a0:=(by intros;(try dsimp only at *);omega),a1:=(by intros;(try dsimp only at *);omega),fd:=(by intros;(try dsimp only at *);omega),s1:=(by intros;(try dsimp only at *);omega),d5:=(by intros;(try dsimp only at *);omega),d6:=(by intros;(try dsimp only at *);omega),d7:=(by intros;(try dsimp only at *);omega),t6:=(by intros;(try dsimp only at *);omega),t7:=(by intros;(try dsimp only at *);omega),h8:=(by intros;(try dsimp only at *);omega),ET:=(by intros;(try dsimp only at *);omega),h9:=(by intros;(try dsimp only at *);omega),w9:=(by intros;(try dsimp only at *);omega),IJ:=(by intros;(try dsimp only at *);omega)}
theorem eB.QZ (b:lG P n cap V t e x) (h:x.part=11) (hp:1≤x.left∧x.left≤3∧e.phase=14-x.left) (hc:cnt V.bs t=V.aL t) (ha:x.left=1→e.zI=(V.A P t).s) (hf:x.left≤2→V.at (V.pb e.found) t=cnt V.bs t):eB P n cap V t e x :=
 {xo:=b.xo,xf:=b.xf,bk:=b.bk,bc:=b.bc,ag:=fun _=>b.ag,sD:=b.sD,tI:=fun _=>b.tI,c3:=fun _=>b.c3,tJ:=fun _=>b.tJ,sp:=b.sp,sF:=b.sF,en:=b.en,tr:=fun _=>b.tr,tn:=fun _=>b.tn,
  p1:=(by intros;(try dsimp only at *);omega),p2:=(by intros;(try dsimp only at *);omega),p3:=(by intros;(try dsimp only at *);omega),p4:=fun _=>hp,c0:=(by intros;(try dsimp only at *);omega),t0:=(by intros;(try dsimp only at *);omega),c1:=(by intros;(try dsimp only at *);omega),mK:=fun _=>hc,NS:=(by intros;(try dsimp only at *);omega),a0:=(by intros;(try dsimp only at *);omega),a1:=fun _=>ha,fd:=fun _=>hf,s1:=(by intros;(try dsimp only at *);omega),d5:=(by intros;(try dsimp only at *);omega),d6:=(by intros;(try dsimp only at *);omega),d7:=(by intros;(try dsimp only at *);omega),t6:=(by intros;(try dsimp only at *);omega),t7:=(by intros;(try dsimp only at *);omega),h8:=(by intros;(try dsimp only at *);omega),ET:=(by intros;(try dsimp only at *);omega),h9:=(by intros;(try dsimp only at *);omega),w9:=(by intros;(try dsimp only at *);omega),IJ:=(by intros;(try dsimp only at *);omega)}
theorem eB.mk5 (b:lG P n cap V t e x) (a:VK P n V t e x) (h:x.part=5) (hp:e.phase=5) (hl:e.past+x.left=aO n+1∧0<x.left) (hd:iD P n V e.stamp e.past e.dw∧(e.stamp=V.N→∀ i,i<e.past→i<aO n→e.dw i=V.rw V.prec i)):eB P n cap V t e x :=
 {xo:=b.xo,xf:=b.xf,bk:=b.bk,bc:=b.bc,ag:=fun _=>b.ag,sD:=b.sD,tI:=fun _=>b.tI,c3:=fun _=>b.c3,tJ:=fun _=>b.tJ,sp:=b.sp,sF:=b.sF,en:=b.en,tr:=fun _=>b.tr,tn:=fun _=>b.tn,
  p1:=(by intros;(try dsimp only at *);omega),p2:=fun _=>by omega,p3:=fun _ _=>by rw [h];exact hl,p4:=(by intros;(try dsimp only at *);omega),c0:=(by intros;(try dsimp only at *);omega),t0:=(by intros;(try dsimp only at *);omega),c1:=(by intros;(try dsimp only at *);omega),mK:=(by intros;(try dsimp only at *);omega),NS:=(by intros;(try dsimp only at *);omega),a0:=(by intros;(try dsimp only at *);omega),a1:=(by intros;(try dsimp only at *);omega),fd:=(by intros;(try dsimp only at *);omega),s1:=fun _ _=>a.all,d5:=fun _=>hd,d6:=(by intros;(try dsimp only at *);omega),d7:=(by intros;(try dsimp only at *);omega),t6:=(by intros;(try dsimp only at *);omega),t7:=(by intros;(try dsimp only at *);omega),h8:=(by intros;(try dsimp only at *);omega),ET:=(by intros;(try dsimp only at *);omega),h9:=(by intros;(try dsimp only at *);omega),w9:=(by intros;(try dsimp only at *);omega),IJ:=(by intros;(try dsimp only at *);omega)}
structure Cop (P:Plain σ) (n:Nat) (V:View σ) (e:aS σ):Prop where
 d:iD P n V e.stamp (aO n) e.dw
 now:e.now.isSome
 dM:e.dM.isSome
theorem eB.ZY (b:lG P n cap V t e x) (a:VK P n V t e x) (c:Cop P n V e) (h:(x.part=6∧iA n V t e.stamp e.past e.tg x.flipped)∨(x.part=7∧iA n V t e.stamp (tw n) e.tg x.flipped)) (hp:e.phase=x.part) (hl:e.past+x.left=x.len n x.part∧0<x.left)
  (hd:e.stamp=V.N→(∀ i,i<aO n→e.dw i=V.rw V.prec i)∧e.now=some ⟨(V.rp P).st,num V.bs⟩∧e.dM=some ⟨(V.rp P).st,num V.bs⟩):eB P n cap V t e x :=
 {xo:=b.xo,xf:=b.xf,bk:=b.bk,bc:=b.bc,ag:=fun _=>b.ag,sD:=b.sD,tI:=fun _=>b.tI,c3:=fun _=>b.c3,tJ:=fun _=>b.tJ,sp:=b.sp,sF:=b.sF,en:=b.en,tr:=fun _=>b.tr,tn:=fun _=>b.tn,
  p1:=(by intros;(try dsimp only at *);omega),p2:=fun _=>hp,p3:=fun _ _=>hl,p4:=(by intros;(try dsimp only at *);omega),c0:=(by intros;(try dsimp only at *);omega),t0:=(by intros;(try dsimp only at *);omega),c1:=(by intros;(try dsimp only at *);omega),mK:=(by intros;(try dsimp only at *);omega),NS:=(by intros;(try dsimp only at *);omega),a0:=(by intros;(try dsimp only at *);omega),a1:=(by intros;(try dsimp only at *);omega),fd:=(by intros;(try dsimp only at *);omega),s1:=fun _ _=>a.all,d5:=(by intros;(try dsimp only at *);omega),d6:=fun _ _=>⟨c.d,c.now,c.dM⟩,d7:=fun _=>hd,
  t6:=fun q=>(by rcases h with h|h;exact h.2;omega),t7:=fun q _=>(by rcases h with h|h;omega;exact h.2),h8:=(by intros;(try dsimp only at *);omega),ET:=(by intros;(try dsimp only at *);omega),h9:=(by intros;(try dsimp only at *);omega),w9:=(by intros;(try dsimp only at *);omega),IJ:=(by intros;(try dsimp only at *);omega)}
theorem eB.mk8 (b:lG P n cap V t e x) (a:VK P n V t e x) (c:Cop P n V e) (s:iA n V t e.stamp (tw n) e.tg x.flipped) (q:e.aK=x.aK∧nN n V e.stamp t e.aK x.flipped) (h:8≤x.part∧x.part≤10) (hp:e.phase=x.part) (hl:e.past+x.left=x.len n x.part∧0<x.left)
  (ET:x.part=8→e.stamp=V.N→e.dM=some ⟨(V.rp P).st,num V.bs⟩∧e.now=some ⟨((V.rp P).run P V.op (e.aK.take (e.past / 3))).st,num V.bs⟩∧kE n ((V.rp P).run P V.op (e.aK.take (e.past / 3))) e.dw∧∀ q,q<e.past % 3→e.heard q=V.eS (e.aK.getD (e.past / 3) 0) q)
  (h9:x.part=9∨x.part=10→e.stamp=V.N→e.now=some ⟨((V.rp P).run P V.op e.aK).st,num (V.bs++[e.aK])⟩∧kE n ((V.rp P).run P V.op e.aK) e.dw∧∀ w,w<tw n→e.dw w=bits n x.flipped w)
  (w9:x.part=9→∀ i,i<e.past→i<aO n→V.rw e.spare i=e.dw i) (IJ:x.part=10→(∀ i,i<aO n→V.rw e.spare i=e.dw i)∧V.gC e.spare=e.now.bind fun v=>e.dM.map fun f=>(v,f)):eB P n cap V t e x :=
 {xo:=b.xo,xf:=b.xf,bk:=b.bk,bc:=b.bc,ag:=fun _=>b.ag,sD:=b.sD,tI:=fun _=>b.tI,c3:=fun _=>b.c3,tJ:=fun _=>b.tJ,sp:=b.sp,sF:=b.sF,en:=b.en,tr:=fun _=>b.tr,tn:=fun _=>b.tn,
  p1:=(by intros;(try dsimp only at *);omega),p2:=fun _=>hp,p3:=fun _ _=>hl,p4:=(by intros;(try dsimp only at *);omega),c0:=(by intros;(try dsimp only at *);omega),t0:=(by intros;(try dsimp only at *);omega),c1:=(by intros;(try dsimp only at *);omega),mK:=(by intros;(try dsimp only at *);omega),NS:=(by intros;(try dsimp only at *);omega),a0:=(by intros;(try dsimp only at *);omega),a1:=(by intros;(try dsimp only at *);omega),fd:=(by intros;(try dsimp only at *);omega),s1:=fun _ _=>a.all,d5:=(by intros;(try dsimp only at *);omega),d6:=fun _ _=>⟨c.d,c.now,c.dM⟩,d7:=(by intros;(try dsimp only at *);omega),t6:=(by intros;(try dsimp only at *);omega),t7:=fun _ _=>s,h8:=fun _ _=>q,ET:=ET,h9:=h9,w9:=w9,IJ:=IJ}
theorem lG.with {e':aS σ} {x':aT} (b:lG P n cap V t e x) (h1:x'.ops=x.ops) (h2:x'.aL=x.aL) (h3:e'.aE=x'.aE) (h4:x'.aE≤cap) (h5:e'.again=decide (x'.tries=2)) (h6:e'.cX=e.cX) (h7:e'.op=e.op) (h8:x'.ended=x.ended) (h9:e'.spare=e.spare) (FF:e'.kept=e.kept) (MI:e'.ended=e.ended)
  (h12:x'.tries=1∨x'.tries=2) (JB:x'.tries=2→V.nf t<V.N):lG P n cap V t e' x' :=
 ⟨h1.trans b.xo,h2.trans b.xf,h3,h4,h5,h6.trans b.sD,⟨b.tI.1,h7.trans b.tI.2⟩,by rw [h8];exact b.c3,by rw [h7];exact b.tJ,by rw [h9,FF];exact b.sp,by rw [h9];exact b.sF,by rw [h8,MI];exact b.en,h12,JB⟩
theorem eB.bK {e1:aS σ} {x1:aT} (b:lG P n cap V t e1 x1):eB P n cap V t e1.bK (x1.enter n 3):=by
 by_cases h:x1.aE=0
 ·have e2:x1.enter n 3 = {x1 with part:=4,left:=1}:=by simp [aT.enter,aT.len,h]
  have e3:e1.bK=e1.enter 4:=by unfold aS.bK;rw [if_neg (by rw [b.bk];omega)]
  rw [e2,e3]
  refine eB.WE ⟨b.xo,b.xf,b.bk,b.bc,b.ag,b.sD,b.tI,b.c3,b.tJ,b.sp,b.sF,b.en,b.tr,b.tn⟩ (.inr rfl) rfl ⟨rfl,(by intros;(try dsimp only at *);omega)⟩
 ·have e2:x1.enter n 3 = {x1 with part:=3,left:=x1.aE}:=by simp [aT.enter,aT.len,h]
  have e3:e1.bK=e1.enter 3:=by unfold aS.bK;rw [if_pos (by rw [b.bk];omega)]
  rw [e2,e3]
  refine eB.WE ⟨b.xo,b.xf,b.bk,b.bc,b.ag,b.sD,b.tI,b.c3,b.tJ,b.sp,b.sF,b.en,b.tr,b.tn⟩ (.inl rfl) rfl ⟨?_,by show 0<x1.aE;omega⟩
  show 0+x1.aE=_
  simp [aT.len]
theorem eB.failed (b:lG P n cap V t e x) (a:VK P n V t e x) (hG:fK P n V) (ht:t<n) (hs:e.stamp≠V.N):eB P n cap V t (e.fail cap) (x.fail n cap):=by
 have hN:V.nf t<V.N:=by have:=a.le;have:=a.nf;omega
 unfold aS.fail aT.fail
 rw [b.ag]
 by_cases h:x.tries=2
 ·rw [if_pos h,if_pos (by simpa using h)]
  have e2:aT.enter n {x with aE:=min (2*x.aE+1) cap} 11 = {x with aE:=min (2*x.aE+1) cap,part:=11,left:=3}:=by simp [aT.enter,aT.len]
  rw [e2]
  have hc:V.aL t=cnt V.bs t:=hG.QW t ht (by have:=a.nf2 h;have:=a.le;omega)
  refine eB.QZ (b.with rfl rfl (by show min _ _=min _ _;rw [b.bk]) (Nat.min_le_right _ _) rfl rfl rfl rfl rfl rfl rfl b.tr b.tn) rfl ⟨(by intros;(try dsimp only at *);omega),(by intros;(try dsimp only at *);omega),rfl⟩ hc.symm (by intros;(try dsimp only at *);omega) (by intros;(try dsimp only at *);omega)
 ·rw [if_neg h,if_neg (by simpa using h)]
  exact eB.bK (b.with rfl rfl (by show min _ _=min _ _;rw [b.bk]) (Nat.min_le_right _ _) rfl rfl rfl rfl rfl rfl rfl (.inr rfl) (fun _=>hN))
end
end Go.Proofs.YtefjhnhdagolhaaGreat.M
namespace Go.Proofs.YtefjhnhdagolhaaGreat.M
section
variable {σ:Type} {P:Plain σ} {n cap:Nat} {V:View σ} {t:Nat} {e:aS σ} {x:aT}
theorem lG.same {e':aS σ} {x':aT} (b:lG P n cap V t e x) (h1:x'.ops=x.ops) (h2:x'.aL=x.aL) (h3:e'.aE=e.aE) (h4:x'.aE=x.aE) (h5:e'.again=e.again) (h5':x'.tries=x.tries) (h6:e'.cX=e.cX) (h7:e'.op=e.op) (h8:x'.ended=x.ended) (h9:e'.spare=e.spare) (FF:e'.kept=e.kept) (MI:e'.ended=e.ended):lG P n cap V t e' x' :=
 b.with h1 h2 (by rw [h3,h4];exact b.bk) (by rw [h4];exact b.bc) (by rw [h5,h5'];exact b.ag) h6 h7 h8 h9 FF MI (by rw [h5'];exact b.tr) (by rw [h5'];exact b.tn)
theorem VK.same {e':aS σ} {x':aT} (a:VK P n V t e x) (h1:x'.stamp=x.stamp) (h2:e'.stamp=e.stamp) (h3:e'.aW=e.aW) (h4:x'.tries=x.tries) (h5:e'.spare=e.spare):VK P n V t e' x' :=
 ⟨by rw [h1,h2];exact a.st,by rw [h2];exact a.le,by rw [h2,h3];exact a.pb,by rw [h2,h3];exact a.cur,by rw [h2];exact a.nf,by rw [h2,h4];exact a.nf2,by rw [h2,h5];exact a.spb,by rw [h3];exact a.some⟩
theorem ZZ (hn:0<n):0<tw n:=by unfold tw;omega
theorem aEF (h:eB P n cap V t e x) (hp:x.part=3):(1<x.left→eB P n cap V t (e.pass e.aE 4) {x with left:=x.left-1})∧(x.left=1→eB P n cap V t (e.pass e.aE 4) (aT.enter n {x with left:=0} 4)):=by
 have b:=h.base (by omega)
 obtain ⟨l1,l2⟩:=h.p3 (by omega) (by omega)
 have l3:x.len n x.part=x.aE:=by rw [hp];simp [aT.len]
 have hb:=b.bk
 constructor
 ·intro hl
  have e1:e.pass e.aE 4 = {e with past:=e.past+1}:=by unfold aS.pass;rw [if_neg (by omega)]
  rw [e1]
  refine eB.WE (b.same rfl rfl rfl rfl rfl rfl rfl rfl rfl rfl rfl rfl) (.inl hp) (h.p2 (by omega)) ⟨?_,by show 0<x.left-1;omega⟩
  show e.past+1+(x.left-1)=aT.len n x x.part
  omega
 ·intro hl
  have e1:e.pass e.aE 4=e.enter 4:=by unfold aS.pass;rw [if_pos (by omega)]
  have e2:aT.enter n {x with left:=0} 4 = {x with part:=4,left:=1}:=by simp [aT.enter,aT.len]
  rw [e1,e2]
  exact eB.WE (b.same rfl rfl rfl rfl rfl rfl rfl rfl rfl rfl rfl rfl) (.inr rfl) rfl ⟨rfl,(by intros;(try dsimp only at *);omega)⟩
theorem aEG (h:eB P n cap V t e x) (hG:fK P n V) (hp:x.part=4):x.left=1∧eB P n cap V t (aS.enter {e with stamp:=V.N,aW:=V.prec} 5) (aT.enter n {x with left:=0,stamp:=V.N} 5):=by
 have b:=h.base (by omega)
 obtain ⟨l1,l2⟩:=h.p3 (by omega) (by omega)
 have l3:x.len n x.part=1:=by rw [hp];simp [aT.len]
 refine ⟨by omega,?_⟩
 have e2:aT.enter n {x with left:=0,stamp:=V.N} 5 = {x with part:=5,left:=aO n+1,stamp:=V.N}:=by simp [aT.enter,aT.len]
 rw [e2]
 obtain ⟨f,hf⟩:=hG.zL
 refine eB.mk5 (b.same rfl rfl rfl rfl rfl rfl rfl rfl rfl rfl rfl rfl) ⟨rfl,Nat.le_refl _,by show V.N≤V.pb V.prec;rw [hG.pbc];exact Nat.le_refl _,fun _=>rfl,hG.nfN t,b.tn,hG.pbN _,by show (V.gC V.prec).isSome=true;rw [hf];rfl⟩ rfl rfl ⟨?_,(by intros;(try dsimp only at *);omega)⟩ ⟨fun k _ _=>⟨fun q=>absurd q (Nat.not_lt_zero _),fun q=>absurd q (Nat.not_lt_zero _)⟩,fun _ i hi=>absurd hi (Nat.not_lt_zero _)⟩
 show 0+(aO n+1)=_
 omega
theorem aB9 (h:eB P n cap V t e x) (hG:fK P n V) (hp:x.part=5) (hw:e.past<aO n):1<x.left∧eB P n cap V t (aS.pass {e with dw:=aI e.dw e.past (V.rw e.aW e.past)} (aO n+1) 6) {x with left:=x.left-1}:=by
 have b:=h.base (by omega)
 have a:=h.qT (by omega) (by omega)
 obtain ⟨l1,l2⟩:=h.p3 (by omega) (by omega)
 have l3:x.len n x.part=aO n+1:=by rw [hp];simp [aT.len]
 refine ⟨by omega,?_⟩
 have e1:aS.pass {e with dw:=aI e.dw e.past (V.rw e.aW e.past)} (aO n+1) 6 = {e with dw:=aI e.dw e.past (V.rw e.aW e.past),past:=e.past+1}:=by unfold aS.pass;rw [if_neg (by dsimp only;omega)]
 rw [e1]
 obtain ⟨d1,d2⟩:=h.d5 hp
 refine eB.mk5 (b.same rfl rfl rfl rfl rfl rfl rfl rfl rfl rfl rfl rfl) (a.same rfl rfl rfl rfl rfl) hp ((h.p2 (by omega)).trans hp) ⟨by show e.past+1+(x.left-1)=_;omega,by show 0<x.left-1;omega⟩ ⟨?_,?_⟩
 ·intro k hk hq
  obtain ⟨f1,f2⟩:=d1 k hk hq
  obtain ⟨g1,g2⟩:=hG.recs e.aW k hk (quiet_mono a.pb hq)
  constructor
  ·intro q
   show aI e.dw e.past (V.rw e.aW e.past) (aG n k)=_
   have q':aG n k<e.past+1:=q
   by_cases c:aG n k=e.past
   ·rw [c,aC,←c];exact g1
   ·rw [aD _ _ c];exact f1 (by omega)
  ·intro q
   show aI e.dw e.past (V.rw e.aW e.past) (aJ n k)=_
   have q':aJ n k<e.past+1:=q
   by_cases c:aJ n k=e.past
   ·rw [c,aC,←c];exact g2
   ·rw [aD _ _ c];exact f2 (by omega)
 ·intro q i hi hi2
  show aI e.dw e.past (V.rw e.aW e.past) i=_
  have hi':i<e.past+1:=hi
  by_cases c:i=e.past
  ·rw [c,aC,a.cur q]
  ·rw [aD _ _ c];exact d2 q i (by omega) hi2
theorem aCa (hn:0<n) (h:eB P n cap V t e x) (hG:fK P n V) (hp:x.part=5) (hw:¬e.past<aO n):x.left=1∧eB P n cap V t (aS.pass {e with now:=(V.gC e.aW).map Prod.fst,dM:=(V.gC e.aW).map Prod.fst} (aO n+1) 6) (aT.enter n {x with left:=0} 6):=by
 have b:=h.base (by omega)
 have a:=h.qT (by omega) (by omega)
 obtain ⟨l1,l2⟩:=h.p3 (by omega) (by omega)
 have l3:x.len n x.part=aO n+1:=by rw [hp];simp [aT.len]
 refine ⟨by omega,?_⟩
 have RA:e.past=aO n:=by omega
 have MJ:=ZZ hn
 have e1:aS.pass {e with now:=(V.gC e.aW).map Prod.fst,dM:=(V.gC e.aW).map Prod.fst} (aO n+1) 6 = {e with now:=(V.gC e.aW).map Prod.fst,dM:=(V.gC e.aW).map Prod.fst,phase:=6,past:=0}:=by unfold aS.pass;rw [if_pos (by dsimp only;omega)];rfl
 have e2:aT.enter n {x with left:=0} 6 = {x with part:=6,left:=tw n}:=by
  have:tw n≠0:=by omega
  simp [aT.enter,aT.len,this]
 rw [e1,e2]
 obtain ⟨d1,d2⟩:=h.d5 hp
 rw [RA] at d1 d2
 refine eB.ZY (b.same rfl rfl rfl rfl rfl rfl rfl rfl rfl rfl rfl rfl) (a.same rfl rfl rfl rfl rfl) ⟨d1,by simpa using a.some,by simpa using a.some⟩ (.inl ⟨rfl,fun w hw=>absurd hw (Nat.not_lt_zero _),fun k _ hk=>absurd hk (Nat.not_lt_zero _)⟩) rfl ⟨?_,MJ⟩ ?_
 ·show 0+tw n=_
  simp [aT.len]
 ·intro q
  obtain ⟨f,hf⟩:=hG.zL
  have:(V.gC e.aW).map Prod.fst=some ⟨(V.rp P).st,num V.bs⟩:=by rw [a.cur q,hf];rfl
  exact ⟨fun i hi=>d2 q i hi hi,this,this⟩
theorem aEH (h:eB P n cap V t e x) (hG:fK P n V) (hp:x.part=6) (fd:Nat→Nat) (hfd:fd=fun k=>if k / 16=tw n-(x.left-1)-1∧k<n then V.aL k else x.flipped k) :
  (1<x.left→eB P n cap V t (aS.pass {e with tg:=aI e.tg e.past (V.cC e.past)} (tw n) 7) {x with left:=x.left-1,flipped:=fd})∧(x.left=1→eB P n cap V t (aS.pass {e with tg:=aI e.tg e.past (V.cC e.past)} (tw n) 7) (aT.enter n {x with left:=0,flipped:=fd} 7)):=by
 have b:=h.base (by omega)
 have a:=h.qT (by omega) (by omega)
 obtain ⟨l1,l2⟩:=h.p3 (by omega) (by omega)
 have l3:x.len n x.part=tw n:=by rw [hp];simp [aT.len]
 have RA:tw n-(x.left-1)-1=e.past:=by omega
 rw [RA] at hfd
 obtain ⟨c1,c2,c3⟩:=h.d6 (by omega) (by omega)
 obtain ⟨s1,s2⟩:=h.t6 hp
 have hsc:iA n V t e.stamp (e.past+1) (aI e.tg e.past (V.cC e.past)) fd:=by
  refine ⟨fun w hw=>?_,fun k hk hkc=>?_⟩
  ·by_cases c:w=e.past
   ·subst c
    rw [aC,hG.cC _ (by omega)]
    apply mM
    intro k fZ hk2
    rw [hfd]
    simp [fZ,hk2]
   ·rw [aD _ _ c,s1 w (by omega)]
    apply mM
    intro k fZ hk2
    rw [hfd]
    have:¬(k / 16=e.past∧k<n):=by omega
    simp only [this,if_false]
  ·rw [hfd]
   by_cases c:k / 16=e.past
   ·simp only [c,hk,and_self,if_true]
    have:=jG V.bs e.stamp k
    have h2:=(hG.fl k hk).1
    exact ⟨by show cnt (V.bs.take e.stamp) k≤_;omega,Nat.le_refl _,fun _=>trivial⟩
   ·have:¬(k / 16=e.past∧k<n):=by omega
    simp only [this,if_false]
    exact s2 k hk (by omega)
 have hd:=h.d7 (.inl hp)
 constructor
 ·intro hl
  have e1:aS.pass {e with tg:=aI e.tg e.past (V.cC e.past)} (tw n) 7 = {e with tg:=aI e.tg e.past (V.cC e.past),past:=e.past+1}:=by unfold aS.pass;rw [if_neg (by dsimp only;omega)]
  rw [e1]
  refine eB.ZY (b.same rfl rfl rfl rfl rfl rfl rfl rfl rfl rfl rfl rfl) (a.same rfl rfl rfl rfl rfl) ⟨c1,c2,c3⟩ (.inl ⟨hp,hsc⟩) (h.p2 (by omega)) ⟨?_,by show 0<x.left-1;omega⟩ hd
  show e.past+1+(x.left-1)=aT.len n {x with left:=x.left-1,flipped:=fd} x.part
  have:aT.len n {x with left:=x.left-1,flipped:=fd} x.part=x.len n x.part:=by rw [hp];rfl
  omega
 ·intro hl
  have e1:aS.pass {e with tg:=aI e.tg e.past (V.cC e.past)} (tw n) 7 = {e with tg:=aI e.tg e.past (V.cC e.past),phase:=7,past:=0}:=by unfold aS.pass;rw [if_pos (by dsimp only;omega)];rfl
  have e2:aT.enter n {x with left:=0,flipped:=fd} 7 = {x with part:=7,left:=1,flipped:=fd}:=by simp [aT.enter,aT.len]
  rw [e1,e2]
  rw [show e.past+1=tw n by omega] at hsc
  exact eB.ZY (b.same rfl rfl rfl rfl rfl rfl rfl rfl rfl rfl rfl rfl) (a.same rfl rfl rfl rfl rfl) ⟨c1,c2,c3⟩ (.inr ⟨rfl,hsc⟩) rfl ⟨rfl,(by intros;(try dsimp only at *);omega)⟩ hd
end
end Go.Proofs.YtefjhnhdagolhaaGreat.M
namespace Go.Proofs.YtefjhnhdagolhaaGreat.M
section
variable {σ:Type} {P:Plain σ} {n cap:Nat} {V:View σ} {t:Nat} {e:aS σ} {x:aT}
theorem JC (h:eB P n cap V t e x) (hG:fK P n V) (hp:x.part=7) (hs:e.stamp=V.N) :
  e.waiting n=(List.range n).filter (fun k=>decide ((x.flipped k+cnt V.bs k) % 2=1))∧e.waiting n=(List.range n).filter (fun k=>decide (x.flipped k=V.at e.stamp k+1))∧∀ k,k<n→x.flipped k≤V.at e.stamp k+1:=by
 obtain ⟨s1,s2⟩:=h.t7 (by omega) (by omega)
 obtain ⟨d1,-,-⟩:=h.d7 (.inr hp) hs
 have key:∀ k,k<n→cnt V.bs k≤x.flipped k∧x.flipped k≤cnt V.bs k+1:=fun k hk=>by
  obtain ⟨a1,a2,-⟩:=s2 k hk (uL hk)
  rw [jL V hs] at a1
  have:=(hG.fl k hk).2
  omega
 have w1:∀ k,k<n→eT e.tg k=decide (x.flipped k % 2=1):=fun k hk=>uK n _ _ k hk (s1 _ (uL hk))
 have w2:∀ k,k<n→eT e.dw k=decide (cnt V.bs k % 2=1):=fun k hk=>uK n _ _ k hk (by
  have:=uL hk
  rw [d1 _ (by unfold aO;omega),hG.IY _ this])
 refine ⟨?_,?_,fun k hk=>by rw [jL V hs];exact (key k hk).2⟩
 ·unfold aS.waiting
  apply List.filter_congr
  intro k hk
  have hk:=List.mem_range.1 hk
  rw [w1 k hk,w2 k hk]
  have:=key k hk
  by_cases q:x.flipped k=cnt V.bs k
  ·rw [q]
   have:¬(cnt V.bs k+cnt V.bs k) % 2=1:=by omega
   simp [this]
  ·rw [show x.flipped k=cnt V.bs k+1 by omega]
   have:(cnt V.bs k+1+cnt V.bs k) % 2=1:=by omega
   rw [this]
   by_cases r:cnt V.bs k % 2=1
   ·have:¬(cnt V.bs k+1) % 2=1:=by omega
    simp [r,this]
   ·have:(cnt V.bs k+1) % 2=1:=by omega
    simp [r,this]
 ·unfold aS.waiting
  apply List.filter_congr
  intro k hk
  have hk:=List.mem_range.1 hk
  rw [w1 k hk,w2 k hk,jL V hs]
  have:=key k hk
  by_cases q:x.flipped k=cnt V.bs k
  ·rw [q];simp
  ·rw [show x.flipped k=cnt V.bs k+1 by omega]
   by_cases r:cnt V.bs k % 2=1
   ·have:¬(cnt V.bs k+1) % 2=1:=by omega
    simp [r,this]
   ·have:(cnt V.bs k+1) % 2=1:=by omega
    simp [r,this]
theorem aEI (ht:t<n) (h:eB P n cap V t e x) (hG:fK P n V) (hp:x.part=7) :
  x.left=1∧(e.stamp≠V.N→eB P n cap V t (e.fail cap) (aT.fail n cap {x with left:=0})) ∧
  (e.stamp=V.N→∀ pd,pd=(List.range n).filter (fun k=>decide ((x.flipped k+cnt V.bs k) % 2=1))→e.waiting n=pd∧eB P n cap V t (aS.enter {e with aK:=pd} (if t∈pd then 8 else 11)) (aT.enter n {x with left:=0,aK:=pd} (if t∈pd then 8 else 11))):=by
 have b:=h.base (by omega)
 have a:=h.qT (by omega) (by omega)
 obtain ⟨l1,l2⟩:=h.p3 (by omega) (by omega)
 have l3:x.len n x.part=1:=by rw [hp];simp [aT.len]
 refine ⟨by omega,fun hs=>?_,fun hs pd EV=>?_⟩
 ·exact eB.failed (x:={x with left:=0}) (b.same rfl rfl rfl rfl rfl rfl rfl rfl rfl rfl rfl rfl) (a.same rfl rfl rfl rfl rfl) hG ht hs
 ·obtain ⟨q1,q2,q3⟩:=JC h hG hp hs
  rw [←EV] at q1
  rw [q1] at q2
  refine ⟨q1,?_⟩
  obtain ⟨c1,c2,c3⟩:=h.d6 (by omega) (by omega)
  obtain ⟨d1,d2,d3⟩:=h.d7 (.inr hp) hs
  have sc:=h.t7 (by omega) (by omega)
  by_cases hm:t∈pd
  ·rw [if_pos hm]
   have hlen:pd.length≠0:=by
    intro q
    rw [List.length_eq_zero_iff.1 q] at hm
    simp at hm
   have e2:aT.enter n {x with left:=0,aK:=pd} 8 = {x with part:=8,left:=3*pd.length,aK:=pd}:=by
    have:¬3*pd.length=0:=by omega
    simp [aT.enter,aT.len,this]
   rw [e2]
   refine eB.mk8 (b.same rfl rfl rfl rfl rfl rfl rfl rfl rfl rfl rfl rfl) (a.same rfl rfl rfl rfl rfl) ⟨c1,c2,c3⟩ sc ⟨rfl,q2,hm,q3⟩ ⟨(by intros;(try dsimp only at *);omega),(by intros;(try dsimp only at *);omega)⟩ rfl ⟨?_,by show 0<3*pd.length;omega⟩ ?_ (by intros;(try dsimp only at *);omega) (by intros;(try dsimp only at *);omega) (by intros;(try dsimp only at *);omega)
   ·show 0+3*pd.length=_
    simp [aT.len]
   ·intro _ _
    have hr:(V.rp P).run P V.op (pd.take (0 / 3))=V.rp P:=rfl
    show e.dM=_∧e.now=some ⟨((V.rp P).run P V.op (pd.take (0 / 3))).st,num V.bs⟩∧kE n ((V.rp P).run P V.op (pd.take (0 / 3))) e.dw∧∀ q,q<0 % 3→_
    rw [hr]
    refine ⟨d3,d2,fun k hk=>?_,fun q hq=>absurd hq (Nat.not_lt_zero _)⟩
    obtain ⟨g1,g2⟩:=hG.IZ k hk
    have i1:aG n k<aO n:=by unfold aG aO;omega
    have i2:aJ n k<aO n:=by unfold aJ aO;omega
    exact ⟨(d1 _ i1).trans g1,(d1 _ i2).trans g2⟩
  ·rw [if_neg hm]
   have e2:aT.enter n {x with left:=0,aK:=pd} 11 = {x with part:=11,left:=3,aK:=pd}:=by simp [aT.enter,aT.len]
   rw [e2]
   refine eB.QZ (b.same rfl rfl rfl rfl rfl rfl rfl rfl rfl rfl rfl rfl) rfl ⟨(by intros;(try dsimp only at *);omega),(by intros;(try dsimp only at *);omega),rfl⟩ ?_ (by intros;(try dsimp only at *);omega) (by intros;(try dsimp only at *);omega)
   have o1:=(sc.2 t ht (uL ht)).2.2 (.inl rfl)
   have o2:=hG.fl t ht
   have o3:x.flipped t≠V.at e.stamp t+1:=fun q=>hm (by rw [q2,List.mem_filter];exact ⟨List.mem_range.2 ht,decide_eq_true q⟩)
   rw [jL V hs] at o3
   omega
theorem aCb (ht:t<n) (h:eB P n cap V t e x) (hG:fK P n V) (hp:x.part=11) :
  (x.left=3→eB P n cap V t (aS.enter {e with found:=V.prec} 12) {x with left:=x.left-1}) ∧
  (x.left=2→eB P n cap V t (aS.enter {e with zI:=V.rw e.found (aG n t)} 13) {x with left:=x.left-1}) ∧
  (x.left=1→eB P n cap V t (aS.enter {e with val:=V.rw e.found (aJ n t),ended:=true} 0) {x with left:=0,part:=0,ended:=x.ended+1}):=by
 have b:=h.base (by omega)
 have hc:=h.mK hp
 refine ⟨fun hl=>?_,fun hl=>?_,fun hl=>?_⟩
 ·refine eB.QZ (b.same rfl rfl rfl rfl rfl rfl rfl rfl rfl rfl rfl rfl) hp ⟨(by intros;(try dsimp only at *);omega),(by intros;(try dsimp only at *);omega),by show 12=14-(x.left-1);omega⟩ hc (fun q=>absurd (show x.left-1=1 from q) (by omega)) (fun _=>?_)
  show V.at (V.pb V.prec) t=_
  rw [hG.pbc]
  exact jL V rfl t
 ·obtain ⟨g1,g2⟩:=hG.recs e.found t ht ⟨hc.symm,h.fd hp (by omega)⟩
  exact eB.QZ (b.same rfl rfl rfl rfl rfl rfl rfl rfl rfl rfl rfl rfl) hp ⟨(by intros;(try dsimp only at *);omega),(by intros;(try dsimp only at *);omega),by show 13=14-(x.left-1);omega⟩ hc (fun _=>g1) (fun _=>h.fd hp (by omega))
 ·obtain ⟨g1,g2⟩:=hG.recs e.found t ht ⟨hc.symm,h.fd hp (by omega)⟩
  have aEJ:=h.a1 hp hl
  exact {xo:=b.xo,xf:=b.xf,bk:=b.bk,bc:=b.bc,sD:=b.sD,sp:=b.sp,sF:=b.sF,p1:=(by intros;(try dsimp only at *);omega),p2:=fun _=>rfl,en:=by simp [aS.enter],c0:=fun _=>⟨b.c3.1,b.c3.2,hc⟩,a0:=fun _ _=>⟨aEJ,g2⟩,ag:=(by intros;(try dsimp only at *);omega),tI:=(by intros;(try dsimp only at *);omega),c3:=(by intros;(try dsimp only at *);omega),tJ:=(by intros;(try dsimp only at *);omega),tr:=(by intros;(try dsimp only at *);omega),tn:=(by intros;(try dsimp only at *);omega),p3:=(by intros;(try dsimp only at *);omega),p4:=(by intros;(try dsimp only at *);omega),c1:=(by intros;(try dsimp only at *);omega),t0:=(by intros;(try dsimp only at *);omega),mK:=(by intros;(try dsimp only at *);omega),NS:=(by intros;(try dsimp only at *);omega),a1:=(by intros;(try dsimp only at *);omega),fd:=(by intros;(try dsimp only at *);omega),s1:=(by intros;(try dsimp only at *);omega),d5:=(by intros;(try dsimp only at *);omega),d6:=(by intros;(try dsimp only at *);omega),d7:=(by intros;(try dsimp only at *);omega),t6:=(by intros;(try dsimp only at *);omega),t7:=(by intros;(try dsimp only at *);omega),h8:=(by intros;(try dsimp only at *);omega),ET:=(by intros;(try dsimp only at *);omega),h9:=(by intros;(try dsimp only at *);omega),w9:=(by intros;(try dsimp only at *);omega),IJ:=(by intros;(try dsimp only at *);omega)}
end
end Go.Proofs.YtefjhnhdagolhaaGreat.M
namespace Go.Proofs.YtefjhnhdagolhaaGreat.M
section
variable {σ:Type} {P:Plain σ} {n cap:Nat} {V:View σ} {t:Nat} {e:aS σ} {x:aT}
theorem uO {ops:Nat→Nat→Op} {r:Rp σ} {dw:Nat→Int} {k:Nat} {o:Op} (hk:k<n) (ha:kE n r dw) (ho:ops k (r.c k)=o) :
  kE n (r.next P ops k) (aI (aI dw (aG n k) (P.apply r.st o).2.s) (aJ n k) (P.apply r.st o).2.v):=by
 subst ho
 intro q hq
 have i1:aG n q≠aJ n k:=by unfold aG aJ;omega
 rw [aD _ _ i1]
 by_cases c:q=k
 ·subst c
  rw [aC,aC]
  exact ⟨by simp [Rp.next,aC],by simp [Rp.next,aC]⟩
 ·have i2:aG n q≠aG n k:=by unfold aG;omega
  have i3:aJ n q≠aJ n k:=by unfold aJ;omega
  have i4:aJ n q≠aG n k:=by unfold aJ aG;omega
  rw [aD _ _ i2,aD _ _ i3,aD _ _ i4]
  rw [show (r.next P ops k).an q=r.an q from aD _ _ c]
  exact ha q hq
theorem nZ {s:Nat} {dw:Nat→Int} {k:Nat} {u v:Int} (hk:k<n) (hq:¬V.quiet s k) (h:iD P n V s (aO n) dw):iD P n V s (aO n) (aI (aI dw (aG n k) u) (aJ n k) v):=by
 intro q hqn hqq
 have c:q≠k:=by rintro rfl;exact hq hqq
 have i1:aG n q≠aJ n k:=by unfold aG aJ;omega
 have i2:aG n q≠aG n k:=by unfold aG;omega
 have i3:aJ n q≠aJ n k:=by unfold aJ;omega
 have i4:aJ n q≠aG n k:=by unfold aJ aG;omega
 rw [aD _ _ i1,aD _ _ i2,aD _ _ i3,aD _ _ i4]
 exact h q hqn hqq
theorem BS {s:Nat} {dw tg:Nat→Int} (h:iD P n V s (aO n) dw):iD P n V s (aO n) (fun i=>if i<tw n then tg i else dw i):=by
 intro q hqn hqq
 have i1:¬aG n q<tw n:=by unfold aG;omega
 have i2:¬aJ n q<tw n:=by unfold aJ;omega
 simp only [i1,i2,if_false]
 exact h q hqn hqq
theorem NU {r:Rp σ} {dw tg:Nat→Int} (h:kE n r dw):kE n r (fun i=>if i<tw n then tg i else dw i):=by
 intro q hqn
 have i1:¬aG n q<tw n:=by unfold aG;omega
 have i2:¬aJ n q<tw n:=by unfold aJ;omega
 simp only [i1,i2,if_false]
 exact h q hqn
theorem aEK (h:eB P n cap V t e x) (hG:fK P n V) (hp:x.part=8) (e3:aS σ) (k:Nat) (hk:k=e.aK.getD (e.past / 3) 0)
  (RB:e3=(if e.past+1=3*e.aK.length then aS.close n (if e.past % 3=2 then aS.apply P n {e with heard:=aI e.heard (e.past % 3) (V.eS k (e.past % 3))} k else {e with heard:=aI e.heard (e.past % 3) (V.eS k (e.past % 3))}) else (if e.past % 3=2 then aS.apply P n {e with heard:=aI e.heard (e.past % 3) (V.eS k (e.past % 3))} k else {e with heard:=aI e.heard (e.past % 3) (V.eS k (e.past % 3))}))) :
  k<n∧(1<x.left→eB P n cap V t (e3.pass (3*e.aK.length) 9) {x with left:=x.left-1})∧(x.left=1→eB P n cap V t (e3.pass (3*e.aK.length) 9) (aT.enter n {x with left:=0} 9)):=by
 have b:=h.base (by omega)
 have a:=h.qT (by omega) (by omega)
 obtain ⟨l1,l2⟩:=h.p3 (by omega) (by omega)
 obtain ⟨q1,q2⟩:=h.h8 (by omega) (by omega)
 have sc:=h.t7 (by omega) (by omega)
 have l3:x.len n x.part=3*e.aK.length:=by rw [hp,q1];simp [aT.len]
 obtain ⟨c1,c2,c3⟩:=h.d6 (by omega) (by omega)
 have hi:e.past / 3<e.aK.length:=by omega
 have wF:e.aK[e.past / 3]?=some k:=by rw [List.getElem?_eq_getElem hi,hk,List.getD_eq_getElem?_getD,List.getElem?_eq_getElem hi];rfl
 have hkm:k∈e.aK:=List.mem_of_getElem? wF
 obtain ⟨k1,k2⟩:=q2.mem.1 hkm
 have hfl:=(sc.2 k k1 (uL k1)).2.1
 have hnq:¬V.quiet e.stamp k:=by rintro ⟨u1,u2⟩;omega
 have h8:=h.ET hp
 obtain ⟨v,hv⟩:=Option.isSome_iff_exists.1 c2
 refine ⟨k1,?_,?_⟩
 ·intro hl
  rw [if_neg (by omega)] at RB
  by_cases hj:e.past % 3=2
  ·rw [if_pos hj] at RB
   have e1:e3 = {e with heard:=aI e.heard (e.past % 3) (V.eS k (e.past % 3)),now:=some {v with st:=(P.apply v.st (eO (aI e.heard (e.past % 3) (V.eS k (e.past % 3))))).1},dw:=aI (aI e.dw (aG n k) (P.apply v.st (eO (aI e.heard (e.past % 3) (V.eS k (e.past % 3))))).2.s) (aJ n k) (P.apply v.st (eO (aI e.heard (e.past % 3) (V.eS k (e.past % 3))))).2.v}:=by
    rw [RB];unfold aS.apply;simp only [hv]
   have hps:e3.pass (3*e.aK.length) 9 = {e3 with past:=e.past+1}:=by
    rw [e1];unfold aS.pass;rw [if_neg (by dsimp only;omega)]
   rw [hps,e1]
   refine eB.mk8 (b.same rfl rfl rfl rfl rfl rfl rfl rfl rfl rfl rfl rfl) (a.same rfl rfl rfl rfl rfl) ⟨nZ k1 hnq c1,rfl,c3⟩ sc ⟨q1,q2⟩ ⟨by show 8≤x.part;omega,by show x.part≤10;omega⟩ (h.p2 (by omega)) ⟨?_,by show 0<x.left-1;omega⟩ (fun _ hs=>?_) (by intros;(try dsimp only at *);omega) (by intros;(try dsimp only at *);omega) (by intros;(try dsimp only at *);omega)
   ·show e.past+1+(x.left-1)=x.len n x.part
    omega
   ·obtain ⟨g1,g2,g3,g4⟩:=h8 hs
    have NV:v=⟨((V.rp P).run P V.op (e.aK.take (e.past / 3))).st,num V.bs⟩:=by rw [hv] at g2;injection g2
    have hd:(e.past+1) / 3=e.past / 3+1:=by omega
    have hm:(e.past+1) % 3=0:=by omega
    have hop:eO (aI e.heard (e.past % 3) (V.eS k (e.past % 3)))=V.op k (cnt V.bs k):=by
     have hlt:cnt V.bs k<V.aL k:=by rw [jL V hs] at k2;omega
     have w:=hG.vQ k k1 hlt
     rw [←hk] at g4
     have w0:=(g4 0 (by omega)).trans (w 0 (by decide))
     have w1:=(g4 1 (by omega)).trans (w 1 (by decide))
     have w2:=w 2 (by decide)
     unfold eO
     rw [hj,aC,aD _ _ (by decide),aD _ _ (by decide),w0,w1,w2]
     simp [Op.w]
    have hrun:(V.rp P).run P V.op (e.aK.take (e.past / 3+1))=((V.rp P).run P V.op (e.aK.take (e.past / 3))).next P V.op k:=by
     rw [List.take_add_one,wF]
     exact wB P V.op _ _ k
    have QK:((V.rp P).run P V.op (e.aK.take (e.past / 3))).c k=cnt V.bs k:=by
     rw [FC,show (V.rp P).c k=cnt V.bs k from wC P V.op V.bs k]
     have u1:=q2.count k
     rw [if_pos hkm] at u1
     have u2:e.aK=e.aK.take (e.past / 3)++k::e.aK.drop (e.past / 3+1):=by
      conv=>lhs;rw [←List.take_append_drop (e.past / 3) e.aK]
      rw [List.drop_eq_getElem_cons hi]
      rw [List.getElem?_eq_getElem hi] at wF
      injection wF with wF
      rw [wF]
     rw [u2,List.count_append,List.count_cons_self] at u1
     omega
    dsimp only
    rw [hd,hm,hrun,hop,NV]
    refine ⟨g1,?_,uO k1 g3 (by rw [QK]),fun q hq=>absurd hq (Nat.not_lt_zero _)⟩
    unfold Rp.next
    rw [QK]
  ·rw [if_neg hj] at RB
   have hps:e3.pass (3*e.aK.length) 9 = {e3 with past:=e.past+1}:=by
    rw [RB];unfold aS.pass;rw [if_neg (by dsimp only;omega)]
   rw [hps,RB]
   refine eB.mk8 (b.same rfl rfl rfl rfl rfl rfl rfl rfl rfl rfl rfl rfl) (a.same rfl rfl rfl rfl rfl) ⟨c1,c2,c3⟩ sc ⟨q1,q2⟩ ⟨by show 8≤x.part;omega,by show x.part≤10;omega⟩ (h.p2 (by omega)) ⟨?_,by show 0<x.left-1;omega⟩ (fun _ hs=>?_) (by intros;(try dsimp only at *);omega) (by intros;(try dsimp only at *);omega) (by intros;(try dsimp only at *);omega)
   ·show e.past+1+(x.left-1)=x.len n x.part
    omega
   ·obtain ⟨g1,g2,g3,g4⟩:=h8 hs
    have hd:(e.past+1) / 3=e.past / 3:=by omega
    have hm:(e.past+1) % 3=e.past % 3+1:=by omega
    dsimp only
    rw [hd,hm]
    refine ⟨g1,g2,g3,fun q hq=>?_⟩
    by_cases c:q=e.past % 3
    ·rw [c,aC,hk]
    ·rw [aD _ _ c]
     exact g4 q (by omega)
 ·intro hl
  have hj:e.past % 3=2:=by omega
  have gU:e.past / 3+1=e.aK.length:=by omega
  rw [if_pos (by omega),if_pos hj] at RB
  have e1:e3 = {e with heard:=aI e.heard (e.past % 3) (V.eS k (e.past % 3)),now:=some ⟨(P.apply v.st (eO (aI e.heard (e.past % 3) (V.eS k (e.past % 3))))).1,(e.dM.map dA.bs).getD []++[(e.stamp+1,e.aK)]⟩,dw:=fun i=>if i<tw n then e.tg i else aI (aI e.dw (aG n k) (P.apply v.st (eO (aI e.heard (e.past % 3) (V.eS k (e.past % 3))))).2.s) (aJ n k) (P.apply v.st (eO (aI e.heard (e.past % 3) (V.eS k (e.past % 3))))).2.v i}:=by
   rw [RB];unfold aS.apply aS.close;simp only [hv];rfl
  have hps:e3.pass (3*e.aK.length) 9=e3.enter 9:=by
   rw [e1];unfold aS.pass;rw [if_pos (by dsimp only;omega)]
  have e2:aT.enter n {x with left:=0} 9 = {x with part:=9,left:=aO n+1}:=by simp [aT.enter,aT.len]
  rw [hps,e1,e2]
  refine eB.mk8 (b.same rfl rfl rfl rfl rfl rfl rfl rfl rfl rfl rfl rfl) (a.same rfl rfl rfl rfl rfl) ⟨BS (nZ k1 hnq c1),rfl,c3⟩ sc ⟨q1,q2⟩ ⟨(by intros;(try dsimp only at *);omega),(by intros;(try dsimp only at *);omega)⟩ rfl ⟨?_,(by intros;(try dsimp only at *);omega)⟩ (by intros;(try dsimp only at *);omega) (fun _ hs=>?_) (fun _ i hi=>absurd hi (Nat.not_lt_zero _)) (by intros;(try dsimp only at *);omega)
  ·show 0+(aO n+1)=_
   simp [aT.len]
  ·have hs:e.stamp=V.N:=hs
   obtain ⟨g1,g2,g3,g4⟩:=h8 hs
   have NV:v=⟨((V.rp P).run P V.op (e.aK.take (e.past / 3))).st,num V.bs⟩:=by rw [hv] at g2;injection g2
   have hop:eO (aI e.heard (e.past % 3) (V.eS k (e.past % 3)))=V.op k (cnt V.bs k):=by
    have hlt:cnt V.bs k<V.aL k:=by rw [jL V hs] at k2;omega
    have w:=hG.vQ k k1 hlt
    rw [←hk] at g4
    have w0:=(g4 0 (by omega)).trans (w 0 (by decide))
    have w1:=(g4 1 (by omega)).trans (w 1 (by decide))
    have w2:=w 2 (by decide)
    unfold eO
    rw [hj,aC,aD _ _ (by decide),aD _ _ (by decide),w0,w1,w2]
    simp [Op.w]
   have hrun:(V.rp P).run P V.op e.aK=((V.rp P).run P V.op (e.aK.take (e.past / 3))).next P V.op k:=by
    conv=>lhs;rw [←List.take_of_length_le (Nat.le_of_eq gU.symm)]
    rw [List.take_add_one,wF]
    exact wB P V.op _ _ k
   have QK:((V.rp P).run P V.op (e.aK.take (e.past / 3))).c k=cnt V.bs k:=by
    rw [FC,show (V.rp P).c k=cnt V.bs k from wC P V.op V.bs k]
    have u1:=q2.count k
    rw [if_pos hkm] at u1
    have u2:e.aK=e.aK.take (e.past / 3)++k::e.aK.drop (e.past / 3+1):=by
     conv=>lhs;rw [←List.take_append_drop (e.past / 3) e.aK]
     rw [List.drop_eq_getElem_cons hi]
     rw [List.getElem?_eq_getElem hi] at wF
     injection wF with wF
     rw [wF]
    rw [u2,List.count_append,List.count_cons_self] at u1
    omega
   show some (dA.mk _ _)=some (dA.mk ((V.rp P).run P V.op e.aK).st (num (V.bs++[e.aK])))∧kE n ((V.rp P).run P V.op e.aK) _∧∀ w,w<tw n→(if w<tw n then e.tg w else _)=bits n x.flipped w
   rw [hrun,hop,NV,g1,mO,hs]
   refine ⟨?_,NU (uO k1 g3 (by rw [QK])),fun w hw=>?_⟩
   ·unfold Rp.next
    rw [QK]
    rfl
   ·rw [if_pos hw]
    exact sc.1 w hw
end
end Go.Proofs.YtefjhnhdagolhaaGreat.M
