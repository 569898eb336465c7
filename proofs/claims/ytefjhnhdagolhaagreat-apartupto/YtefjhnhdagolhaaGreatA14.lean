import Derived.Test.YtefjhnhdagolhaaGreatA11
set_option maxRecDepth 20000
namespace Go.Proofs.YtefjhnhdagolhaaGreat.M
section
variable {σ:Type} {P:Plain σ} {n cap:Nat} {V:View σ} {t:Nat} {e:bU σ} {x:bJ}
theorem vS.same {e':bU σ} {x':bJ} (b:vS P n cap V t e x) (h1:x'.ops=x.ops) (h2:x'.aO=x.aO) (h3:e'.aG=e.aG) (h4:x'.aG=x.aG) (h5:e'.again=e.again) (h5':x'.tries=x.tries) (h6:e'.fZ=e.fZ) (h7:e'.op=e.op) (h8:x'.ended=x.ended) (h9:e'.spare=e.spare) (od:e'.kept=e.kept) (ym:e'.ended=e.ended):vS P n cap V t e' x' :=
 b.with h1 h2 (by rw [h3,h4];exact b.bk) (by rw [h4];exact b.bc) (by rw [h5,h5'];exact b.ag) h6 h7 h8 h9 od ym (by rw [h5'];exact b.tr) (by rw [h5'];exact b.tn)
theorem Att.same {e':bU σ} {x':bJ} (a:Att P n V t e x) (h1:x'.stamp=x.stamp) (h2:e'.stamp=e.stamp) (h3:e'.cG=e.cG) (h4:x'.tries=x.tries) (h5:e'.spare=e.spare):Att P n V t e' x' :=
 ⟨by rw [h1,h2];exact a.st,by rw [h2];exact a.le,by rw [h2,h3];exact a.pb,by rw [h2,h3];exact a.cur,by rw [h2];exact a.nf,by rw [h2,h4];exact a.nf2,by rw [h2,h5];exact a.spb,by rw [h3];exact a.some⟩
theorem aFB (hn:0<n):0<tw n:=by unfold tw;omega
theorem aMv (h:fX P n cap V t e x) (hp:x.part=3):(1<x.left→fX P n cap V t (e.pass e.aG 4) {x with left:=x.left-1})∧(x.left=1→fX P n cap V t (e.pass e.aG 4) (bJ.enter n {x with left:=0} 4)):=by
 have b:=h.base (by omega);obtain ⟨l1,l2⟩:=h.p3 (by omega) (by omega);have l3:x.len n x.part=x.aG:=by rw [hp];simp [bJ.len]
 have hb:=b.bk;constructor
 ·intro hl
  have e1:e.pass e.aG 4 = {e with past:=e.past+1}:=by unfold bU.pass;rw [aN (by omega)]
  rw [e1];refine fX.aC7 (b.same rfl rfl rfl rfl rfl rfl rfl rfl rfl rfl rfl rfl) (.inl hp) (h.p2 (by omega)) ⟨?_,by show 0<x.left-1;omega⟩;show e.past+1+(x.left-1)=bJ.len n x x.part;omega
 ·intro hl
  have e1:e.pass e.aG 4=e.enter 4:=by unfold bU.pass;rw [aJ (by omega)]
  have e2:bJ.enter n {x with left:=0} 4 = {x with part:=4,left:=1}:=by simp [bJ.enter,bJ.len]
  rw [e1,e2];exact fX.aC7 (b.same rfl rfl rfl rfl rfl rfl rfl rfl rfl rfl rfl rfl) (.inr rfl) rfl ⟨rfl,(by intros;(try dsimp only at *);omega)⟩
theorem aMw (h:fX P n cap V t e x) (hG:jN P n V) (hp:x.part=4):x.left=1∧fX P n cap V t (bU.enter {e with stamp:=V.N,cG:=V.prec} 5) (bJ.enter n {x with left:=0,stamp:=V.N} 5):=by
 have b:=h.base (by omega);obtain ⟨l1,l2⟩:=h.p3 (by omega) (by omega);have l3:x.len n x.part=1:=by rw [hp];simp [bJ.len]
 refine ⟨by omega,?_⟩;have e2:bJ.enter n {x with left:=0,stamp:=V.N} 5 = {x with part:=5,left:=bC n+1,stamp:=V.N}:=by simp [bJ.enter,bJ.len]
 rw [e2];obtain ⟨f,hf⟩:=hG.LJ;refine fX.mk5 (b.same rfl rfl rfl rfl rfl rfl rfl rfl rfl rfl rfl rfl) ⟨rfl,bQ _,by show V.N≤V.pb V.prec;rw [hG.pbc];exact bQ _,fun _=>rfl,hG.nfN t,b.tn,hG.pbN _,by show (V.lI V.prec).isSome=true;rw [hf];rfl⟩ rfl rfl ⟨?_,(by intros;(try dsimp only at *);omega)⟩ ⟨fun k _ _=>⟨fun q=>absurd q (pY _),fun q=>absurd q (pY _)⟩,fun _ i hi=>absurd hi (pY _)⟩;show 0+(bC n+1)=_;omega
theorem aIb (h:fX P n cap V t e x) (hG:jN P n V) (hp:x.part=5) (hw:e.past<bC n):1<x.left∧fX P n cap V t (bU.pass {e with dw:=aM e.dw e.past (V.rw e.cG e.past)} (bC n+1) 6) {x with left:=x.left-1}:=by
 have b:=h.base (by omega);have a:=h.EM (by omega) (by omega);obtain ⟨l1,l2⟩:=h.p3 (by omega) (by omega);have l3:x.len n x.part=bC n+1:=by rw [hp];simp [bJ.len]
 refine ⟨by omega,?_⟩;have e1:bU.pass {e with dw:=aM e.dw e.past (V.rw e.cG e.past)} (bC n+1) 6 = {e with dw:=aM e.dw e.past (V.rw e.cG e.past),past:=e.past+1}:=by unfold bU.pass;rw [aN (by dsimp only;omega)]
 rw [e1];obtain ⟨d1,d2⟩:=h.d5 hp;refine fX.mk5 (b.same rfl rfl rfl rfl rfl rfl rfl rfl rfl rfl rfl rfl) (a.same rfl rfl rfl rfl rfl) hp ((h.p2 (by omega)).trans hp) ⟨by show e.past+1+(x.left-1)=_;omega,by show 0<x.left-1;omega⟩ ⟨?_,?_⟩
 ·intro k hk hq
  obtain ⟨f1,f2⟩:=d1 k hk hq;obtain ⟨g1,g2⟩:=hG.recs e.cG k hk (quiet_mono a.pb hq);constructor
  ·intro q
   show aM e.dw e.past (V.rw e.cG e.past) (aL n k)=_;have q':aL n k<e.past+1:=q
   by_cases c:aL n k=e.past
   ·rw [c,aC,←c];exact g1
   ·rw [aD _ _ c];exact f1 (by omega)
  ·intro q
   show aM e.dw e.past (V.rw e.cG e.past) (aQ n k)=_;have q':aQ n k<e.past+1:=q
   by_cases c:aQ n k=e.past
   ·rw [c,aC,←c];exact g2
   ·rw [aD _ _ c];exact f2 (by omega)
 ·intro q i hi hi2
  show aM e.dw e.past (V.rw e.cG e.past) i=_;have hi':i<e.past+1:=hi
  by_cases c:i=e.past
  ·rw [c,aC,a.cur q]
  ·rw [aD _ _ c];exact d2 q i (by omega) hi2
theorem aIa (hn:0<n) (h:fX P n cap V t e x) (hG:jN P n V) (hp:x.part=5) (hw:¬e.past<bC n):x.left=1∧fX P n cap V t (bU.pass {e with now:=(V.lI e.cG).map Prod.fst,fD:=(V.lI e.cG).map Prod.fst} (bC n+1) 6) (bJ.enter n {x with left:=0} 6):=by
 have b:=h.base (by omega);have a:=h.EM (by omega) (by omega);obtain ⟨l1,l2⟩:=h.p3 (by omega) (by omega);have l3:x.len n x.part=bC n+1:=by rw [hp];simp [bJ.len]
 refine ⟨by omega,?_⟩;have aA0:e.past=bC n:=by omega
 have htw:=aFB hn;have e1:bU.pass {e with now:=(V.lI e.cG).map Prod.fst,fD:=(V.lI e.cG).map Prod.fst} (bC n+1) 6 = {e with now:=(V.lI e.cG).map Prod.fst,fD:=(V.lI e.cG).map Prod.fst,phase:=6,past:=0}:=by unfold bU.pass;rw [aJ (by dsimp only;omega)];rfl
 have e2:bJ.enter n {x with left:=0} 6 = {x with part:=6,left:=tw n}:=by
  have:tw n≠0:=by omega
  simp [bJ.enter,bJ.len,this]
 rw [e1,e2];obtain ⟨d1,d2⟩:=h.d5 hp;rw [aA0] at d1 d2;refine fX.aFo (b.same rfl rfl rfl rfl rfl rfl rfl rfl rfl rfl rfl rfl) (a.same rfl rfl rfl rfl rfl) ⟨d1,by simpa using a.some,by simpa using a.some⟩ (.inl ⟨rfl,fun w hw=>absurd hw (pY _),fun k _ hk=>absurd hk (pY _)⟩) rfl ⟨?_,htw⟩ ?_
 ·show 0+tw n=_
  simp [bJ.len]
 ·intro q
  obtain ⟨f,hf⟩:=hG.LJ;have:(V.lI e.cG).map Prod.fst=some ⟨(V.rp P).st,num V.bs⟩:=by rw [a.cur q,hf];rfl
  exact ⟨fun i hi=>d2 q i hi hi,this,this⟩
theorem aMx (h:fX P n cap V t e x) (hG:jN P n V) (hp:x.part=6) (fd:Nat→Nat) (hfd:fd=fun k=>if k / 16=tw n-(x.left-1)-1∧k<n then V.aO k else x.flipped k) :
  (1<x.left→fX P n cap V t (bU.pass {e with tg:=aM e.tg e.past (V.dS e.past)} (tw n) 7) {x with left:=x.left-1,flipped:=fd})∧(x.left=1→fX P n cap V t (bU.pass {e with tg:=aM e.tg e.past (V.dS e.past)} (tw n) 7) (bJ.enter n {x with left:=0,flipped:=fd} 7)):=by
 have b:=h.base (by omega);have a:=h.EM (by omega) (by omega);obtain ⟨l1,l2⟩:=h.p3 (by omega) (by omega);have l3:x.len n x.part=tw n:=by rw [hp];simp [bJ.len]
 have aA0:tw n-(x.left-1)-1=e.past:=by omega
 rw [aA0] at hfd;obtain ⟨c1,c2,c3⟩:=h.d6 (by omega) (by omega);obtain ⟨s1,s2⟩:=h.t6 hp;have hsc:nL n V t e.stamp (e.past+1) (aM e.tg e.past (V.dS e.past)) fd:=by
  refine ⟨fun w hw=>?_,fun k hk hkc=>?_⟩
  ·by_cases c:w=e.past
   ·subst c
    rw [aC,hG.dS _ (by omega)];apply zD;intro k AE hk2;rw [hfd];simp [AE,hk2]
   ·rw [aD _ _ c,s1 w (by omega)]
    apply zD;intro k AE hk2;rw [hfd];have:¬(k / 16=e.past∧k<n):=by omega
    simp only [this,if_false]
  ·rw [hfd]
   by_cases c:k / 16=e.past
   ·simp only [c,hk,and_self,if_true]
    have:=rF V.bs e.stamp k;have h2:=(hG.fl k hk).1;exact ⟨by show cnt (V.bs.take e.stamp) k≤_;omega,bQ _,fun _=>trivial⟩
   ·have:¬(k / 16=e.past∧k<n):=by omega
    simp only [this,if_false];exact s2 k hk (by omega)
 have hd:=h.d7 (.inl hp);constructor
 ·intro hl
  have e1:bU.pass {e with tg:=aM e.tg e.past (V.dS e.past)} (tw n) 7 = {e with tg:=aM e.tg e.past (V.dS e.past),past:=e.past+1}:=by unfold bU.pass;rw [aN (by dsimp only;omega)]
  rw [e1];refine fX.aFo (b.same rfl rfl rfl rfl rfl rfl rfl rfl rfl rfl rfl rfl) (a.same rfl rfl rfl rfl rfl) ⟨c1,c2,c3⟩ (.inl ⟨hp,hsc⟩) (h.p2 (by omega)) ⟨?_,by show 0<x.left-1;omega⟩ hd;show e.past+1+(x.left-1)=bJ.len n {x with left:=x.left-1,flipped:=fd} x.part;have:bJ.len n {x with left:=x.left-1,flipped:=fd} x.part=x.len n x.part:=by rw [hp];rfl
  omega
 ·intro hl
  have e1:bU.pass {e with tg:=aM e.tg e.past (V.dS e.past)} (tw n) 7 = {e with tg:=aM e.tg e.past (V.dS e.past),phase:=7,past:=0}:=by unfold bU.pass;rw [aJ (by dsimp only;omega)];rfl
  have e2:bJ.enter n {x with left:=0,flipped:=fd} 7 = {x with part:=7,left:=1,flipped:=fd}:=by simp [bJ.enter,bJ.len]
  rw [e1,e2];rw [show e.past+1=tw n by omega] at hsc;exact fX.aFo (b.same rfl rfl rfl rfl rfl rfl rfl rfl rfl rfl rfl rfl) (a.same rfl rfl rfl rfl rfl) ⟨c1,c2,c3⟩ (.inr ⟨rfl,hsc⟩) rfl ⟨rfl,(by intros;(try dsimp only at *);omega)⟩ hd
end
section
variable {σ:Type} {P:Plain σ} {n cap:Nat} {V:View σ} {t:Nat} {e:bU σ} {x:bJ}
theorem kg (h:fX P n cap V t e x) (hG:jN P n V) (hp:x.part=7) (hs:e.stamp=V.N) :
  e.waiting n=(List.range n).filter (fun k=>decide ((x.flipped k+cnt V.bs k) % 2=1))∧e.waiting n=(List.range n).filter (fun k=>decide (x.flipped k=V.at e.stamp k+1))∧∀ k,k<n→x.flipped k≤V.at e.stamp k+1:=by
 obtain ⟨s1,s2⟩:=h.t7 (by omega) (by omega);obtain ⟨d1,-,-⟩:=h.d7 (.inr hp) hs;have key:∀ k,k<n→cnt V.bs k≤x.flipped k∧x.flipped k≤cnt V.bs k+1:=fun k hk=>by
  obtain ⟨a1,a2,-⟩:=s2 k hk (KS hk);rw [sF V hs] at a1;have:=(hG.fl k hk).2;omega
 have w1:∀ k,k<n→pG e.tg k=decide (x.flipped k % 2=1):=fun k hk=>KO n _ _ k hk (s1 _ (KS hk))
 have w2:∀ k,k<n→pG e.dw k=decide (cnt V.bs k % 2=1):=fun k hk=>KO n _ _ k hk (by
  have:=KS hk;rw [d1 _ (by unfold bC;omega),hG.ug _ this])
 refine ⟨?_,?_,fun k hk=>by rw [sF V hs];exact (key k hk).2⟩
 ·unfold bU.waiting
  apply List.filter_congr;intro k hk;have hk:=List.mem_range.1 hk;rw [w1 k hk,w2 k hk];have:=key k hk
  by_cases q:x.flipped k=cnt V.bs k
  ·rw [q]
   have:¬(cnt V.bs k+cnt V.bs k) % 2=1:=by omega
   simp [this]
  ·rw [show x.flipped k=cnt V.bs k+1 by omega]
   have:(cnt V.bs k+1+cnt V.bs k) % 2=1:=by omega
   rw [this]
   by_cases r:cnt V.bs k % 2=1
   ·have:¬(cnt V.bs k+1) % 2=1:=by omega
    simp [r,this]
   ·have:(cnt V.bs k+1) % 2=1:=by omega
    simp [r,this]
 ·unfold bU.waiting
  apply List.filter_congr;intro k hk;have hk:=List.mem_range.1 hk;rw [w1 k hk,w2 k hk,sF V hs];have:=key k hk
  by_cases q:x.flipped k=cnt V.bs k
  ·rw [q];simp
  ·rw [show x.flipped k=cnt V.bs k+1 by omega]
   by_cases r:cnt V.bs k % 2=1
   ·have:¬(cnt V.bs k+1) % 2=1:=by omega
    simp [r,this]
   ·have:(cnt V.bs k+1) % 2=1:=by omega
    simp [r,this]
theorem aMy (ht:t<n) (h:fX P n cap V t e x) (hG:jN P n V) (hp:x.part=7) :
  x.left=1∧(e.stamp≠V.N→fX P n cap V t (e.fail cap) (bJ.fail n cap {x with left:=0})) ∧
  (e.stamp=V.N→∀ pd,pd=(List.range n).filter (fun k=>decide ((x.flipped k+cnt V.bs k) % 2=1))→e.waiting n=pd∧fX P n cap V t (bU.enter {e with aK:=pd} (if t∈pd then 8 else 11)) (bJ.enter n {x with left:=0,aK:=pd} (if t∈pd then 8 else 11))):=by
 have b:=h.base (by omega);have a:=h.EM (by omega) (by omega);obtain ⟨l1,l2⟩:=h.p3 (by omega) (by omega);have l3:x.len n x.part=1:=by rw [hp];simp [bJ.len]
 refine ⟨by omega,fun hs=>?_,fun hs pd yu=>?_⟩
 ·exact fX.failed (x:={x with left:=0}) (b.same rfl rfl rfl rfl rfl rfl rfl rfl rfl rfl rfl rfl) (a.same rfl rfl rfl rfl rfl) hG ht hs
 ·obtain ⟨q1,q2,q3⟩:=kg h hG hp hs
  rw [←yu] at q1;rw [q1] at q2;refine ⟨q1,?_⟩;obtain ⟨c1,c2,c3⟩:=h.d6 (by omega) (by omega);obtain ⟨d1,d2,d3⟩:=h.d7 (.inr hp) hs;have sc:=h.t7 (by omega) (by omega)
  by_cases hm:t∈pd
  ·rw [aJ hm]
   have hlen:pd.length≠0:=by
    intro q;rw [List.length_eq_zero_iff.1 q] at hm;simp at hm
   have e2:bJ.enter n {x with left:=0,aK:=pd} 8 = {x with part:=8,left:=3*pd.length,aK:=pd}:=by
    have:¬3*pd.length=0:=by omega
    simp [bJ.enter,bJ.len,this]
   rw [e2];refine fX.mk8 (b.same rfl rfl rfl rfl rfl rfl rfl rfl rfl rfl rfl rfl) (a.same rfl rfl rfl rfl rfl) ⟨c1,c2,c3⟩ sc ⟨rfl,q2,hm,q3⟩ ⟨(by intros;(try dsimp only at *);omega),(by intros;(try dsimp only at *);omega)⟩ rfl ⟨?_,by show 0<3*pd.length;omega⟩ ?_ (by intros;(try dsimp only at *);omega) (by intros;(try dsimp only at *);omega) (by intros;(try dsimp only at *);omega)
   ·show 0+3*pd.length=_
    simp [bJ.len]
   ·intro _ _
    have hr:(V.rp P).run P V.op (pd.take (0 / 3))=V.rp P:=rfl;show e.fD=_∧e.now=some ⟨((V.rp P).run P V.op (pd.take (0 / 3))).st,num V.bs⟩∧uQ n ((V.rp P).run P V.op (pd.take (0 / 3))) e.dw∧∀ q,q<0 % 3→_;rw [hr];refine ⟨d3,d2,fun k hk=>?_,fun q hq=>absurd hq (pY _)⟩;obtain ⟨g1,g2⟩:=hG.fq k hk;have i1:aL n k<bC n:=by unfold aL bC;omega
    have i2:aQ n k<bC n:=by unfold aQ bC;omega
    exact ⟨(d1 _ i1).trans g1,(d1 _ i2).trans g2⟩
  ·rw [aN hm]
   have e2:bJ.enter n {x with left:=0,aK:=pd} 11 = {x with part:=11,left:=3,aK:=pd}:=by simp [bJ.enter,bJ.len]
   rw [e2];refine fX.aBu (b.same rfl rfl rfl rfl rfl rfl rfl rfl rfl rfl rfl rfl) rfl ⟨(by intros;(try dsimp only at *);omega),(by intros;(try dsimp only at *);omega),rfl⟩ ?_ (by intros;(try dsimp only at *);omega) (by intros;(try dsimp only at *);omega);have o1:=(sc.2 t ht (KS ht)).2.2 (.inl rfl);have o2:=hG.fl t ht;have o3:x.flipped t≠V.at e.stamp t+1:=fun q=>hm (by rw [q2,List.mem_filter];exact ⟨List.mem_range.2 ht,kE q⟩)
   rw [sF V hs] at o3;omega
theorem aH9 (ht:t<n) (h:fX P n cap V t e x) (hG:jN P n V) (hp:x.part=11) :
  (x.left=3→fX P n cap V t (bU.enter {e with found:=V.prec} 12) {x with left:=x.left-1}) ∧
  (x.left=2→fX P n cap V t (bU.enter {e with VI:=V.rw e.found (aL n t)} 13) {x with left:=x.left-1}) ∧
  (x.left=1→fX P n cap V t (bU.enter {e with val:=V.rw e.found (aQ n t),ended:=true} 0) {x with left:=0,part:=0,ended:=x.ended+1}):=by
 have b:=h.base (by omega);have hc:=h.FK hp;refine ⟨fun hl=>?_,fun hl=>?_,fun hl=>?_⟩
 ·refine fX.aBu (b.same rfl rfl rfl rfl rfl rfl rfl rfl rfl rfl rfl rfl) hp ⟨(by intros;(try dsimp only at *);omega),(by intros;(try dsimp only at *);omega),by show 12=14-(x.left-1);omega⟩ hc (fun q=>absurd (show x.left-1=1 from q) (by omega)) (fun _=>?_)
  show V.at (V.pb V.prec) t=_;rw [hG.pbc];exact sF V rfl t
 ·obtain ⟨g1,g2⟩:=hG.recs e.found t ht ⟨hc.symm,h.fd hp (by omega)⟩
  exact fX.aBu (b.same rfl rfl rfl rfl rfl rfl rfl rfl rfl rfl rfl rfl) hp ⟨(by intros;(try dsimp only at *);omega),(by intros;(try dsimp only at *);omega),by show 13=14-(x.left-1);omega⟩ hc (fun _=>g1) (fun _=>h.fd hp (by omega))
 ·obtain ⟨g1,g2⟩:=hG.recs e.found t ht ⟨hc.symm,h.fd hp (by omega)⟩
  have aMb:=h.a1 hp hl;exact {xo:=b.xo,xf:=b.xf,bk:=b.bk,bc:=b.bc,IU:=b.IU,sp:=b.sp,IB:=b.IB,p1:=(by intros;(try dsimp only at *);omega),p2:=fun _=>rfl,en:=by simp [bU.enter],c0:=fun _=>⟨b.c3.1,b.c3.2,hc⟩,a0:=fun _ _=>⟨aMb,g2⟩,ag:=(by intros;(try dsimp only at *);omega),JO:=(by intros;(try dsimp only at *);omega),c3:=(by intros;(try dsimp only at *);omega),JL:=(by intros;(try dsimp only at *);omega),tr:=(by intros;(try dsimp only at *);omega),tn:=(by intros;(try dsimp only at *);omega),p3:=(by intros;(try dsimp only at *);omega),p4:=(by intros;(try dsimp only at *);omega),c1:=(by intros;(try dsimp only at *);omega),t0:=(by intros;(try dsimp only at *);omega),FK:=(by intros;(try dsimp only at *);omega),rz:=(by intros;(try dsimp only at *);omega),a1:=(by intros;(try dsimp only at *);omega),fd:=(by intros;(try dsimp only at *);omega),s1:=(by intros;(try dsimp only at *);omega),d5:=(by intros;(try dsimp only at *);omega),d6:=(by intros;(try dsimp only at *);omega),d7:=(by intros;(try dsimp only at *);omega),t6:=(by intros;(try dsimp only at *);omega),t7:=(by intros;(try dsimp only at *);omega),h8:=(by intros;(try dsimp only at *);omega),WN:=(by intros;(try dsimp only at *);omega),h9:=(by intros;(try dsimp only at *);omega),w9:=(by intros;(try dsimp only at *);omega),ay:=(by intros;(try dsimp only at *);omega)}
end
section
variable {σ:Type} {P:Plain σ} {n cap:Nat} {V:View σ} {t:Nat} {e:bU σ} {x:bJ}
theorem KC {ops:Nat→Nat→Op} {r:Rp σ} {dw:Nat→Int} {k:Nat} {o:Op} (hk:k<n) (ha:uQ n r dw) (ho:ops k (r.c k)=o) :
  uQ n (r.next P ops k) (aM (aM dw (aL n k) (P.apply r.st o).2.s) (aQ n k) (P.apply r.st o).2.v):=by
 subst ho;intro q hq;have i1:aL n q≠aQ n k:=by unfold aL aQ;omega
 rw [aD _ _ i1]
 by_cases c:q=k
 ·subst c
  rw [aC,aC];exact ⟨by simp [Rp.next,aC],by simp [Rp.next,aC]⟩
 ·have i2:aL n q≠aL n k:=by unfold aL;omega
  have i3:aQ n q≠aQ n k:=by unfold aQ;omega
  have i4:aQ n q≠aL n k:=by unfold aQ aL;omega
  rw [aD _ _ i2,aD _ _ i3,aD _ _ i4];rw [show (r.next P ops k).an q=r.an q from aD _ _ c];exact ha q hq
theorem AO {s:Nat} {dw:Nat→Int} {k:Nat} {u v:Int} (hk:k<n) (hq:¬V.quiet s k) (h:nR P n V s (bC n) dw):nR P n V s (bC n) (aM (aM dw (aL n k) u) (aQ n k) v):=by
 intro q hqn hqq;have c:q≠k:=by rintro rfl;exact hq hqq
 have i1:aL n q≠aQ n k:=by unfold aL aQ;omega
 have i2:aL n q≠aL n k:=by unfold aL;omega
 have i3:aQ n q≠aQ n k:=by unfold aQ;omega
 have i4:aQ n q≠aL n k:=by unfold aQ aL;omega
 rw [aD _ _ i1,aD _ _ i2,aD _ _ i3,aD _ _ i4];exact h q hqn hqq
theorem TP {s:Nat} {dw tg:Nat→Int} (h:nR P n V s (bC n) dw):nR P n V s (bC n) (fun i=>if i<tw n then tg i else dw i):=by
 intro q hqn hqq;have i1:¬aL n q<tw n:=by unfold aL;omega
 have i2:¬aQ n q<tw n:=by unfold aQ;omega
 simp only [i1,i2,if_false];exact h q hqn hqq
theorem tu {r:Rp σ} {dw tg:Nat→Int} (h:uQ n r dw):uQ n r (fun i=>if i<tw n then tg i else dw i):=by
 intro q hqn;have i1:¬aL n q<tw n:=by unfold aL;omega
 have i2:¬aQ n q<tw n:=by unfold aQ;omega
 simp only [i1,i2,if_false];exact h q hqn
theorem aMz (h:fX P n cap V t e x) (hG:jN P n V) (hp:x.part=8) (e3:bU σ) (k:Nat) (hk:k=e.aK.getD (e.past / 3) 0)
  (he3:e3=(if e.past+1=3*e.aK.length then bU.close n (if e.past % 3=2 then bU.apply P n {e with heard:=aM e.heard (e.past % 3) (V.gY k (e.past % 3))} k else {e with heard:=aM e.heard (e.past % 3) (V.gY k (e.past % 3))}) else (if e.past % 3=2 then bU.apply P n {e with heard:=aM e.heard (e.past % 3) (V.gY k (e.past % 3))} k else {e with heard:=aM e.heard (e.past % 3) (V.gY k (e.past % 3))}))) :
  k<n∧(1<x.left→fX P n cap V t (e3.pass (3*e.aK.length) 9) {x with left:=x.left-1})∧(x.left=1→fX P n cap V t (e3.pass (3*e.aK.length) 9) (bJ.enter n {x with left:=0} 9)):=by
 have b:=h.base (by omega);have a:=h.EM (by omega) (by omega);obtain ⟨l1,l2⟩:=h.p3 (by omega) (by omega);obtain ⟨q1,q2⟩:=h.h8 (by omega) (by omega);have sc:=h.t7 (by omega) (by omega);have l3:x.len n x.part=3*e.aK.length:=by rw [hp,q1];simp [bJ.len]
 obtain ⟨c1,c2,c3⟩:=h.d6 (by omega) (by omega);have hi:e.past / 3<e.aK.length:=by omega
 have OE:e.aK[e.past / 3]?=some k:=by rw [eT hi,hk,List.getD_eq_getElem?_getD,eT hi];rfl
 have hkm:k∈e.aK:=PS OE;obtain ⟨k1,k2⟩:=q2.mem.1 hkm;have hfl:=(sc.2 k k1 (KS k1)).2.1;have hnq:¬V.quiet e.stamp k:=by rintro ⟨u1,u2⟩;omega
 have h8:=h.WN hp;obtain ⟨v,hv⟩:=pQ.1 c2;refine ⟨k1,?_,?_⟩
 ·intro hl
  rw [aN (by omega)] at he3
  by_cases hj:e.past % 3=2
  ·rw [aJ hj] at he3
   have e1:e3 = {e with heard:=aM e.heard (e.past % 3) (V.gY k (e.past % 3)),now:=some {v with st:=(P.apply v.st (gW (aM e.heard (e.past % 3) (V.gY k (e.past % 3))))).1},dw:=aM (aM e.dw (aL n k) (P.apply v.st (gW (aM e.heard (e.past % 3) (V.gY k (e.past % 3))))).2.s) (aQ n k) (P.apply v.st (gW (aM e.heard (e.past % 3) (V.gY k (e.past % 3))))).2.v}:=by
    rw [he3];unfold bU.apply;simp only [hv]
   have hps:e3.pass (3*e.aK.length) 9 = {e3 with past:=e.past+1}:=by
    rw [e1];unfold bU.pass;rw [aN (by dsimp only;omega)]
   rw [hps,e1];refine fX.mk8 (b.same rfl rfl rfl rfl rfl rfl rfl rfl rfl rfl rfl rfl) (a.same rfl rfl rfl rfl rfl) ⟨AO k1 hnq c1,rfl,c3⟩ sc ⟨q1,q2⟩ ⟨by show 8≤x.part;omega,by show x.part≤10;omega⟩ (h.p2 (by omega)) ⟨?_,by show 0<x.left-1;omega⟩ (fun _ hs=>?_) (by intros;(try dsimp only at *);omega) (by intros;(try dsimp only at *);omega) (by intros;(try dsimp only at *);omega)
   ·show e.past+1+(x.left-1)=x.len n x.part
    omega
   ·obtain ⟨g1,g2,g3,g4⟩:=h8 hs
    have vz:v=⟨((V.rp P).run P V.op (e.aK.take (e.past / 3))).st,num V.bs⟩:=by rw [hv] at g2;injection g2
    have hd:(e.past+1) / 3=e.past / 3+1:=by omega
    have hm:(e.past+1) % 3=0:=by omega
    have hop:gW (aM e.heard (e.past % 3) (V.gY k (e.past % 3)))=V.op k (cnt V.bs k):=by
     have hlt:cnt V.bs k<V.aO k:=by rw [sF V hs] at k2;omega
     have w:=hG.MP k k1 hlt;rw [←hk] at g4;have w0:=(g4 0 (by omega)).trans (w 0 (by decide));have w1:=(g4 1 (by omega)).trans (w 1 (by decide));have w2:=w 2 (by decide);unfold gW;rw [hj,aC,aD _ _ (by decide),aD _ _ (by decide),w0,w1,w2];simp [Op.w]
    have hrun:(V.rp P).run P V.op (e.aK.take (e.past / 3+1))=((V.rp P).run P V.op (e.aK.take (e.past / 3))).next P V.op k:=by
     rw [List.take_add_one,OE];exact OZ P V.op _ _ k
    have vg:((V.rp P).run P V.op (e.aK.take (e.past / 3))).c k=cnt V.bs k:=by
     rw [ZK,show (V.rp P).c k=cnt V.bs k from OW P V.op V.bs k];have u1:=q2.count k;rw [aJ hkm] at u1;have u2:e.aK=e.aK.take (e.past / 3)++k::e.aK.drop (e.past / 3+1):=by
      conv=>lhs;rw [←List.take_append_drop (e.past / 3) e.aK]
      rw [List.drop_eq_getElem_cons hi];rw [eT hi] at OE;injection OE with OE
      rw [OE]
     rw [u2,SW,List.count_cons_self] at u1;omega
    dsimp only;rw [hd,hm,hrun,hop,vz];refine ⟨g1,?_,KC k1 g3 (by rw [vg]),fun q hq=>absurd hq (pY _)⟩;unfold Rp.next;rw [vg]
  ·rw [aN hj] at he3
   have hps:e3.pass (3*e.aK.length) 9 = {e3 with past:=e.past+1}:=by
    rw [he3];unfold bU.pass;rw [aN (by dsimp only;omega)]
   rw [hps,he3];refine fX.mk8 (b.same rfl rfl rfl rfl rfl rfl rfl rfl rfl rfl rfl rfl) (a.same rfl rfl rfl rfl rfl) ⟨c1,c2,c3⟩ sc ⟨q1,q2⟩ ⟨by show 8≤x.part;omega,by show x.part≤10;omega⟩ (h.p2 (by omega)) ⟨?_,by show 0<x.left-1;omega⟩ (fun _ hs=>?_) (by intros;(try dsimp only at *);omega) (by intros;(try dsimp only at *);omega) (by intros;(try dsimp only at *);omega)
   ·show e.past+1+(x.left-1)=x.len n x.part
    omega
   ·obtain ⟨g1,g2,g3,g4⟩:=h8 hs
    have hd:(e.past+1) / 3=e.past / 3:=by omega
    have hm:(e.past+1) % 3=e.past % 3+1:=by omega
    dsimp only;rw [hd,hm];refine ⟨g1,g2,g3,fun q hq=>?_⟩
    by_cases c:q=e.past % 3
    ·rw [c,aC,hk]
    ·rw [aD _ _ c]
     exact g4 q (by omega)
 ·intro hl
  have hj:e.past % 3=2:=by omega
  have AW:e.past / 3+1=e.aK.length:=by omega
  rw [aJ (by omega),aJ hj] at he3;have e1:e3 = {e with heard:=aM e.heard (e.past % 3) (V.gY k (e.past % 3)),now:=some ⟨(P.apply v.st (gW (aM e.heard (e.past % 3) (V.gY k (e.past % 3))))).1,(e.fD.map eX.bs).getD []++[(e.stamp+1,e.aK)]⟩,dw:=fun i=>if i<tw n then e.tg i else aM (aM e.dw (aL n k) (P.apply v.st (gW (aM e.heard (e.past % 3) (V.gY k (e.past % 3))))).2.s) (aQ n k) (P.apply v.st (gW (aM e.heard (e.past % 3) (V.gY k (e.past % 3))))).2.v i}:=by
   rw [he3];unfold bU.apply bU.close;simp only [hv];rfl
  have hps:e3.pass (3*e.aK.length) 9=e3.enter 9:=by
   rw [e1];unfold bU.pass;rw [aJ (by dsimp only;omega)]
  have e2:bJ.enter n {x with left:=0} 9 = {x with part:=9,left:=bC n+1}:=by simp [bJ.enter,bJ.len]
  rw [hps,e1,e2];refine fX.mk8 (b.same rfl rfl rfl rfl rfl rfl rfl rfl rfl rfl rfl rfl) (a.same rfl rfl rfl rfl rfl) ⟨TP (AO k1 hnq c1),rfl,c3⟩ sc ⟨q1,q2⟩ ⟨(by intros;(try dsimp only at *);omega),(by intros;(try dsimp only at *);omega)⟩ rfl ⟨?_,(by intros;(try dsimp only at *);omega)⟩ (by intros;(try dsimp only at *);omega) (fun _ hs=>?_) (fun _ i hi=>absurd hi (pY _)) (by intros;(try dsimp only at *);omega)
  ·show 0+(bC n+1)=_
   simp [bJ.len]
  ·have hs:e.stamp=V.N:=hs
   obtain ⟨g1,g2,g3,g4⟩:=h8 hs;have vz:v=⟨((V.rp P).run P V.op (e.aK.take (e.past / 3))).st,num V.bs⟩:=by rw [hv] at g2;injection g2
   have hop:gW (aM e.heard (e.past % 3) (V.gY k (e.past % 3)))=V.op k (cnt V.bs k):=by
    have hlt:cnt V.bs k<V.aO k:=by rw [sF V hs] at k2;omega
    have w:=hG.MP k k1 hlt;rw [←hk] at g4;have w0:=(g4 0 (by omega)).trans (w 0 (by decide));have w1:=(g4 1 (by omega)).trans (w 1 (by decide));have w2:=w 2 (by decide);unfold gW;rw [hj,aC,aD _ _ (by decide),aD _ _ (by decide),w0,w1,w2];simp [Op.w]
   have hrun:(V.rp P).run P V.op e.aK=((V.rp P).run P V.op (e.aK.take (e.past / 3))).next P V.op k:=by
    conv=>lhs;rw [←rZ (Nat.le_of_eq AW.symm)]
    rw [List.take_add_one,OE];exact OZ P V.op _ _ k
   have vg:((V.rp P).run P V.op (e.aK.take (e.past / 3))).c k=cnt V.bs k:=by
    rw [ZK,show (V.rp P).c k=cnt V.bs k from OW P V.op V.bs k];have u1:=q2.count k;rw [aJ hkm] at u1;have u2:e.aK=e.aK.take (e.past / 3)++k::e.aK.drop (e.past / 3+1):=by
     conv=>lhs;rw [←List.take_append_drop (e.past / 3) e.aK]
     rw [List.drop_eq_getElem_cons hi];rw [eT hi] at OE;injection OE with OE
     rw [OE]
    rw [u2,SW,List.count_cons_self] at u1;omega
   show some (eX.mk _ _)=some (eX.mk ((V.rp P).run P V.op e.aK).st (num (V.bs++[e.aK])))∧uQ n ((V.rp P).run P V.op e.aK) _∧∀ w,w<tw n→(if w<tw n then e.tg w else _)=bits n x.flipped w;rw [hrun,hop,vz,g1,ET,hs];refine ⟨?_,tu (KC k1 g3 (by rw [vg])),fun w hw=>?_⟩
   ·unfold Rp.next
    rw [vg];rfl
   ·rw [aJ hw]
    exact sc.1 w hw
end
section
variable {σ:Type} {P:Plain σ} {n cap:Nat} {V:View σ} {t:Nat} {e:bU σ} {x:bJ}
theorem aId (h:fX P n cap V t e x) (hp:x.part=9) (hw:e.past<bC n) :
  1<x.left∧fX P n cap {V with rw:=aM V.rw e.spare (aM (V.rw e.spare) e.past (e.dw e.past))} t (e.pass (bC n+1) 10) {x with left:=x.left-1}:=by
 have b:=h.base (by omega);have a:=h.EM (by omega) (by omega);obtain ⟨l1,l2⟩:=h.p3 (by omega) (by omega);have l3:x.len n x.part=bC n+1:=by rw [hp];simp [bJ.len]
 obtain ⟨c1,c2,c3⟩:=h.d6 (by omega) (by omega);refine ⟨by omega,?_⟩;have e1:e.pass (bC n+1) 10 = {e with past:=e.past+1}:=by unfold bU.pass;rw [aN (by omega)]
 rw [e1];refine fX.mk8 ⟨b.xo,b.xf,b.bk,b.bc,b.ag,b.IU,b.JO,b.c3,b.JL,b.sp,b.IB,b.en,b.tr,b.tn⟩ ⟨a.st,a.le,a.pb,a.cur,a.nf,a.nf2,a.spb,a.some⟩ ⟨c1,c2,c3⟩ (h.t7 (by omega) (by omega)) (h.h8 (by omega) (by omega)) ⟨by show 8≤x.part;omega,by show x.part≤10;omega⟩ (h.p2 (by omega)) ⟨?_,by show 0<x.left-1;omega⟩ (by intros;(try dsimp only at *);omega) (fun q=>h.h9 q) (fun _ i hi hi2=>?_) (by intros;(try dsimp only at *);omega)
 ·show e.past+1+(x.left-1)=x.len n x.part
  omega
 ·show aM V.rw e.spare (aM (V.rw e.spare) e.past (e.dw e.past)) e.spare i=e.dw i
  have hi':i<e.past+1:=hi;rw [aC]
  by_cases c:i=e.past
  ·rw [c,aC]
  ·rw [aD _ _ c]
   exact h.w9 hp i (by omega) hi2
theorem aIc (h:fX P n cap V t e x) (hp:x.part=9) (hw:¬e.past<bC n) :
  x.left=1∧(e.now.bind fun v=>e.fD.map fun f=>(v,f)).isSome∧fX P n cap {V with lI:=aM V.lI e.spare (e.now.bind fun v=>e.fD.map fun f=>(v,f))} t (e.pass (bC n+1) 10) (bJ.enter n {x with left:=0} 10):=by
 have b:=h.base (by omega);have a:=h.EM (by omega) (by omega);obtain ⟨l1,l2⟩:=h.p3 (by omega) (by omega);have l3:x.len n x.part=bC n+1:=by rw [hp];simp [bJ.len]
 obtain ⟨c1,c2,c3⟩:=h.d6 (by omega) (by omega);have hs:(e.now.bind fun v=>e.fD.map fun f=>(v,f)).isSome:=by
  obtain ⟨v,hv⟩:=pQ.1 c2;obtain ⟨f,hf⟩:=pQ.1 c3;rw [hv,hf];rfl
 refine ⟨by omega,hs,?_⟩;have e1:e.pass (bC n+1) 10=e.enter 10:=by unfold bU.pass;rw [aJ (by omega)]
 have e2:bJ.enter n {x with left:=0} 10 = {x with part:=10,left:=1}:=by simp [bJ.enter,bJ.len]
 rw [e1,e2];refine fX.mk8 ⟨b.xo,b.xf,b.bk,b.bc,b.ag,b.IU,b.JO,b.c3,b.JL,b.sp,b.IB,b.en,b.tr,b.tn⟩ ⟨a.st,a.le,a.pb,a.cur,a.nf,a.nf2,a.spb,?_⟩ ⟨c1,c2,c3⟩ (h.t7 (by omega) (by omega)) (h.h8 (by omega) (by omega)) ⟨(by intros;(try dsimp only at *);omega),(by intros;(try dsimp only at *);omega)⟩ rfl ⟨rfl,(by intros;(try dsimp only at *);omega)⟩ (by intros;(try dsimp only at *);omega) (fun _=>h.h9 (.inl hp)) (by intros;(try dsimp only at *);omega) (fun _=>⟨fun i hi=>h.w9 hp i (by omega) hi,aC _ _ _⟩);show (aM V.lI e.spare _ e.cG).isSome=true;unfold aM
 split
 ·exact hs
 ·exact a.some
theorem aH8 (ht:t<n) (h:fX P n cap V t e x) (hG:jN P n V) (hp:x.part=10) :
  x.left=1∧(e.stamp≠V.N→fX P n cap V t (e.fail cap) (bJ.fail n cap {x with left:=0})) ∧
  (e.stamp=V.N→e.cG=V.prec∧x.aK=e.aK∧x.stamp=e.stamp∧jN P n (V.dI e.spare e.aK)∧Good n V e.aK∧fX P n cap (V.dI e.spare e.aK) t (bU.enter {e with spare:=e.kept,kept:=e.spare,aG:=e.aG / 2} 11) (bJ.enter n {x with left:=0,aK:=[],aG:=x.aG / 2} 11)):=by
 have b:=h.base (by omega);have a:=h.EM (by omega) (by omega);obtain ⟨l1,l2⟩:=h.p3 (by omega) (by omega);have l3:x.len n x.part=1:=by rw [hp];simp [bJ.len]
 refine ⟨by omega,fun hs=>?_,fun hs=>?_⟩
 ·exact fX.failed (x:={x with left:=0}) (b.same rfl rfl rfl rfl rfl rfl rfl rfl rfl rfl rfl rfl) (a.same rfl rfl rfl rfl rfl) hG ht hs
 ·obtain ⟨q1,q2⟩:=h.h8 (by omega) (by omega)
  have sc:=h.t7 (by omega) (by omega);obtain ⟨w1,w2⟩:=h.ay hp;obtain ⟨g1,g2,g3⟩:=h.h9 (.inr hp) hs;obtain ⟨c1,c2,c3⟩:=h.d6 (by omega) (by omega);obtain ⟨f,hf⟩:=pQ.1 c3;have aAS:=q2.good hs sc hG;rw [g1,hf] at w2;have hG':=jN.dI hG hs sc q2 w1 w2 rfl g2 g3;refine ⟨a.cur hs,q1.symm,a.st,hG',aAS,?_⟩;have e2:bJ.enter n {x with left:=0,aK:=[],aG:=x.aG / 2} 11 = {x with part:=11,left:=3,aK:=[],aG:=x.aG / 2}:=by simp [bJ.enter,bJ.len]
  rw [e2];have hsp:e.kept≠e.spare:=by rcases b.sp with ⟨u,v⟩|⟨u,v⟩<;>omega
  refine fX.aBu ⟨b.xo,b.xf,by show e.aG / 2=x.aG / 2;rw [b.bk],by show x.aG / 2≤cap;have:=b.bc;omega,b.ag,b.IU,b.JO,b.c3,b.JL,?_,hsp,b.en,b.tr,fun q=>?_⟩ rfl ⟨(by intros;(try dsimp only at *);omega),(by intros;(try dsimp only at *);omega),rfl⟩ ?_ (by intros;(try dsimp only at *);omega) (by intros;(try dsimp only at *);omega)
  ·show (e.kept=_∧e.spare=_)∨(e.kept=_∧e.spare=_)
   rcases b.sp with ⟨u,v⟩|⟨u,v⟩
   ·exact .inr ⟨v,u⟩
   ·exact .inl ⟨v,u⟩
  ·rw [GL]
   exact Nat.lt_succ_of_lt (b.tn q)
  ·rw [GM aAS,aJ q2.2.1]
   exact (aAS.fl t q2.2.1).symm
theorem aMt (h:fX P n cap V t e x) (hp:x.part=1) :
  cnt V.bs t=V.aO t∧(1<x.left→fX P n cap {V with gY:=aM V.gY t (aM (V.gY t) e.past (e.op.w e.past))} t (e.pass 3 2) {x with left:=x.left-1}) ∧
  (x.left=1→fX P n cap {V with gY:=aM V.gY t (aM (V.gY t) e.past (e.op.w e.past))} t (e.pass 3 2) (bJ.enter n {x with left:=0} 2)):=by
 obtain ⟨l1,l2⟩:=h.p3 (by omega) (by omega);have l3:x.len n x.part=3:=by rw [hp];simp [bJ.len]
 obtain ⟨k1,k2,k3⟩:=h.c1 (.inl hp);have han:∀ i,i<e.past+1→aM V.gY t (aM (V.gY t) e.past (e.op.w e.past)) t i=e.op.w i:=by
  intro i hi;rw [aC]
  by_cases c:i=e.past
  ·rw [c,aC]
  ·rw [aD _ _ c]
   exact h.rz hp i (by omega)
 refine ⟨k3,fun hl=>?_,fun hl=>?_⟩
 ·have e1:e.pass 3 2 = {e with past:=e.past+1}:=by unfold bU.pass;rw [aN (by omega)]
  rw [e1];refine {h with p3:=fun _ _=>⟨?_,by show 0<x.left-1;omega⟩,rz:=fun _ i hi=>han i hi,p4:=(by intros;(try dsimp only at *);omega),JL:=(by intros;(try dsimp only at *);omega),a1:=(by intros;(try dsimp only at *);omega),fd:=(by intros;(try dsimp only at *);omega),d5:=(by intros;(try dsimp only at *);omega),t6:=(by intros;(try dsimp only at *);omega),WN:=(by intros;(try dsimp only at *);omega),w9:=(by intros;(try dsimp only at *);omega)};show e.past+1+(x.left-1)=x.len n x.part;omega
 ·have e1:e.pass 3 2=e.enter 2:=by unfold bU.pass;rw [aJ (by omega)]
  have e2:bJ.enter n {x with left:=0} 2 = {x with part:=2,left:=1}:=by simp [bJ.enter,bJ.len]
  rw [e1,e2];exact {xo:=h.xo,xf:=h.xf,bk:=h.bk,bc:=h.bc,ag:=fun _=>h.ag (by omega),IU:=h.IU,JO:=fun _=>h.JO (by omega),c1:=fun _=>⟨k1,k2,k3⟩,t0:=fun _=>h.t0 (.inl hp),JL:=fun _ i hi=>han i (by omega),sp:=h.sp,IB:=h.IB,en:=h.en,p1:=(by intros;(try dsimp only at *);omega),p2:=fun _=>rfl,p3:=fun _ _=>⟨rfl,(by intros;(try dsimp only at *);omega)⟩,p4:=(by intros;(try dsimp only at *);omega),c0:=(by intros;(try dsimp only at *);omega),c3:=(by intros;(try dsimp only at *);omega),FK:=(by intros;(try dsimp only at *);omega),rz:=(by intros;(try dsimp only at *);omega),a0:=(by intros;(try dsimp only at *);omega),a1:=(by intros;(try dsimp only at *);omega),fd:=(by intros;(try dsimp only at *);omega),tr:=(by intros;(try dsimp only at *);omega),tn:=(by intros;(try dsimp only at *);omega),s1:=(by intros;(try dsimp only at *);omega),d5:=(by intros;(try dsimp only at *);omega),d6:=(by intros;(try dsimp only at *);omega),d7:=(by intros;(try dsimp only at *);omega),t6:=(by intros;(try dsimp only at *);omega),t7:=(by intros;(try dsimp only at *);omega),h8:=(by intros;(try dsimp only at *);omega),WN:=(by intros;(try dsimp only at *);omega),h9:=(by intros;(try dsimp only at *);omega),w9:=(by intros;(try dsimp only at *);omega),ay:=(by intros;(try dsimp only at *);omega)}
theorem aMu (h:fX P n cap V t e x) (hp:x.part=2) (g:Nat→Int) :
  x.left=1∧cnt V.bs t=V.aO t∧(V.ops t).length=V.aO t+1∧(∀ i,i<3→V.gY t i=(V.op t (V.aO t)).w i)∧e.fZ=decide (V.aO t % 2=1) ∧
  fX P n cap (V.flip t g) t (bU.dM {e with fZ:=!e.fZ}) (bJ.enter n {x with left:=0,aO:=x.aO+1,tries:=1} 3):=by
 obtain ⟨l1,l2⟩:=h.p3 (by omega) (by omega);have l3:x.len n x.part=1:=by rw [hp];simp [bJ.len]
 obtain ⟨k1,k2,k3⟩:=h.c1 (.inr hp);obtain ⟨o1,o2⟩:=h.JO (by omega);have hop:e.op=V.op t (V.aO t):=by rw [o2,k1];rfl
 refine ⟨by omega,k3,k1,fun i hi=>by rw [←hop];exact h.JL (by omega) i hi,h.IU,?_⟩;have hfl:(V.flip t g).aO t=V.aO t+1:=aC _ _ _;have hag:=h.ag (by omega);refine fX.dM ⟨h.xo,by rw [hfl];show x.aO+1=_;rw [h.xf],h.bk,h.bc,?_,?_,⟨o1,o2⟩,by rw [hfl];exact ⟨k1,by show x.ended+1=_;omega⟩,h.JL (by omega),h.sp,h.IB,h.en,.inl rfl,(by intros;(try dsimp only at *);omega)⟩
 ·show e.again=_
  rw [hag];have:=h.t0 (.inr hp);simp [this]
 ·rw [hfl]
  show (!e.fZ)=_;rw [h.IU]
  by_cases c:V.aO t % 2=1
  ·have:¬(V.aO t+1) % 2=1:=by omega
   simp [c,this]
  ·have:(V.aO t+1) % 2=1:=by omega
   simp [c,this]
theorem aBC (h:fX P n cap V t e x) (hp:x.part=0) (o:Op):fX P n cap (V.more t o) t (bU.enter {e with op:=o,again:=false} 1) {x with ops:=x.ops++[o],tries:=0,part:=1,left:=3}:=by
 obtain ⟨k1,k2,k3⟩:=h.c0 hp;have ho:(V.more t o).ops t=V.ops t++[o]:=aC _ _ _;have hop:(V.more t o).op t (V.ops t).length=o:=by
  show ((V.more t o).ops t).getD _ _=_;rw [ho];simp
 exact {xo:=by rw [ho];show x.ops++[o]=_;rw [h.xo],xf:=h.xf,bk:=h.bk,bc:=h.bc,ag:=fun _=>rfl,IU:=h.IU,JO:=fun _=>by rw [ho];exact ⟨by simp,by simp [hop];rfl⟩,c1:=fun _=>by rw [ho];exact ⟨by rw [eD,k1];rfl,k2,k3⟩,sp:=h.sp,IB:=h.IB,en:=h.en,t0:=(by intros;(try dsimp only at *);omega),p1:=(by intros;(try dsimp only at *);omega),p2:=fun _=>rfl,p3:=fun _ _=>⟨rfl,(by intros;(try dsimp only at *);omega)⟩,rz:=fun _ i hi=>absurd hi (pY _),p4:=(by intros;(try dsimp only at *);omega),c0:=(by intros;(try dsimp only at *);omega),c3:=(by intros;(try dsimp only at *);omega),FK:=(by intros;(try dsimp only at *);omega),JL:=(by intros;(try dsimp only at *);omega),a0:=(by intros;(try dsimp only at *);omega),a1:=(by intros;(try dsimp only at *);omega),fd:=(by intros;(try dsimp only at *);omega),tr:=(by intros;(try dsimp only at *);omega),tn:=(by intros;(try dsimp only at *);omega),s1:=(by intros;(try dsimp only at *);omega),d5:=(by intros;(try dsimp only at *);omega),d6:=(by intros;(try dsimp only at *);omega),d7:=(by intros;(try dsimp only at *);omega),t6:=(by intros;(try dsimp only at *);omega),t7:=(by intros;(try dsimp only at *);omega),h8:=(by intros;(try dsimp only at *);omega),WN:=(by intros;(try dsimp only at *);omega),h9:=(by intros;(try dsimp only at *);omega),w9:=(by intros;(try dsimp only at *);omega),ay:=(by intros;(try dsimp only at *);omega)}
end
end Go.Proofs.YtefjhnhdagolhaaGreat.M
