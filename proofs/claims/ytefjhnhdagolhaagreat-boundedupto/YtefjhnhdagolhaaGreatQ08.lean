import Derived.Test.YtefjhnhdagolhaaGreatQ06
namespace Go.Proofs.YtefjhnhdagolhaaGreat.M
section
variable {σ:Type} {P:Plain σ} {n cap:Nat} {V:View σ} {t:Nat} {e:aS σ} {x:bA}
theorem pZ.same {e':aS σ} {x':bA} (b:pZ P n cap V t e x) (h1:x'.ops=x.ops) (h2:x'.aM=x.aM) (h3:e'.aG=e.aG) (h4:x'.aG=x.aG) (h5:e'.again=e.again) (h5':x'.tries=x.tries) (h6:e'.cQ=e.cQ) (h7:e'.op=e.op) (h8:x'.ended=x.ended) (h9:e'.spare=e.spare) (MD:e'.kept=e.kept) (XW:e'.ended=e.ended):pZ P n cap V t e' x' :=
 b.with h1 h2 (by rw [h3,h4];exact b.bk) (by rw [h4];exact b.bc) (by rw [h5,h5'];exact b.ag) h6 h7 h8 h9 MD XW (by rw [h5'];exact b.tr) (by rw [h5'];exact b.tn)
theorem XV.same {e':aS σ} {x':bA} (a:XV P n V t e x) (h1:x'.stamp=x.stamp) (h2:e'.stamp=e.stamp) (h3:e'.aR=e.aR) (h4:x'.tries=x.tries) (h5:e'.spare=e.spare):XV P n V t e' x' :=
 ⟨by rw [h1,h2];exact a.st,by rw [h2];exact a.le,by rw [h2,h3];exact a.pb,by rw [h2,h3];exact a.cur,by rw [h2];exact a.nf,by rw [h2,h4];exact a.nf2,by rw [h2,h5];exact a.spb,by rw [h3];exact a.some⟩
theorem aBb (hn:0<n):0<tw n:=by unfold tw;omega
theorem aGi (h:eU P n cap V t e x) (hp:x.part=3):(1<x.left→eU P n cap V t (e.pass e.aG 4) {x with left:=x.left-1})∧(x.left=1→eU P n cap V t (e.pass e.aG 4) (bA.enter n {x with left:=0} 4)):=by
 have b:=h.base (by omega)
 obtain ⟨l1,l2⟩:=h.p3 (by omega) (by omega)
 have l3:x.len n x.part=x.aG:=by rw [hp];simp [bA.len]
 have hb:=b.bk
 constructor
 ·intro hl
  have e1:e.pass e.aG 4 = {e with past:=e.past+1}:=by unfold aS.pass;rw [if_neg (by omega)]
  rw [e1]
  refine eU.ZC (b.same rfl rfl rfl rfl rfl rfl rfl rfl rfl rfl rfl rfl) (.inl hp) (h.p2 (by omega)) ⟨?_,by show 0<x.left-1;omega⟩
  show e.past+1+(x.left-1)=bA.len n x x.part
  omega
 ·intro hl
  have e1:e.pass e.aG 4=e.enter 4:=by unfold aS.pass;rw [if_pos (by omega)]
  have e2:bA.enter n {x with left:=0} 4 = {x with part:=4,left:=1}:=by simp [bA.enter,bA.len]
  rw [e1,e2]
  exact eU.ZC (b.same rfl rfl rfl rfl rfl rfl rfl rfl rfl rfl rfl rfl) (.inr rfl) rfl ⟨rfl,(by intros;(try dsimp only at *);omega)⟩
theorem aGj (h:eU P n cap V t e x) (hG:gO P n V) (hp:x.part=4):x.left=1∧eU P n cap V t (aS.enter {e with stamp:=V.N,aR:=V.prec} 5) (bA.enter n {x with left:=0,stamp:=V.N} 5):=by
 have b:=h.base (by omega)
 obtain ⟨l1,l2⟩:=h.p3 (by omega) (by omega)
 have l3:x.len n x.part=1:=by rw [hp];simp [bA.len]
 refine ⟨by omega,?_⟩
 have e2:bA.enter n {x with left:=0,stamp:=V.N} 5 = {x with part:=5,left:=aQ n+1,stamp:=V.N}:=by simp [bA.enter,bA.len]
 rw [e2]
 obtain ⟨f,hf⟩:=hG.zJ
 refine eU.mk5 (b.same rfl rfl rfl rfl rfl rfl rfl rfl rfl rfl rfl rfl) ⟨rfl,Nat.le_refl _,by show V.N≤V.pb V.prec;rw [hG.pbc];exact Nat.le_refl _,fun _=>rfl,hG.nfN t,b.tn,hG.pbN _,by show (V.eX V.prec).isSome=true;rw [hf];rfl⟩ rfl rfl ⟨?_,(by intros;(try dsimp only at *);omega)⟩ ⟨fun k _ _=>⟨fun q=>absurd q (Nat.not_lt_zero _),fun q=>absurd q (Nat.not_lt_zero _)⟩,fun _ i hi=>absurd hi (Nat.not_lt_zero _)⟩
 show 0+(aQ n+1)=_
 omega
theorem aC9 (h:eU P n cap V t e x) (hG:gO P n V) (hp:x.part=5) (hw:e.past<aQ n):1<x.left∧eU P n cap V t (aS.pass {e with dw:=aI e.dw e.past (V.rw e.aR e.past)} (aQ n+1) 6) {x with left:=x.left-1}:=by
 have b:=h.base (by omega)
 have a:=h.vR (by omega) (by omega)
 obtain ⟨l1,l2⟩:=h.p3 (by omega) (by omega)
 have l3:x.len n x.part=aQ n+1:=by rw [hp];simp [bA.len]
 refine ⟨by omega,?_⟩
 have e1:aS.pass {e with dw:=aI e.dw e.past (V.rw e.aR e.past)} (aQ n+1) 6 = {e with dw:=aI e.dw e.past (V.rw e.aR e.past),past:=e.past+1}:=by unfold aS.pass;rw [if_neg (by dsimp only;omega)]
 rw [e1]
 obtain ⟨d1,d2⟩:=h.d5 hp
 refine eU.mk5 (b.same rfl rfl rfl rfl rfl rfl rfl rfl rfl rfl rfl rfl) (a.same rfl rfl rfl rfl rfl) hp ((h.p2 (by omega)).trans hp) ⟨by show e.past+1+(x.left-1)=_;omega,by show 0<x.left-1;omega⟩ ⟨?_,?_⟩
 ·intro k hk hq
  obtain ⟨f1,f2⟩:=d1 k hk hq
  obtain ⟨g1,g2⟩:=hG.recs e.aR k hk (quiet_mono a.pb hq)
  constructor
  ·intro q
   show aI e.dw e.past (V.rw e.aR e.past) (aL n k)=_
   have q':aL n k<e.past+1:=q
   by_cases c:aL n k=e.past
   ·rw [c,aC,←c];exact g1
   ·rw [aD _ _ c];exact f1 (by omega)
  ·intro q
   show aI e.dw e.past (V.rw e.aR e.past) (aN n k)=_
   have q':aN n k<e.past+1:=q
   by_cases c:aN n k=e.past
   ·rw [c,aC,←c];exact g2
   ·rw [aD _ _ c];exact f2 (by omega)
 ·intro q i hi hi2
  show aI e.dw e.past (V.rw e.aR e.past) i=_
  have hi':i<e.past+1:=hi
  by_cases c:i=e.past
  ·rw [c,aC,a.cur q]
  ·rw [aD _ _ c];exact d2 q i (by omega) hi2
theorem aDa (hn:0<n) (h:eU P n cap V t e x) (hG:gO P n V) (hp:x.part=5) (hw:¬e.past<aQ n):x.left=1∧eU P n cap V t (aS.pass {e with now:=(V.eX e.aR).map Prod.fst,cD:=(V.eX e.aR).map Prod.fst} (aQ n+1) 6) (bA.enter n {x with left:=0} 6):=by
 have b:=h.base (by omega)
 have a:=h.vR (by omega) (by omega)
 obtain ⟨l1,l2⟩:=h.p3 (by omega) (by omega)
 have l3:x.len n x.part=aQ n+1:=by rw [hp];simp [bA.len]
 refine ⟨by omega,?_⟩
 have UL:e.past=aQ n:=by omega
 have htw:=aBb hn
 have e1:aS.pass {e with now:=(V.eX e.aR).map Prod.fst,cD:=(V.eX e.aR).map Prod.fst} (aQ n+1) 6 = {e with now:=(V.eX e.aR).map Prod.fst,cD:=(V.eX e.aR).map Prod.fst,phase:=6,past:=0}:=by unfold aS.pass;rw [if_pos (by dsimp only;omega)];rfl
 have e2:bA.enter n {x with left:=0} 6 = {x with part:=6,left:=tw n}:=by
  have:tw n≠0:=by omega
  simp [bA.enter,bA.len,this]
 rw [e1,e2]
 obtain ⟨d1,d2⟩:=h.d5 hp
 rw [UL] at d1 d2
 refine eU.aBa (b.same rfl rfl rfl rfl rfl rfl rfl rfl rfl rfl rfl rfl) (a.same rfl rfl rfl rfl rfl) ⟨d1,by simpa using a.some,by simpa using a.some⟩ (.inl ⟨rfl,fun w hw=>absurd hw (Nat.not_lt_zero _),fun k _ hk=>absurd hk (Nat.not_lt_zero _)⟩) rfl ⟨?_,htw⟩ ?_
 ·show 0+tw n=_
  simp [bA.len]
 ·intro q
  obtain ⟨f,hf⟩:=hG.zJ
  have:(V.eX e.aR).map Prod.fst=some ⟨(V.rp P).st,num V.bs⟩:=by rw [a.cur q,hf];rfl
  exact ⟨fun i hi=>d2 q i hi hi,this,this⟩
theorem aGk (h:eU P n cap V t e x) (hG:gO P n V) (hp:x.part=6) (fd:Nat→Nat) (hfd:fd=fun k=>if k / 16=tw n-(x.left-1)-1∧k<n then V.aM k else x.flipped k) :
  (1<x.left→eU P n cap V t (aS.pass {e with tg:=aI e.tg e.past (V.bC e.past)} (tw n) 7) {x with left:=x.left-1,flipped:=fd})∧(x.left=1→eU P n cap V t (aS.pass {e with tg:=aI e.tg e.past (V.bC e.past)} (tw n) 7) (bA.enter n {x with left:=0,flipped:=fd} 7)):=by
 have b:=h.base (by omega)
 have a:=h.vR (by omega) (by omega)
 obtain ⟨l1,l2⟩:=h.p3 (by omega) (by omega)
 have l3:x.len n x.part=tw n:=by rw [hp];simp [bA.len]
 have UL:tw n-(x.left-1)-1=e.past:=by omega
 rw [UL] at hfd
 obtain ⟨c1,c2,c3⟩:=h.d6 (by omega) (by omega)
 obtain ⟨s1,s2⟩:=h.t6 hp
 have hsc:kJ n V t e.stamp (e.past+1) (aI e.tg e.past (V.bC e.past)) fd:=by
  refine ⟨fun w hw=>?_,fun k hk hkc=>?_⟩
  ·by_cases c:w=e.past
   ·subst c
    rw [aC,hG.bC _ (by omega)]
    apply rX
    intro k UM hk2
    rw [hfd]
    simp [UM,hk2]
   ·rw [aD _ _ c,s1 w (by omega)]
    apply rX
    intro k UM hk2
    rw [hfd]
    have:¬(k / 16=e.past∧k<n):=by omega
    simp only [this,if_false]
  ·rw [hfd]
   by_cases c:k / 16=e.past
   ·simp only [c,hk,and_self,if_true]
    have:=pY V.bs e.stamp k
    have h2:=(hG.fl k hk).1
    exact ⟨by show cnt (V.bs.take e.stamp) k≤_;omega,Nat.le_refl _,fun _=>trivial⟩
   ·have:¬(k / 16=e.past∧k<n):=by omega
    simp only [this,if_false]
    exact s2 k hk (by omega)
 have hd:=h.d7 (.inl hp)
 constructor
 ·intro hl
  have e1:aS.pass {e with tg:=aI e.tg e.past (V.bC e.past)} (tw n) 7 = {e with tg:=aI e.tg e.past (V.bC e.past),past:=e.past+1}:=by unfold aS.pass;rw [if_neg (by dsimp only;omega)]
  rw [e1]
  refine eU.aBa (b.same rfl rfl rfl rfl rfl rfl rfl rfl rfl rfl rfl rfl) (a.same rfl rfl rfl rfl rfl) ⟨c1,c2,c3⟩ (.inl ⟨hp,hsc⟩) (h.p2 (by omega)) ⟨?_,by show 0<x.left-1;omega⟩ hd
  show e.past+1+(x.left-1)=bA.len n {x with left:=x.left-1,flipped:=fd} x.part
  have:bA.len n {x with left:=x.left-1,flipped:=fd} x.part=x.len n x.part:=by rw [hp];rfl
  omega
 ·intro hl
  have e1:aS.pass {e with tg:=aI e.tg e.past (V.bC e.past)} (tw n) 7 = {e with tg:=aI e.tg e.past (V.bC e.past),phase:=7,past:=0}:=by unfold aS.pass;rw [if_pos (by dsimp only;omega)];rfl
  have e2:bA.enter n {x with left:=0,flipped:=fd} 7 = {x with part:=7,left:=1,flipped:=fd}:=by simp [bA.enter,bA.len]
  rw [e1,e2]
  rw [show e.past+1=tw n by omega] at hsc
  exact eU.aBa (b.same rfl rfl rfl rfl rfl rfl rfl rfl rfl rfl rfl rfl) (a.same rfl rfl rfl rfl rfl) ⟨c1,c2,c3⟩ (.inr ⟨rfl,hsc⟩) rfl ⟨rfl,(by intros;(try dsimp only at *);omega)⟩ hd
end
section
variable {σ:Type} {P:Plain σ} {n cap:Nat} {V:View σ} {t:Nat} {e:aS σ} {x:bA}
theorem ND (h:eU P n cap V t e x) (hG:gO P n V) (hp:x.part=7) (hs:e.stamp=V.N) :
  e.waiting n=(List.range n).filter (fun k=>decide ((x.flipped k+cnt V.bs k) % 2=1))∧e.waiting n=(List.range n).filter (fun k=>decide (x.flipped k=V.at e.stamp k+1))∧∀ k,k<n→x.flipped k≤V.at e.stamp k+1:=by
 obtain ⟨s1,s2⟩:=h.t7 (by omega) (by omega)
 obtain ⟨d1,-,-⟩:=h.d7 (.inr hp) hs
 have key:∀ k,k<n→cnt V.bs k≤x.flipped k∧x.flipped k≤cnt V.bs k+1:=fun k hk=>by
  obtain ⟨a1,a2,-⟩:=s2 k hk (yZ hk)
  rw [nI V hs] at a1
  have:=(hG.fl k hk).2
  omega
 have w1:∀ k,k<n→lA e.tg k=decide (x.flipped k % 2=1):=fun k hk=>yU n _ _ k hk (s1 _ (yZ hk))
 have w2:∀ k,k<n→lA e.dw k=decide (cnt V.bs k % 2=1):=fun k hk=>yU n _ _ k hk (by
  have:=yZ hk
  rw [d1 _ (by unfold aQ;omega),hG.RD _ this])
 refine ⟨?_,?_,fun k hk=>by rw [nI V hs];exact (key k hk).2⟩
 ·unfold aS.waiting
  apply List.filter_congr
  intro k hk
  have hk:=List.mem_range.1 hk
  rw [w1 k hk,w2 k hk]
  have:=key k hk
  by_cases q:x.flipped k=cnt V.bs k
  ·rw [q]
   have:¬(cnt V.bs k+cnt V.bs k) % 2=1:=by omega
   simp [this]
  ·rw [show x.flipped k=cnt V.bs k+1 by omega]
   have:(cnt V.bs k+1+cnt V.bs k) % 2=1:=by omega
   rw [this]
   by_cases r:cnt V.bs k % 2=1
   ·have:¬(cnt V.bs k+1) % 2=1:=by omega
    simp [r,this]
   ·have:(cnt V.bs k+1) % 2=1:=by omega
    simp [r,this]
 ·unfold aS.waiting
  apply List.filter_congr
  intro k hk
  have hk:=List.mem_range.1 hk
  rw [w1 k hk,w2 k hk,nI V hs]
  have:=key k hk
  by_cases q:x.flipped k=cnt V.bs k
  ·rw [q];simp
  ·rw [show x.flipped k=cnt V.bs k+1 by omega]
   by_cases r:cnt V.bs k % 2=1
   ·have:¬(cnt V.bs k+1) % 2=1:=by omega
    simp [r,this]
   ·have:(cnt V.bs k+1) % 2=1:=by omega
    simp [r,this]
theorem aGl (ht:t<n) (h:eU P n cap V t e x) (hG:gO P n V) (hp:x.part=7) :
  x.left=1∧(e.stamp≠V.N→eU P n cap V t (e.fail cap) (bA.fail n cap {x with left:=0})) ∧
  (e.stamp=V.N→∀ pd,pd=(List.range n).filter (fun k=>decide ((x.flipped k+cnt V.bs k) % 2=1))→e.waiting n=pd∧eU P n cap V t (aS.enter {e with aJ:=pd} (if t∈pd then 8 else 11)) (bA.enter n {x with left:=0,aJ:=pd} (if t∈pd then 8 else 11))):=by
 have b:=h.base (by omega)
 have a:=h.vR (by omega) (by omega)
 obtain ⟨l1,l2⟩:=h.p3 (by omega) (by omega)
 have l3:x.len n x.part=1:=by rw [hp];simp [bA.len]
 refine ⟨by omega,fun hs=>?_,fun hs pd TI=>?_⟩
 ·exact eU.failed (x:={x with left:=0}) (b.same rfl rfl rfl rfl rfl rfl rfl rfl rfl rfl rfl rfl) (a.same rfl rfl rfl rfl rfl) hG ht hs
 ·obtain ⟨q1,q2,q3⟩:=ND h hG hp hs
  rw [←TI] at q1
  rw [q1] at q2
  refine ⟨q1,?_⟩
  obtain ⟨c1,c2,c3⟩:=h.d6 (by omega) (by omega)
  obtain ⟨d1,d2,d3⟩:=h.d7 (.inr hp) hs
  have sc:=h.t7 (by omega) (by omega)
  by_cases hm:t∈pd
  ·rw [if_pos hm]
   have hlen:pd.length≠0:=by
    intro q
    rw [List.length_eq_zero_iff.1 q] at hm
    simp at hm
   have e2:bA.enter n {x with left:=0,aJ:=pd} 8 = {x with part:=8,left:=3*pd.length,aJ:=pd}:=by
    have:¬3*pd.length=0:=by omega
    simp [bA.enter,bA.len,this]
   rw [e2]
   refine eU.mk8 (b.same rfl rfl rfl rfl rfl rfl rfl rfl rfl rfl rfl rfl) (a.same rfl rfl rfl rfl rfl) ⟨c1,c2,c3⟩ sc ⟨rfl,q2,hm,q3⟩ ⟨(by intros;(try dsimp only at *);omega),(by intros;(try dsimp only at *);omega)⟩ rfl ⟨?_,by show 0<3*pd.length;omega⟩ ?_ (by intros;(try dsimp only at *);omega) (by intros;(try dsimp only at *);omega) (by intros;(try dsimp only at *);omega)
   ·show 0+3*pd.length=_
    simp [bA.len]
   ·intro _ _
    have hr:(V.rp P).run P V.op (pd.take (0 / 3))=V.rp P:=rfl
    show e.cD=_∧e.now=some ⟨((V.rp P).run P V.op (pd.take (0 / 3))).st,num V.bs⟩∧oV n ((V.rp P).run P V.op (pd.take (0 / 3))) e.dw∧∀ q,q<0 % 3→_
    rw [hr]
    refine ⟨d3,d2,fun k hk=>?_,fun q hq=>absurd hq (Nat.not_lt_zero _)⟩
    obtain ⟨g1,g2⟩:=hG.MP k hk
    have i1:aL n k<aQ n:=by unfold aL aQ;omega
    have i2:aN n k<aQ n:=by unfold aN aQ;omega
    exact ⟨(d1 _ i1).trans g1,(d1 _ i2).trans g2⟩
  ·rw [if_neg hm]
   have e2:bA.enter n {x with left:=0,aJ:=pd} 11 = {x with part:=11,left:=3,aJ:=pd}:=by simp [bA.enter,bA.len]
   rw [e2]
   refine eU.UK (b.same rfl rfl rfl rfl rfl rfl rfl rfl rfl rfl rfl rfl) rfl ⟨(by intros;(try dsimp only at *);omega),(by intros;(try dsimp only at *);omega),rfl⟩ ?_ (by intros;(try dsimp only at *);omega) (by intros;(try dsimp only at *);omega)
   have o1:=(sc.2 t ht (yZ ht)).2.2 (.inl rfl)
   have o2:=hG.fl t ht
   have o3:x.flipped t≠V.at e.stamp t+1:=fun q=>hm (by rw [q2,List.mem_filter];exact ⟨List.mem_range.2 ht,decide_eq_true q⟩)
   rw [nI V hs] at o3
   omega
theorem aDb (ht:t<n) (h:eU P n cap V t e x) (hG:gO P n V) (hp:x.part=11) :
  (x.left=3→eU P n cap V t (aS.enter {e with found:=V.prec} 12) {x with left:=x.left-1}) ∧
  (x.left=2→eU P n cap V t (aS.enter {e with yA:=V.rw e.found (aL n t)} 13) {x with left:=x.left-1}) ∧
  (x.left=1→eU P n cap V t (aS.enter {e with val:=V.rw e.found (aN n t),ended:=true} 0) {x with left:=0,part:=0,ended:=x.ended+1}):=by
 have b:=h.base (by omega)
 have hc:=h.vS hp
 refine ⟨fun hl=>?_,fun hl=>?_,fun hl=>?_⟩
 ·refine eU.UK (b.same rfl rfl rfl rfl rfl rfl rfl rfl rfl rfl rfl rfl) hp ⟨(by intros;(try dsimp only at *);omega),(by intros;(try dsimp only at *);omega),by show 12=14-(x.left-1);omega⟩ hc (fun q=>absurd (show x.left-1=1 from q) (by omega)) (fun _=>?_)
  show V.at (V.pb V.prec) t=_
  rw [hG.pbc]
  exact nI V rfl t
 ·obtain ⟨g1,g2⟩:=hG.recs e.found t ht ⟨hc.symm,h.fd hp (by omega)⟩
  exact eU.UK (b.same rfl rfl rfl rfl rfl rfl rfl rfl rfl rfl rfl rfl) hp ⟨(by intros;(try dsimp only at *);omega),(by intros;(try dsimp only at *);omega),by show 13=14-(x.left-1);omega⟩ hc (fun _=>g1) (fun _=>h.fd hp (by omega))
 ·obtain ⟨g1,g2⟩:=hG.recs e.found t ht ⟨hc.symm,h.fd hp (by omega)⟩
  have aGm:=h.a1 hp hl
  exact {xo:=b.xo,xf:=b.xf,bk:=b.bk,bc:=b.bc,wK:=b.wK,sp:=b.sp,wL:=b.wL,p1:=(by intros;(try dsimp only at *);omega),p2:=fun _=>rfl,en:=by simp [aS.enter],c0:=fun _=>⟨b.c3.1,b.c3.2,hc⟩,a0:=fun _ _=>⟨aGm,g2⟩,ag:=(by intros;(try dsimp only at *);omega),yD:=(by intros;(try dsimp only at *);omega),c3:=(by intros;(try dsimp only at *);omega),yE:=(by intros;(try dsimp only at *);omega),tr:=(by intros;(try dsimp only at *);omega),tn:=(by intros;(try dsimp only at *);omega),p3:=(by intros;(try dsimp only at *);omega),p4:=(by intros;(try dsimp only at *);omega),c1:=(by intros;(try dsimp only at *);omega),t0:=(by intros;(try dsimp only at *);omega),vS:=(by intros;(try dsimp only at *);omega),RG:=(by intros;(try dsimp only at *);omega),a1:=(by intros;(try dsimp only at *);omega),fd:=(by intros;(try dsimp only at *);omega),s1:=(by intros;(try dsimp only at *);omega),d5:=(by intros;(try dsimp only at *);omega),d6:=(by intros;(try dsimp only at *);omega),d7:=(by intros;(try dsimp only at *);omega),t6:=(by intros;(try dsimp only at *);omega),t7:=(by intros;(try dsimp only at *);omega),h8:=(by intros;(try dsimp only at *);omega),JU:=(by intros;(try dsimp only at *);omega),h9:=(by intros;(try dsimp only at *);omega),w9:=(by intros;(try dsimp only at *);omega),MC:=(by intros;(try dsimp only at *);omega)}
end
section
variable {σ:Type} {P:Plain σ} {n cap:Nat} {V:View σ} {t:Nat} {e:aS σ} {x:bA}
theorem zC {ops:Nat→Nat→Op} {r:Rp σ} {dw:Nat→Int} {k:Nat} {o:Op} (hk:k<n) (ha:oV n r dw) (ho:ops k (r.c k)=o) :
  oV n (r.next P ops k) (aI (aI dw (aL n k) (P.apply r.st o).2.s) (aN n k) (P.apply r.st o).2.v):=by
 subst ho
 intro q hq
 have i1:aL n q≠aN n k:=by unfold aL aN;omega
 rw [aD _ _ i1]
 by_cases c:q=k
 ·subst c
  rw [aC,aC]
  exact ⟨by simp [Rp.next,aC],by simp [Rp.next,aC]⟩
 ·have i2:aL n q≠aL n k:=by unfold aL;omega
  have i3:aN n q≠aN n k:=by unfold aN;omega
  have i4:aN n q≠aL n k:=by unfold aN aL;omega
  rw [aD _ _ i2,aD _ _ i3,aD _ _ i4]
  rw [show (r.next P ops k).an q=r.an q from aD _ _ c]
  exact ha q hq
theorem tQ {s:Nat} {dw:Nat→Int} {k:Nat} {u v:Int} (hk:k<n) (hq:¬V.quiet s k) (h:kP P n V s (aQ n) dw):kP P n V s (aQ n) (aI (aI dw (aL n k) u) (aN n k) v):=by
 intro q hqn hqq
 have c:q≠k:=by rintro rfl;exact hq hqq
 have i1:aL n q≠aN n k:=by unfold aL aN;omega
 have i2:aL n q≠aL n k:=by unfold aL;omega
 have i3:aN n q≠aN n k:=by unfold aN;omega
 have i4:aN n q≠aL n k:=by unfold aN aL;omega
 rw [aD _ _ i1,aD _ _ i2,aD _ _ i3,aD _ _ i4]
 exact h q hqn hqq
theorem GN {s:Nat} {dw tg:Nat→Int} (h:kP P n V s (aQ n) dw):kP P n V s (aQ n) (fun i=>if i<tw n then tg i else dw i):=by
 intro q hqn hqq
 have i1:¬aL n q<tw n:=by unfold aL;omega
 have i2:¬aN n q<tw n:=by unfold aN;omega
 simp only [i1,i2,if_false]
 exact h q hqn hqq
theorem RL {r:Rp σ} {dw tg:Nat→Int} (h:oV n r dw):oV n r (fun i=>if i<tw n then tg i else dw i):=by
 intro q hqn
 have i1:¬aL n q<tw n:=by unfold aL;omega
 have i2:¬aN n q<tw n:=by unfold aN;omega
 simp only [i1,i2,if_false]
 exact h q hqn
theorem aGn (h:eU P n cap V t e x) (hG:gO P n V) (hp:x.part=8) (e3:aS σ) (k:Nat) (hk:k=e.aJ.getD (e.past / 3) 0)
  (UN:e3=(if e.past+1=3*e.aJ.length then aS.close n (if e.past % 3=2 then aS.apply P n {e with heard:=aI e.heard (e.past % 3) (V.eH k (e.past % 3))} k else {e with heard:=aI e.heard (e.past % 3) (V.eH k (e.past % 3))}) else (if e.past % 3=2 then aS.apply P n {e with heard:=aI e.heard (e.past % 3) (V.eH k (e.past % 3))} k else {e with heard:=aI e.heard (e.past % 3) (V.eH k (e.past % 3))}))) :
  k<n∧(1<x.left→eU P n cap V t (e3.pass (3*e.aJ.length) 9) {x with left:=x.left-1})∧(x.left=1→eU P n cap V t (e3.pass (3*e.aJ.length) 9) (bA.enter n {x with left:=0} 9)):=by
 have b:=h.base (by omega)
 have a:=h.vR (by omega) (by omega)
 obtain ⟨l1,l2⟩:=h.p3 (by omega) (by omega)
 obtain ⟨q1,q2⟩:=h.h8 (by omega) (by omega)
 have sc:=h.t7 (by omega) (by omega)
 have l3:x.len n x.part=3*e.aJ.length:=by rw [hp,q1];simp [bA.len]
 obtain ⟨c1,c2,c3⟩:=h.d6 (by omega) (by omega)
 have hi:e.past / 3<e.aJ.length:=by omega
 have BS:e.aJ[e.past / 3]?=some k:=by rw [List.getElem?_eq_getElem hi,hk,List.getD_eq_getElem?_getD,List.getElem?_eq_getElem hi];rfl
 have hkm:k∈e.aJ:=List.mem_of_getElem? BS
 obtain ⟨k1,k2⟩:=q2.mem.1 hkm
 have hfl:=(sc.2 k k1 (yZ k1)).2.1
 have hnq:¬V.quiet e.stamp k:=by rintro ⟨u1,u2⟩;omega
 have h8:=h.JU hp
 obtain ⟨v,hv⟩:=Option.isSome_iff_exists.1 c2
 refine ⟨k1,?_,?_⟩
 ·intro hl
  rw [if_neg (by omega)] at UN
  by_cases hj:e.past % 3=2
  ·rw [if_pos hj] at UN
   have e1:e3 = {e with heard:=aI e.heard (e.past % 3) (V.eH k (e.past % 3)),now:=some {v with st:=(P.apply v.st (fS (aI e.heard (e.past % 3) (V.eH k (e.past % 3))))).1},dw:=aI (aI e.dw (aL n k) (P.apply v.st (fS (aI e.heard (e.past % 3) (V.eH k (e.past % 3))))).2.s) (aN n k) (P.apply v.st (fS (aI e.heard (e.past % 3) (V.eH k (e.past % 3))))).2.v}:=by
    rw [UN];unfold aS.apply;simp only [hv]
   have hps:e3.pass (3*e.aJ.length) 9 = {e3 with past:=e.past+1}:=by
    rw [e1];unfold aS.pass;rw [if_neg (by dsimp only;omega)]
   rw [hps,e1]
   refine eU.mk8 (b.same rfl rfl rfl rfl rfl rfl rfl rfl rfl rfl rfl rfl) (a.same rfl rfl rfl rfl rfl) ⟨tQ k1 hnq c1,rfl,c3⟩ sc ⟨q1,q2⟩ ⟨by show 8≤x.part;omega,by show x.part≤10;omega⟩ (h.p2 (by omega)) ⟨?_,by show 0<x.left-1;omega⟩ (fun _ hs=>?_) (by intros;(try dsimp only at *);omega) (by intros;(try dsimp only at *);omega) (by intros;(try dsimp only at *);omega)
   ·show e.past+1+(x.left-1)=x.len n x.part
    omega
   ·obtain ⟨g1,g2,g3,g4⟩:=h8 hs
    have RM:v=⟨((V.rp P).run P V.op (e.aJ.take (e.past / 3))).st,num V.bs⟩:=by rw [hv] at g2;injection g2
    have hd:(e.past+1) / 3=e.past / 3+1:=by omega
    have hm:(e.past+1) % 3=0:=by omega
    have hop:fS (aI e.heard (e.past % 3) (V.eH k (e.past % 3)))=V.op k (cnt V.bs k):=by
     have hlt:cnt V.bs k<V.aM k:=by rw [nI V hs] at k2;omega
     have w:=hG.UD k k1 hlt
     rw [←hk] at g4
     have w0:=(g4 0 (by omega)).trans (w 0 (by decide))
     have w1:=(g4 1 (by omega)).trans (w 1 (by decide))
     have w2:=w 2 (by decide)
     unfold fS
     rw [hj,aC,aD _ _ (by decide),aD _ _ (by decide),w0,w1,w2]
     simp [Op.w]
    have hrun:(V.rp P).run P V.op (e.aJ.take (e.past / 3+1))=((V.rp P).run P V.op (e.aJ.take (e.past / 3))).next P V.op k:=by
     rw [List.take_add_one,BS]
     exact KA P V.op _ _ k
    have XX:((V.rp P).run P V.op (e.aJ.take (e.past / 3))).c k=cnt V.bs k:=by
     rw [KC,show (V.rp P).c k=cnt V.bs k from BH P V.op V.bs k]
     have u1:=q2.count k
     rw [if_pos hkm] at u1
     have u2:e.aJ=e.aJ.take (e.past / 3)++k::e.aJ.drop (e.past / 3+1):=by
      conv=>lhs;rw [←List.take_append_drop (e.past / 3) e.aJ]
      rw [List.drop_eq_getElem_cons hi]
      rw [List.getElem?_eq_getElem hi] at BS
      injection BS with BS
      rw [BS]
     rw [u2,List.count_append,List.count_cons_self] at u1
     omega
    dsimp only
    rw [hd,hm,hrun,hop,RM]
    refine ⟨g1,?_,zC k1 g3 (by rw [XX]),fun q hq=>absurd hq (Nat.not_lt_zero _)⟩
    unfold Rp.next
    rw [XX]
  ·rw [if_neg hj] at UN
   have hps:e3.pass (3*e.aJ.length) 9 = {e3 with past:=e.past+1}:=by
    rw [UN];unfold aS.pass;rw [if_neg (by dsimp only;omega)]
   rw [hps,UN]
   refine eU.mk8 (b.same rfl rfl rfl rfl rfl rfl rfl rfl rfl rfl rfl rfl) (a.same rfl rfl rfl rfl rfl) ⟨c1,c2,c3⟩ sc ⟨q1,q2⟩ ⟨by show 8≤x.part;omega,by show x.part≤10;omega⟩ (h.p2 (by omega)) ⟨?_,by show 0<x.left-1;omega⟩ (fun _ hs=>?_) (by intros;(try dsimp only at *);omega) (by intros;(try dsimp only at *);omega) (by intros;(try dsimp only at *);omega)
   ·show e.past+1+(x.left-1)=x.len n x.part
    omega
   ·obtain ⟨g1,g2,g3,g4⟩:=h8 hs
    have hd:(e.past+1) / 3=e.past / 3:=by omega
    have hm:(e.past+1) % 3=e.past % 3+1:=by omega
    dsimp only
    rw [hd,hm]
    refine ⟨g1,g2,g3,fun q hq=>?_⟩
    by_cases c:q=e.past % 3
    ·rw [c,aC,hk]
    ·rw [aD _ _ c]
     exact g4 q (by omega)
 ·intro hl
  have hj:e.past % 3=2:=by omega
  have tR:e.past / 3+1=e.aJ.length:=by omega
  rw [if_pos (by omega),if_pos hj] at UN
  have e1:e3 = {e with heard:=aI e.heard (e.past % 3) (V.eH k (e.past % 3)),now:=some ⟨(P.apply v.st (fS (aI e.heard (e.past % 3) (V.eH k (e.past % 3))))).1,(e.cD.map cY.bs).getD []++[(e.stamp+1,e.aJ)]⟩,dw:=fun i=>if i<tw n then e.tg i else aI (aI e.dw (aL n k) (P.apply v.st (fS (aI e.heard (e.past % 3) (V.eH k (e.past % 3))))).2.s) (aN n k) (P.apply v.st (fS (aI e.heard (e.past % 3) (V.eH k (e.past % 3))))).2.v i}:=by
   rw [UN];unfold aS.apply aS.close;simp only [hv];rfl
  have hps:e3.pass (3*e.aJ.length) 9=e3.enter 9:=by
   rw [e1];unfold aS.pass;rw [if_pos (by dsimp only;omega)]
  have e2:bA.enter n {x with left:=0} 9 = {x with part:=9,left:=aQ n+1}:=by simp [bA.enter,bA.len]
  rw [hps,e1,e2]
  refine eU.mk8 (b.same rfl rfl rfl rfl rfl rfl rfl rfl rfl rfl rfl rfl) (a.same rfl rfl rfl rfl rfl) ⟨GN (tQ k1 hnq c1),rfl,c3⟩ sc ⟨q1,q2⟩ ⟨(by intros;(try dsimp only at *);omega),(by intros;(try dsimp only at *);omega)⟩ rfl ⟨?_,(by intros;(try dsimp only at *);omega)⟩ (by intros;(try dsimp only at *);omega) (fun _ hs=>?_) (fun _ i hi=>absurd hi (Nat.not_lt_zero _)) (by intros;(try dsimp only at *);omega)
  ·show 0+(aQ n+1)=_
   simp [bA.len]
  ·have hs:e.stamp=V.N:=hs
   obtain ⟨g1,g2,g3,g4⟩:=h8 hs
   have RM:v=⟨((V.rp P).run P V.op (e.aJ.take (e.past / 3))).st,num V.bs⟩:=by rw [hv] at g2;injection g2
   have hop:fS (aI e.heard (e.past % 3) (V.eH k (e.past % 3)))=V.op k (cnt V.bs k):=by
    have hlt:cnt V.bs k<V.aM k:=by rw [nI V hs] at k2;omega
    have w:=hG.UD k k1 hlt
    rw [←hk] at g4
    have w0:=(g4 0 (by omega)).trans (w 0 (by decide))
    have w1:=(g4 1 (by omega)).trans (w 1 (by decide))
    have w2:=w 2 (by decide)
    unfold fS
    rw [hj,aC,aD _ _ (by decide),aD _ _ (by decide),w0,w1,w2]
    simp [Op.w]
   have hrun:(V.rp P).run P V.op e.aJ=((V.rp P).run P V.op (e.aJ.take (e.past / 3))).next P V.op k:=by
    conv=>lhs;rw [←List.take_of_length_le (Nat.le_of_eq tR.symm)]
    rw [List.take_add_one,BS]
    exact KA P V.op _ _ k
   have XX:((V.rp P).run P V.op (e.aJ.take (e.past / 3))).c k=cnt V.bs k:=by
    rw [KC,show (V.rp P).c k=cnt V.bs k from BH P V.op V.bs k]
    have u1:=q2.count k
    rw [if_pos hkm] at u1
    have u2:e.aJ=e.aJ.take (e.past / 3)++k::e.aJ.drop (e.past / 3+1):=by
     conv=>lhs;rw [←List.take_append_drop (e.past / 3) e.aJ]
     rw [List.drop_eq_getElem_cons hi]
     rw [List.getElem?_eq_getElem hi] at BS
     injection BS with BS
     rw [BS]
    rw [u2,List.count_append,List.count_cons_self] at u1
    omega
   show some (cY.mk _ _)=some (cY.mk ((V.rp P).run P V.op e.aJ).st (num (V.bs++[e.aJ])))∧oV n ((V.rp P).run P V.op e.aJ) _∧∀ w,w<tw n→(if w<tw n then e.tg w else _)=bits n x.flipped w
   rw [hrun,hop,RM,g1,rZ,hs]
   refine ⟨?_,RL (zC k1 g3 (by rw [XX])),fun w hw=>?_⟩
   ·unfold Rp.next
    rw [XX]
    rfl
   ·rw [if_pos hw]
    exact sc.1 w hw
end
section
variable {σ:Type} {P:Plain σ} {n cap:Nat} {V:View σ} {t:Nat} {e:aS σ} {x:bA}
theorem aDd (h:eU P n cap V t e x) (hp:x.part=9) (hw:e.past<aQ n) :
  1<x.left∧eU P n cap {V with rw:=aI V.rw e.spare (aI (V.rw e.spare) e.past (e.dw e.past))} t (e.pass (aQ n+1) 10) {x with left:=x.left-1}:=by
 have b:=h.base (by omega)
 have a:=h.vR (by omega) (by omega)
 obtain ⟨l1,l2⟩:=h.p3 (by omega) (by omega)
 have l3:x.len n x.part=aQ n+1:=by rw [hp];simp [bA.len]
 obtain ⟨c1,c2,c3⟩:=h.d6 (by omega) (by omega)
 refine ⟨by omega,?_⟩
 have e1:e.pass (aQ n+1) 10 = {e with past:=e.past+1}:=by unfold aS.pass;rw [if_neg (by omega)]
 rw [e1]
 refine eU.mk8 ⟨b.xo,b.xf,b.bk,b.bc,b.ag,b.wK,b.yD,b.c3,b.yE,b.sp,b.wL,b.en,b.tr,b.tn⟩ ⟨a.st,a.le,a.pb,a.cur,a.nf,a.nf2,a.spb,a.some⟩ ⟨c1,c2,c3⟩ (h.t7 (by omega) (by omega)) (h.h8 (by omega) (by omega)) ⟨by show 8≤x.part;omega,by show x.part≤10;omega⟩ (h.p2 (by omega)) ⟨?_,by show 0<x.left-1;omega⟩ (by intros;(try dsimp only at *);omega) (fun q=>h.h9 q) (fun _ i hi hi2=>?_) (by intros;(try dsimp only at *);omega)
 ·show e.past+1+(x.left-1)=x.len n x.part
  omega
 ·show aI V.rw e.spare (aI (V.rw e.spare) e.past (e.dw e.past)) e.spare i=e.dw i
  have hi':i<e.past+1:=hi
  rw [aC]
  by_cases c:i=e.past
  ·rw [c,aC]
  ·rw [aD _ _ c]
   exact h.w9 hp i (by omega) hi2
theorem aDe (h:eU P n cap V t e x) (hp:x.part=9) (hw:¬e.past<aQ n) :
  x.left=1∧(e.now.bind fun v=>e.cD.map fun f=>(v,f)).isSome∧eU P n cap {V with eX:=aI V.eX e.spare (e.now.bind fun v=>e.cD.map fun f=>(v,f))} t (e.pass (aQ n+1) 10) (bA.enter n {x with left:=0} 10):=by
 have b:=h.base (by omega)
 have a:=h.vR (by omega) (by omega)
 obtain ⟨l1,l2⟩:=h.p3 (by omega) (by omega)
 have l3:x.len n x.part=aQ n+1:=by rw [hp];simp [bA.len]
 obtain ⟨c1,c2,c3⟩:=h.d6 (by omega) (by omega)
 have hs:(e.now.bind fun v=>e.cD.map fun f=>(v,f)).isSome:=by
  obtain ⟨v,hv⟩:=Option.isSome_iff_exists.1 c2
  obtain ⟨f,hf⟩:=Option.isSome_iff_exists.1 c3
  rw [hv,hf]
  rfl
 refine ⟨by omega,hs,?_⟩
 have e1:e.pass (aQ n+1) 10=e.enter 10:=by unfold aS.pass;rw [if_pos (by omega)]
 have e2:bA.enter n {x with left:=0} 10 = {x with part:=10,left:=1}:=by simp [bA.enter,bA.len]
 rw [e1,e2]
 refine eU.mk8 ⟨b.xo,b.xf,b.bk,b.bc,b.ag,b.wK,b.yD,b.c3,b.yE,b.sp,b.wL,b.en,b.tr,b.tn⟩ ⟨a.st,a.le,a.pb,a.cur,a.nf,a.nf2,a.spb,?_⟩ ⟨c1,c2,c3⟩ (h.t7 (by omega) (by omega)) (h.h8 (by omega) (by omega)) ⟨(by intros;(try dsimp only at *);omega),(by intros;(try dsimp only at *);omega)⟩ rfl ⟨rfl,(by intros;(try dsimp only at *);omega)⟩ (by intros;(try dsimp only at *);omega) (fun _=>h.h9 (.inl hp)) (by intros;(try dsimp only at *);omega) (fun _=>⟨fun i hi=>h.w9 hp i (by omega) hi,aC _ _ _⟩)
 show (aI V.eX e.spare _ e.aR).isSome=true
 unfold aI
 split
 ·exact hs
 ·exact a.some
theorem aDf (ht:t<n) (h:eU P n cap V t e x) (hG:gO P n V) (hp:x.part=10) :
  x.left=1∧(e.stamp≠V.N→eU P n cap V t (e.fail cap) (bA.fail n cap {x with left:=0})) ∧
  (e.stamp=V.N→e.aR=V.prec∧x.aJ=e.aJ∧x.stamp=e.stamp∧gO P n (V.cK e.spare e.aJ)∧Good n V e.aJ∧eU P n cap (V.cK e.spare e.aJ) t (aS.enter {e with spare:=e.kept,kept:=e.spare,aG:=e.aG / 2} 11) (bA.enter n {x with left:=0,aJ:=[],aG:=x.aG / 2} 11)):=by
 have b:=h.base (by omega)
 have a:=h.vR (by omega) (by omega)
 obtain ⟨l1,l2⟩:=h.p3 (by omega) (by omega)
 have l3:x.len n x.part=1:=by rw [hp];simp [bA.len]
 refine ⟨by omega,fun hs=>?_,fun hs=>?_⟩
 ·exact eU.failed (x:={x with left:=0}) (b.same rfl rfl rfl rfl rfl rfl rfl rfl rfl rfl rfl rfl) (a.same rfl rfl rfl rfl rfl) hG ht hs
 ·obtain ⟨q1,q2⟩:=h.h8 (by omega) (by omega)
  have sc:=h.t7 (by omega) (by omega)
  obtain ⟨w1,w2⟩:=h.MC hp
  obtain ⟨g1,g2,g3⟩:=h.h9 (.inr hp) hs
  obtain ⟨c1,c2,c3⟩:=h.d6 (by omega) (by omega)
  obtain ⟨f,hf⟩:=Option.isSome_iff_exists.1 c3
  have UO:=q2.good hs sc hG
  rw [g1,hf] at w2
  have hG':=gO.cK hG hs sc q2 w1 w2 rfl g2 g3
  refine ⟨a.cur hs,q1.symm,a.st,hG',UO,?_⟩
  have e2:bA.enter n {x with left:=0,aJ:=[],aG:=x.aG / 2} 11 = {x with part:=11,left:=3,aJ:=[],aG:=x.aG / 2}:=by simp [bA.enter,bA.len]
  rw [e2]
  have hsp:e.kept≠e.spare:=by rcases b.sp with ⟨u,v⟩|⟨u,v⟩<;>omega
  refine eU.UK ⟨b.xo,b.xf,by show e.aG / 2=x.aG / 2;rw [b.bk],by show x.aG / 2≤cap;have:=b.bc;omega,b.ag,b.wK,b.yD,b.c3,b.yE,?_,hsp,b.en,b.tr,fun q=>?_⟩ rfl ⟨(by intros;(try dsimp only at *);omega),(by intros;(try dsimp only at *);omega),rfl⟩ ?_ (by intros;(try dsimp only at *);omega) (by intros;(try dsimp only at *);omega)
  ·show (e.kept=_∧e.spare=_)∨(e.kept=_∧e.spare=_)
   rcases b.sp with ⟨u,v⟩|⟨u,v⟩
   ·exact .inr ⟨v,u⟩
   ·exact .inl ⟨v,u⟩
  ·rw [wP]
   exact Nat.lt_succ_of_lt (b.tn q)
  ·rw [wQ UO,if_pos q2.2.1]
   exact (UO.fl t q2.2.1).symm
theorem aGo (h:eU P n cap V t e x) (hp:x.part=1) :
  cnt V.bs t=V.aM t∧(1<x.left→eU P n cap {V with eH:=aI V.eH t (aI (V.eH t) e.past (e.op.w e.past))} t (e.pass 3 2) {x with left:=x.left-1}) ∧
  (x.left=1→eU P n cap {V with eH:=aI V.eH t (aI (V.eH t) e.past (e.op.w e.past))} t (e.pass 3 2) (bA.enter n {x with left:=0} 2)):=by
 obtain ⟨l1,l2⟩:=h.p3 (by omega) (by omega)
 have l3:x.len n x.part=3:=by rw [hp];simp [bA.len]
 obtain ⟨k1,k2,k3⟩:=h.c1 (.inl hp)
 have han:∀ i,i<e.past+1→aI V.eH t (aI (V.eH t) e.past (e.op.w e.past)) t i=e.op.w i:=by
  intro i hi
  rw [aC]
  by_cases c:i=e.past
  ·rw [c,aC]
  ·rw [aD _ _ c]
   exact h.RG hp i (by omega)
 refine ⟨k3,fun hl=>?_,fun hl=>?_⟩
 ·have e1:e.pass 3 2 = {e with past:=e.past+1}:=by unfold aS.pass;rw [if_neg (by omega)]
  rw [e1]
  refine {h with p3:=fun _ _=>⟨?_,by show 0<x.left-1;omega⟩,RG:=fun _ i hi=>han i hi,p4:=(by intros;(try dsimp only at *);omega),yE:=(by intros;(try dsimp only at *);omega),a1:=(by intros;(try dsimp only at *);omega),fd:=(by intros;(try dsimp only at *);omega),d5:=(by intros;(try dsimp only at *);omega),t6:=(by intros;(try dsimp only at *);omega),JU:=(by intros;(try dsimp only at *);omega),w9:=(by intros;(try dsimp only at *);omega)}
  show e.past+1+(x.left-1)=x.len n x.part
  omega
 ·have e1:e.pass 3 2=e.enter 2:=by unfold aS.pass;rw [if_pos (by omega)]
  have e2:bA.enter n {x with left:=0} 2 = {x with part:=2,left:=1}:=by simp [bA.enter,bA.len]
  rw [e1,e2]
  exact {xo:=h.xo,xf:=h.xf,bk:=h.bk,bc:=h.bc,ag:=fun _=>h.ag (by omega),wK:=h.wK,yD:=fun _=>h.yD (by omega),c1:=fun _=>⟨k1,k2,k3⟩,t0:=fun _=>h.t0 (.inl hp),yE:=fun _ i hi=>han i (by omega),sp:=h.sp,wL:=h.wL,en:=h.en,p1:=(by intros;(try dsimp only at *);omega),p2:=fun _=>rfl,p3:=fun _ _=>⟨rfl,(by intros;(try dsimp only at *);omega)⟩,p4:=(by intros;(try dsimp only at *);omega),c0:=(by intros;(try dsimp only at *);omega),c3:=(by intros;(try dsimp only at *);omega),vS:=(by intros;(try dsimp only at *);omega),RG:=(by intros;(try dsimp only at *);omega),a0:=(by intros;(try dsimp only at *);omega),a1:=(by intros;(try dsimp only at *);omega),fd:=(by intros;(try dsimp only at *);omega),tr:=(by intros;(try dsimp only at *);omega),tn:=(by intros;(try dsimp only at *);omega),s1:=(by intros;(try dsimp only at *);omega),d5:=(by intros;(try dsimp only at *);omega),d6:=(by intros;(try dsimp only at *);omega),d7:=(by intros;(try dsimp only at *);omega),t6:=(by intros;(try dsimp only at *);omega),t7:=(by intros;(try dsimp only at *);omega),h8:=(by intros;(try dsimp only at *);omega),JU:=(by intros;(try dsimp only at *);omega),h9:=(by intros;(try dsimp only at *);omega),w9:=(by intros;(try dsimp only at *);omega),MC:=(by intros;(try dsimp only at *);omega)}
theorem aGp (h:eU P n cap V t e x) (hp:x.part=2) (g:Nat→Int) :
  x.left=1∧cnt V.bs t=V.aM t∧(V.ops t).length=V.aM t+1∧(∀ i,i<3→V.eH t i=(V.op t (V.aM t)).w i)∧e.cQ=decide (V.aM t % 2=1) ∧
  eU P n cap (V.flip t g) t (aS.bK {e with cQ:=!e.cQ}) (bA.enter n {x with left:=0,aM:=x.aM+1,tries:=1} 3):=by
 obtain ⟨l1,l2⟩:=h.p3 (by omega) (by omega)
 have l3:x.len n x.part=1:=by rw [hp];simp [bA.len]
 obtain ⟨k1,k2,k3⟩:=h.c1 (.inr hp)
 obtain ⟨o1,o2⟩:=h.yD (by omega)
 have hop:e.op=V.op t (V.aM t):=by rw [o2,k1];rfl
 refine ⟨by omega,k3,k1,fun i hi=>by rw [←hop];exact h.yE (by omega) i hi,h.wK,?_⟩
 have hfl:(V.flip t g).aM t=V.aM t+1:=aC _ _ _
 have hag:=h.ag (by omega)
 refine eU.bK ⟨h.xo,by rw [hfl];show x.aM+1=_;rw [h.xf],h.bk,h.bc,?_,?_,⟨o1,o2⟩,by rw [hfl];exact ⟨k1,by show x.ended+1=_;omega⟩,h.yE (by omega),h.sp,h.wL,h.en,.inl rfl,(by intros;(try dsimp only at *);omega)⟩
 ·show e.again=_
  rw [hag]
  have:=h.t0 (.inr hp)
  simp [this]
 ·rw [hfl]
  show (!e.cQ)=_
  rw [h.wK]
  by_cases c:V.aM t % 2=1
  ·have:¬(V.aM t+1) % 2=1:=by omega
   simp [c,this]
  ·have:(V.aM t+1) % 2=1:=by omega
   simp [c,this]
theorem UQ (h:eU P n cap V t e x) (hp:x.part=0) (o:Op):eU P n cap (V.more t o) t (aS.enter {e with op:=o,again:=false} 1) {x with ops:=x.ops++[o],tries:=0,part:=1,left:=3}:=by
 obtain ⟨k1,k2,k3⟩:=h.c0 hp
 have ho:(V.more t o).ops t=V.ops t++[o]:=aC _ _ _
 have hop:(V.more t o).op t (V.ops t).length=o:=by
  show ((V.more t o).ops t).getD _ _=_
  rw [ho]
  simp
 exact {xo:=by rw [ho];show x.ops++[o]=_;rw [h.xo],xf:=h.xf,bk:=h.bk,bc:=h.bc,ag:=fun _=>rfl,wK:=h.wK,yD:=fun _=>by rw [ho];exact ⟨by simp,by simp [hop];rfl⟩,c1:=fun _=>by rw [ho];exact ⟨by rw [List.length_append,k1];rfl,k2,k3⟩,sp:=h.sp,wL:=h.wL,en:=h.en,t0:=(by intros;(try dsimp only at *);omega),p1:=(by intros;(try dsimp only at *);omega),p2:=fun _=>rfl,p3:=fun _ _=>⟨rfl,(by intros;(try dsimp only at *);omega)⟩,RG:=fun _ i hi=>absurd hi (Nat.not_lt_zero _),p4:=(by intros;(try dsimp only at *);omega),c0:=(by intros;(try dsimp only at *);omega),c3:=(by intros;(try dsimp only at *);omega),vS:=(by intros;(try dsimp only at *);omega),yE:=(by intros;(try dsimp only at *);omega),a0:=(by intros;(try dsimp only at *);omega),a1:=(by intros;(try dsimp only at *);omega),fd:=(by intros;(try dsimp only at *);omega),tr:=(by intros;(try dsimp only at *);omega),tn:=(by intros;(try dsimp only at *);omega),s1:=(by intros;(try dsimp only at *);omega),d5:=(by intros;(try dsimp only at *);omega),d6:=(by intros;(try dsimp only at *);omega),d7:=(by intros;(try dsimp only at *);omega),t6:=(by intros;(try dsimp only at *);omega),t7:=(by intros;(try dsimp only at *);omega),h8:=(by intros;(try dsimp only at *);omega),JU:=(by intros;(try dsimp only at *);omega),h9:=(by intros;(try dsimp only at *);omega),w9:=(by intros;(try dsimp only at *);omega),MC:=(by intros;(try dsimp only at *);omega)}
end
end Go.Proofs.YtefjhnhdagolhaaGreat.M
