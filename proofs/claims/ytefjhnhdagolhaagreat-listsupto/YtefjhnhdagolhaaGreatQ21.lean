import Derived.Test.YtefjhnhdagolhaaGreatQ17
import Derived.Test.YtefjhnhdagolhaaGreatQ18
import Derived.Test.YtefjhnhdagolhaaGreatQ13
import Derived.Test.YtefjhnhdagolhaaGreatQ12
import Derived.Test.YtefjhnhdagolhaaGreatQ19
import Derived.Test.YtefjhnhdagolhaaGreatQ20
namespace Go.Proofs.YtefjhnhdagolhaaGreat.list
open Go.RowKit
open M (aI aC aD Op dA aS cA aO aG aJ)
section
variable {σ:Type} {R:SR σ} {L:Lt} {S:Nat→Prop} {E E':cA σ} {w:World} {t:Nat}
theorem oU (e:aS σ) (cv cf:List Value) (pv:Value) (hv:cv.length=1+1) (hf:cf.length=1+1) (i:Nat) (hi:i<2*(1+1)) (v:Value) :
  ∃ WX WY,WX.length=1+1∧WY.length=1+1∧(bO L t e cv cf pv).set (15+i) v=bO L t ({e with now:=none,dM:=none}:aS σ) WX WY pv:=by
 unfold bO
 by_cases h:i<1+1
 ·refine ⟨cv.set i v,cf,by simpa using hv,hf,?_⟩
  rw [List.set_append_left _ _ (by simp [hv,hf];omega),List.set_append_left _ _ (by simp [hv];omega),List.set_append_right _ _ (by simp)]
  simp
 ·refine ⟨cv,cf.set (i-(1+1)) v,hv,by simpa using hf,?_⟩
  rw [List.set_append_left _ _ (by simp [hv,hf];omega),List.set_append_right _ _ (by simp [hv];omega)]
  have e:∀ m,m=15+(1+1)→15+i-m=i-(1+1):=fun m hm=>by omega
  rw [e _ (by simp [hv])]
theorem RE.raw (h:RE R L S E w) (fG:t<L.n) (i:Nat) (hi:i<2*(1+1)) (v:Value) :
  RE R L S {E with th:=aI E.th t {E.th t with now:=none,dM:=none}} (w.setCell ⟨L.g,t*28+(15+i),none⟩ v)∧Fr L.own w (w.setCell ⟨L.g,t*28+(15+i),none⟩ v):=by
 refine ⟨?_,Fr.set w fY _⟩
 obtain ⟨sp,fE,jK⟩:=h.po
 obtain ⟨T,dD,iM⟩:=h.th
 have hown:L.own (L.g):=fY
 have ho:∀ k,k≠L.g→(w.setCell ⟨L.g,t*28+(15+i),none⟩ v).heap[k]?=w.heap[k]?:=fun k hk=>Below.heap_setCell w _ _ k hk
 have hst:∀ k,(S k∧¬L.own k)→k<w.heap.size→(S k∧¬L.own k)∧(w.setCell ⟨L.g,t*28+(15+i),none⟩ v).heap[k]?=w.heap[k]?:=fun k hk _=>⟨hk,ho k (by rintro rfl;exact hk.2 hown)⟩
 have hI:∀ k,(S k∧¬L.own k)→k<w.heap.size:=fun k hk=>h.lt k hk.1
 refine {ok:=h.ok,fL:=h.fL.of_block (ho _ (fun q=>h.gB.2 (by rw [q];exact hown))),gB:=h.gB,sh:=?sh,tg:=?tg,an:=?an,po:=?po,rw:=?rw,th:=?th,gd:=?gd,gg:=?gg,ow:=h.ow,lt:=fun k hk=>(by simpa [World.setCell] using h.lt k hk)}
 case sh=>exact h.sh.of_block (ho _ (Row.apart h.sh dD (by decide)))
 case tg=>exact h.tg.of_block (ho _ (Row.apart h.tg dD (by decide)))
 case an=>exact h.an.of_block (ho _ (Row.apart h.an dD (by decide)))
 case po=>exact ⟨sp,fE.of_block (ho _ (Row.apart fE dD (by decide))),fun r hr=>(jK r hr).stay hst hI⟩
 case rw=>exact fun r hr=>(h.rw r hr).of_block (ho _ (Row.apart (h.rw r hr) dD (by decide)))
 case th =>
  refine ⟨_,dD.set (show 15+i<28 by omega) v,fun u hu=>?_⟩
  obtain ⟨cv,cf,pv,q⟩:=iM u hu
  have q':=q.stay hst hI
  by_cases c:u=t
  ·subst c
   obtain ⟨WX,WY,l1,l2,wU⟩:=oU (L:=L) (t:=u) (E.th u) cv cf pv q.now.1 q.dM.1 i hi v
   refine ⟨WX,WY,pv,?_⟩
   show fX R L _ _ u (aI E.th u _ u) (aI T u (aI (T u) (15+i) v) u) _ _ _
   rw [aC,aC]
   refine ⟨?_,⟨l1,fun x hx=>by cases hx⟩,⟨l2,fun x hx=>by cases hx⟩,q'.aK⟩
   have:=q.like.set (15+i) v
   rwa [wU] at this
  ·refine ⟨cv,cf,pv,?_⟩
   show fX R L _ _ u (aI E.th t _ u) (aI T t (aI (T t) (15+i) v) u) _ _ _
   rw [aD _ _ c,aD _ _ c]
   exact q'
 case gd =>
  intro u hu
  refine ((h.gd u hu).of_block (ho _ (Row.apart (h.gd u hu) dD (by decide)))).congr (fun k _=>?_)
  exact congrArg _ (congrFun (kG E.th t {E.th t with now:=none,dM:=none} rfl u).symm k)
 case gg =>
  intro u hu
  refine ((h.gg u hu).of_block (ho _ (Row.apart (h.gg u hu) dD (by decide)))).congr (fun k _=>?_)
  exact congrArg _ (congrFun (kH E.th t {E.th t with now:=none,dM:=none} rfl u).symm k)
theorem RE.SY (h:RE R L S E w) (fG:t<L.n) {cv cf:List Value} (hcv:∀ i,i<1+1→w.cell? ⟨L.g,t*28+(15+i),none⟩=cv[i]?) (dN:∀ i,i<1+1→w.cell? ⟨L.g,t*28+(15+(1+1+i)),none⟩=cf[i]?)
  {v f:dA σ} (hv:bU R (fun k=>S k∧¬L.own k) w v cv) (hf:bU R (fun k=>S k∧¬L.own k) w f cf) (e':aS σ) (he:e' = {E.th t with now:=some v,dM:=some f}):RE R L S {E with th:=aI E.th t e'} w:=by
 subst he
 obtain ⟨T,dD,iM⟩:=h.th
 have lv:=bU.len R hv
 have lf:=bU.len R hf
 refine {ok:=h.ok,fL:=h.fL,gB:=h.gB,sh:=h.sh,tg:=h.tg,an:=h.an,po:=h.po,rw:=h.rw,th:=⟨T,dD,fun u hu=>?th⟩,gd:=?gd,gg:=?gg,ow:=h.ow,lt:=h.lt}
 case th =>
  obtain ⟨JZ,KA,pv,q⟩:=iM u hu
  show ∃ cv cf pv,fX R L _ w u (aI E.th t _ u) (T u) cv cf pv
  by_cases c:u=t
  ·subst c
   rw [aC]
   refine ⟨cv,cf,pv,?_,⟨lv,fun x hx=>by injection hx with hx;rw [←hx];exact hv⟩,⟨lf,fun x hx=>by injection hx with hx;rw [←hx];exact hf⟩,q.aK⟩
   have e1:cv=JZ:=by
    apply List.ext_getElem?
    intro i
    by_cases hi:i<1+1
    ·rw [←hcv i hi,dD.cell (Nat.lt_of_lt_of_le hu h.ok.gn) (show 15+i<28 by omega)]
     have:(bO L u (E.th u) JZ KA pv)[15+i]?=JZ[i]?:=by
      unfold bO
      rw [List.getElem?_append_left (by simp [q.now.1,q.dM.1];omega),List.getElem?_append_left (by simp [q.now.1];omega),List.getElem?_append_right (by simp)]
      simp
     have hl:i<JZ.length:=by rw [q.now.1];exact hi
     rw [List.getElem?_eq_getElem hl] at this ⊢
     rw [q.like _ _ this]
    ·rw [List.getElem?_eq_none (by omega),List.getElem?_eq_none (by have:=q.now.1;omega)]
   have e2:cf=KA:=by
    apply List.ext_getElem?
    intro i
    by_cases hi:i<1+1
    ·rw [←dN i hi,dD.cell (Nat.lt_of_lt_of_le hu h.ok.gn) (show 15+(1+1+i)<28 by omega)]
     have:(bO L u (E.th u) JZ KA pv)[15+(1+1+i)]?=KA[i]?:=by
      unfold bO
      rw [List.getElem?_append_left (by simp [q.now.1,q.dM.1];omega),List.getElem?_append_right (by simp [q.now.1];omega)]
      simp [q.now.1]
      congr 1
      omega
     have hl:i<KA.length:=by rw [q.dM.1];exact hi
     rw [List.getElem?_eq_getElem hl] at this ⊢
     rw [q.like _ _ this]
    ·rw [List.getElem?_eq_none (by omega),List.getElem?_eq_none (by have:=q.dM.1;omega)]
   rw [e1,e2]
   exact q.like
  ·rw [aD _ _ c]
   exact ⟨JZ,KA,pv,q⟩
 case gd =>
  intro u hu
  refine (h.gd u hu).congr (fun k _=>?_)
  exact congrArg _ (congrFun (kG E.th t {E.th t with now:=some v,dM:=some f} rfl u).symm k)
 case gg =>
  intro u hu
  refine (h.gg u hu).congr (fun k _=>?_)
  exact congrArg _ (congrFun (kH E.th t {E.th t with now:=some v,dM:=some f} rfl u).symm k)
theorem RE.SZ (fG:t<L.n):∀ (vs:List Value) (i:Nat) (E:cA σ) (w:World),RE R L S E w→(E.th t).now=none→(E.th t).dM=none→i+vs.length≤2*(1+1)→RE R L S E (w.setCells L.g (t*28+(15+i)) vs)∧Fr L.own w (w.setCells L.g (t*28+(15+i)) vs)
 |[],_,_,w,h,_,_,_=>⟨h,Fr.refl _ w⟩
 |v::vs,i,E,w,h,h1,h2,hl=>by
  simp only [List.length_cons] at hl
  obtain ⟨r1,k1⟩:=h.raw fG i (by omega) v
  have e:{E with th:=aI E.th t {E.th t with now:=none,dM:=none}} = E:=by
   have:({E.th t with now:=none,dM:=none}:aS σ)=E.th t:=by
    cases hq:E.th t with
    |mk a1 a2 a3 a4 a5 a6 a7 a8 a9 a10 a11 a12 a13 a14 a15 a16 a17 a18 a19 a20 =>
     rw [hq] at h1 h2
     simp only at h1 h2
     subst h1
     subst h2
     rfl
   rw [this]
   have u:aI E.th t (E.th t)=E.th:=by funext k;unfold aI;split<;>simp_all
   rw [u]
  rw [e] at r1
  obtain ⟨r2,k2⟩:=RE.SZ fG vs (i+1) E _ r1 h1 h2 (by omega)
  rw [World.setCells,show t*28+(15+i)+1=t*28+(15+(i+1)) by omega]
  exact ⟨r2,k1.trans k2⟩
theorem RE.kK (h:RE R L S E w) (fG:t<L.n) (vs:List Value) (i:Nat) (hl:i+vs.length≤2*(1+1)) (hne:vs≠[]) {cv cf:List Value} {v f:dA σ} (hv:bU R (fun k=>S k∧¬L.own k) w v cv) (hf:bU R (fun k=>S k∧¬L.own k) w f cf)
  (hc:∀ j,j<2*(1+1)→(if i≤j∧j<i+vs.length then vs[j-i]? else w.cell? ⟨L.g,t*28+(15+j),none⟩)=(cv++cf)[j]?) (e':aS σ) (he:e' = {E.th t with now:=some v,dM:=some f}) :
  RE R L S {E with th:=aI E.th t e'} (w.setCells L.g (t*28+(15+i)) vs)∧Fr L.own w (w.setCells L.g (t*28+(15+i)) vs):=by
 cases vs with
 |nil=>exact absurd rfl hne
 |cons a vs =>
  simp only [List.length_cons] at hl
  obtain ⟨r1,k1⟩:=h.raw fG i (by omega) a
  obtain ⟨r2,k2⟩:=RE.SZ fG vs (i+1) _ _ r1 (by simp [aC]) (by simp [aC]) (by omega)
  have hw:(w.setCell ⟨L.g,t*28+(15+i),none⟩ a).setCells L.g (t*28+(15+(i+1))) vs=w.setCells L.g (t*28+(15+i)) (a::vs):=by
   rw [World.setCells,show t*28+(15+i)+1=t*28+(15+(i+1)) by omega]
  rw [hw] at r2 k2
  have kk:=k1.trans k2
  have lv:=bU.len R hv
  have lf:=bU.len R hf
  have hst:∀ k,(S k∧¬L.own k)→k<w.heap.size→(S k∧¬L.own k)∧(w.setCells L.g (t*28+(15+i)) (a::vs)).heap[k]?=w.heap[k]?:=fun k hk hlt=>⟨hk,kk.block k hlt hk.2⟩
  have hI:∀ k,(S k∧¬L.own k)→k<w.heap.size:=fun k hk=>h.lt k hk.1
  have tM:∀ j,j<2*(1+1)→(w.cell? ⟨L.g,t*28+(15+j),none⟩).isSome=true:=by
   obtain ⟨T,dD,-⟩:=h.th
   intro j hj
   rw [dD.cell (Nat.lt_of_lt_of_le fG h.ok.gn) (show 15+j<28 by omega)]
   rfl
  have hcell:∀ j,j<2*(1+1)→(w.setCells L.g (t*28+(15+i)) (a::vs)).cell? ⟨L.g,t*28+(15+j),none⟩=(cv++cf)[j]?:=by
   intro j hj
   rw [←hc j hj]
   by_cases q:i≤j∧j<i+(a::vs).length
   ·rw [if_pos q]
    have hj2:j-i<(a::vs).length:=by omega
    have:=World.cell?_setCells_in L.g (a::vs) (t*28+(15+i)) w (fun k hk=>by
     simp only [List.length_cons] at hk
     have:=tM (i+k) (by omega)
     rwa [show t*28+(15+i)+k=t*28+(15+(i+k)) by omega]) (j-i) hj2
    rw [show t*28+(15+i)+(j-i)=t*28+(15+j) by omega] at this
    rw [this,List.getElem?_eq_getElem hj2]
   ·rw [if_neg q]
    refine World.cell?_setCells_out L.g (a::vs) _ w _ (fun _ _=>?_)
    show t*28+(15+j)<_∨_≤t*28+(15+j)
    omega
  have:=r2.SY fG (cv:=cv) (cf:=cf) (fun j hj=>by rw [hcell j (by omega),List.getElem?_append_left (by omega)]) (fun j hj=>by rw [hcell (1+1+j) (by omega),List.getElem?_append_right (by omega),lv];congr 1;omega) (bU.stay hst hI hv) (bU.stay hst hI hf) e' (by rw [he];simp only [aC])
  refine ⟨this.cast ?_,kk⟩
  simp only [aV]
end
end Go.Proofs.YtefjhnhdagolhaaGreat.list
namespace Go.Proofs.YtefjhnhdagolhaaGreat.list
open Go.RowKit
open M (aI aC aD Op dA aS cA aO aG aJ)
attribute [local go_sem ↓] Go.wp_at_zero Go.wp_at_succ
section
variable {σ:Type} {R:SR σ} {L:Lt} {S:Nat→Prop} {E E':cA σ} {w:World} {t:Nat}
set_option maxRecDepth 20000 in
set_option maxHeartbeats 2000000 in
theorem oV (h:RE R L S E w) (ht:t<L.n) {r p:Nat} (hr:r<2*L.n+1) (hp:p<aO L.n) :
  Calls Tryz.prog 278 #[.pointer (some ⟨L.bP,r*2,none⟩),.int .i64 (p:Int),.pointer (some ⟨L.g,t*28+14,none⟩)] w fun e w'=>e = .returned (.tuple #[])∧RE R L S {E with th:=aI E.th t {E.th t with dw:=aI (E.th t).dw p (E.rw r p)}} w'∧Fr L.own w w':=by
 obtain ⟨cv,cf,pv,hc,-,-,-,-⟩:=h.cells ht rfl
 have hn:=h.ok.n64
 have vI:aO L.n≤200:=by unfold M.aO M.tw;omega
 have CU:=hc 14 _ (by decide) rfl
 have p0:=h.tR hr
 have d0:w.cell? ⟨L.bW r,p,none⟩=some (.int .i64 (E.rw r p)):=(h.rw r hr).cell hp
 have th:w.there (L.gD t) p 1:=(h.gd t ht).there hp
 have nPD:L.bP≠L.gD t:=by obtain ⟨sp,q2,-⟩:=h.po;exact Row.apart q2 (h.gd t ht) (by decide)
 have WZ:L.g≠L.gD t:=by obtain ⟨T,q,-⟩:=h.th;exact Row.apart q (h.gd t ht) (by decide)
 have nWD:L.bW r≠L.gD t:=Row.apart (h.rw r hr) (h.gd t ht) (by decide)
 have hp':(p:Int)<(aO L.n:Int):=by omega
 have H1:=aA (h.gP t ht p (E.rw r p))
 clear h hc
 go_enter Tryz.func278,Tryz.ntmps278
 go_wp2
 refine gO (S:=(fun w'=>w'.cell? ⟨L.g,t*28+14,none⟩=some (.slice (some ⟨L.gD t,0,none⟩) (aO L.n) (aO L.n))∧w'.cell? ⟨L.bP,r*2,none⟩=some (.slice (some ⟨L.bW r,0,none⟩) (aO L.n) (aO L.n))∧w'.cell? ⟨L.bW r,p,none⟩=some (.int .i64 (E.rw r p))∧w'.there (L.gD t) (p) 1)) 14 rfl (by kernel_rfl) ?_ (fun hHeld=>?_)
 ·exact ⟨CU,p0,d0,th⟩
 iterate 11 (refine tk 13 (by rfl) (by kernel_rfl) (by exact fun _ _ _ h=>h) (.inl ⟨by rfl,fun w hS=>by (try dsimp only at hS);go_simp;(try with_reducible rfl)⟩) (by assumption) ?_;try go_frame)
 refine aU 11 (by rfl) (by kernel_rfl) (fun K hK=>?_)
 go_simp
 refine (gY (L.bW r) p _ _ hHeld.2.2.1).mono ?_
 rintro e w3 ⟨rfl,rfl⟩
 go_wp2_with fail
 refine hK.out _ _ ?_ (fun hHeld=>?_)
 ·exact hHeld
 clear hK K
 (try go_frame)
 iterate 1 (refine tk 13 (by rfl) (by kernel_rfl) (by exact fun _ _ _ h=>h) (.inl ⟨by rfl,fun w hS=>by (try dsimp only at hS);go_simp;(try with_reducible rfl)⟩) (by assumption) ?_;try go_frame)
 refine aU 13 (by rfl) (by kernel_rfl) (fun K hK=>?_)
 rw [if_pos (by rfl)]
 refine aM _ _ _ rfl (L.gD t) p (.int .i64 (E.rw r p)) rfl rfl rfl rfl hHeld.2.2.2 (by kernel_rfl) ?_
 refine hK.out _ _ ?_ (fun hHeld=>?_)
 ·exact ⟨aF hHeld.1 (by first|exact .inr (by dsimp only;omega)|exact .inl (by assumption)|exact .inl (Ne.symm (by assumption))),aF hHeld.2.1 (by first|exact .inr (by dsimp only;omega)|exact .inl (by assumption)|exact .inl (Ne.symm (by assumption))),aF hHeld.2.2.1 (by first|exact .inr (by dsimp only;omega)|exact .inl (by assumption)|exact .inl (Ne.symm (by assumption))),aQ hHeld.2.2.2 _ rfl _⟩
 clear hK K
 (try go_frame)
 refine wpAnyH_done (by kernel_rfl) ?_ _
 clear hHeld
 go_wp2
 exact bodyPost_ret (v:=.tuple #[]) (by simp [results,Tryz.results278,go_sem]) rfl ⟨rfl,H1.out.drew,(Fr.set w (kJ ht) _).drew⟩
set_option maxRecDepth 20000 in
set_option maxHeartbeats 2000000 in
theorem nF (h:RE R L S E w) (ht:t<L.n) {r:Nat} (hr:r<2*L.n+1) {v f:dA σ} (hv:E.gC r=some (v,f)) :
  Calls Tryz.prog 278 #[.pointer (some ⟨L.bP,r*2,none⟩),.int .i64 (aO L.n:Int),.pointer (some ⟨L.g,t*28+14,none⟩)] w fun e w'=>e = .returned (.tuple #[])∧Left R L S w {E with th:=aI E.th t {E.th t with now:=some v,dM:=some v}} w':=by
 obtain ⟨JZ,KA,pv,hc,hcv,dN,-,hfz⟩:=h.cells ht rfl
 obtain ⟨c0,c1,rfl⟩:=aH hcv.1
 obtain ⟨d0,d1,rfl⟩:=aH dN.1
 obtain ⟨b,cv,cf,TA,hIb,hrow,nU,hfr⟩:∃ b cv cf,w.cell? ⟨L.bP,r*2+1,none⟩=some (.pointer (some ⟨b,0,none⟩))∧(S b∧¬L.own b)∧Row w b 241 (cv++cf)∧bU R (fun k=>S k∧¬L.own k) w v cv∧bU R (fun k=>S k∧¬L.own k) w f cf:=by
  obtain ⟨sp,q1,q2⟩:=h.po
  obtain ⟨b,cv,cf,a1,a2,a3,a4,a5⟩:=q2 r hr v f hv
  refine ⟨b,cv,cf,?_,a2,a3,a4,a5⟩
  have:=q1.cell hr (show 1<2 by decide)
  rw [this,a1]
  rfl
 obtain ⟨x0,x1,rfl⟩:=aH (bU.len R nU)
 obtain ⟨y0,y1,rfl⟩:=aH (bU.len R hfr)
 have hn:=h.ok.n64
 have vI:aO L.n≤200:=by unfold M.aO M.tw;omega
 have p0:=h.tR hr
 have e0:=hc 15 _ (by decide) rfl
 have e1:=hc 16 _ (by decide) rfl
 have e2:=hc 17 _ (by decide) rfl
 have e3:=hc 18 _ (by decide) rfl
 have ef0:=hfz (t*28+15)
 have ef1:=hfz (t*28+16)
 have ef2:=hfz (t*28+17)
 have ef3:=hfz (t*28+18)
 have ox0:=bU.one R nU x0 (by simp)
 have ox1:=bU.one R nU x1 (by simp)
 have vc0:w.cell? ⟨b,0,none⟩=some x0:=hrow.cell_of rfl
 have vc1:w.cell? ⟨b,1,none⟩=some x1:=hrow.cell_of rfl
 have uY:L.g<w.heap.size:=h.lt _ (h.ow _ fY)
 have HH:=aA h
 have HV:=aA nU
 have HW:=aA (And.intro TA hrow)
 clear h hc hcv dN nU hfr TA hrow hfz hv
 have SN:=bR (P:=Tryz.prog) ox0
 have SP:=bR (P:=Tryz.prog) ox1
 go_enter Tryz.func278,Tryz.ntmps278
 go_wp2_with fail
 refine (oD L.bP (r*2+1) b _ w HW.out.1 HW.out.2 rfl).mono ?_
 rintro e w1 ⟨rfl,rfl⟩
 go_wp2_with fail
 obtain ⟨r1,k1⟩:=HH.out.kK ht ([x0,x1]++[x0,x1]) 0 (by simp) (by simp) HV.out HV.out (fun j hj=>by rw [if_pos ⟨Nat.zero_le _,by simpa using hj⟩];rfl) {E.th t with now:=some v,dM:=some v} rfl
 exact bodyPost_end (v:=.tuple #[]) (by simp [results,Tryz.results278,go_sem]) rfl ⟨rfl,(Left.of r1 k1 rfl).next (Left.below (Left.of r1 k1 rfl).re (aB _ _))⟩
def copied (E:cA σ) (t n:Nat):aS σ :=
 if (E.th t).past<aO n then {E.th t with dw:=aI (E.th t).dw (E.th t).past (E.rw (E.th t).aW (E.th t).past)} else {E.th t with now:=(E.gC (E.th t).aW).map Prod.fst,dM:=(E.gC (E.th t).aW).map Prod.fst}
theorem jI (E:cA σ) (t n:Nat):(copied E t n).past=(E.th t).past:=by unfold copied;split<;>rfl
theorem CX (h:RE R L S E w) (ht:t<L.n) (hr:(E.th t).aW<2*L.n+1) (hp:(E.th t).past≤aO L.n) (hs:(E.gC (E.th t).aW).isSome) :
  Calls Tryz.prog 278 #[.pointer (some ⟨L.bP,(E.th t).aW*2,none⟩),.int .i64 ((E.th t).past:Int),.pointer (some ⟨L.g,t*28+14,none⟩)] w fun e w'=>e = .returned (.tuple #[])∧Left R L S w {E with th:=aI E.th t (copied E t L.n)} w':=by
 unfold copied
 by_cases q:(E.th t).past<aO L.n
 ·rw [if_pos q]
  refine (oV h ht hr q).mono ?_
  rintro e w1 ⟨rfl,r1,k1⟩
  exact ⟨rfl,Left.of r1 k1 rfl⟩
 ·rw [if_neg q]
  obtain ⟨⟨v,f⟩,hv⟩:=Option.isSome_iff_exists.1 hs
  have hq:(E.th t).past=aO L.n:=by omega
  have:=nF h ht hr hv
  rw [hv]
  simp only [hq] at this ⊢
  exact this
set_option maxRecDepth 20000 in
set_option maxHeartbeats 2000000 in
theorem rF (h:RE R L S E w) (ht:t<L.n) (hr:(E.th t).aW<2*L.n+1) (hp:(E.th t).past≤aO L.n) (hN:(E.th t).stamp≤1000000000) (hs:(E.gC (E.th t).aW).isSome) :
  Calls Tryz.prog 267 #[.pointer (some ⟨L.g,t*28,none⟩)] w fun e w'=>e = .returned (.tuple #[])∧Left R L S w {E with th:=aI E.th t ((copied E t L.n).pass (aO L.n+1) 6)} w':=by
 obtain ⟨c0,c4,-,wY,s0,s4⟩:=h.parts ht rfl
 have hn:=h.ok.n64
 have lD:=h.ok.n1
 have vI:aO L.n≤200:=by unfold M.aO M.tw;omega
 have hr':((E.th t).aW:Int)<2*(L.n:Int)+1:=by omega
 have hm:=aA (show (((E.th t).stamp:Int)*129+((E.th t).aW:Int)) % 129=((E.th t).aW:Int) by omega)
 have hcp:(copied E t L.n).stamp=(E.th t).stamp∧(copied E t L.n).aW=(E.th t).aW:=by unfold copied;split<;>exact ⟨rfl,rfl⟩
 have HH:=aA h
 have HP:=aA (fun (W:World) (hW:RE R L S E W)=>CX hW ht hr hp hs)
 clear h hs
 go_enter Tryz.func267,Tryz.ntmps267
 go_wp2
 refine gO (S:=(fun w'=>w'.cell? ⟨L.g,t*28,none⟩=some (.pointer (some ⟨L.bS,0,none⟩))∧w'.cell? ⟨L.g,t*28+4,none⟩=some (.int .i64 ((E.th t).past:Int))∧w'.cell? ⟨L.g,t*28+13,none⟩=some (.int .i64 (((E.th t).stamp:Int)*129+((E.th t).aW:Int)))∧w'.cell? ⟨L.bS,4,none⟩=some (.slice (some ⟨L.bP,0,none⟩) (2*L.n+1) (2*L.n+1)))) 21 rfl (by kernel_rfl) ?_ (fun hHeld=>?_)
 ·exact ⟨c0,c4,wY,s4⟩
 iterate 11 (refine tk 20 (by rfl) (by kernel_rfl) (by exact fun _ _ _ h=>h) (.inl ⟨by rfl,fun w hS=>by (try dsimp only at hS);go_simp;(try with_reducible rfl)⟩) (by assumption) ?_;try go_frame)
 iterate 7 (refine tk 22 (by rfl) (by kernel_rfl) (by exact fun _ _ _ h=>h) (.inl ⟨by rfl,fun w hS=>by (try dsimp only at hS);go_simp;(try with_reducible rfl)⟩) (by assumption) ?_;try go_frame)
 refine aU 11 (by rfl) (by kernel_rfl) (fun K hK=>?_)
 go_simp
 refine (kB _ _ (by omega) (by omega)).mono ?_
 rintro e w2 ⟨rfl,rfl⟩
 rw [hm.out]
 go_wp2_with fail
 refine hK.out _ _ ?_ (fun hHeld=>?_)
 ·exact hHeld
 clear hK K
 (try go_frame)
 iterate 1 (refine tk 13 (by rfl) (by kernel_rfl) (by exact fun _ _ _ h=>h) (.inl ⟨by rfl,fun w hS=>by (try dsimp only at hS);go_simp;(try with_reducible rfl)⟩) (by assumption) ?_;try go_frame)
 refine aU 20 (by rfl) (by kernel_rfl) (fun K hK=>?_)
 go_simp
 refine (HP.out w.drew HH.out.drew).mono ?_
 rintro e w3 ⟨rfl,L3⟩
 go_wp2_with fail
 refine hK.out _ _ ?_ (fun hHeld=>?_)
 ·obtain ⟨z0,z4,-,z13,-,zs4⟩:=L3.re.parts ht (aC _ _ _);rw [jI] at z4;rw [hcp.1,hcp.2] at z13;exact ⟨z0,z4,z13,zs4⟩
 clear hK K
 (try go_frame)
 refine wpAnyH_done (by kernel_rfl) ?_ _
 obtain ⟨z0,z4,-,-,zs0,-⟩:=L3.re.parts ht (aC _ _ _)
 have HL:=aA (show Left R L S w {E with th:=aI E.th t (copied E t L.n)} w3 from ⟨L3.re,⟨L3.fr.os,L3.fr.tape,L3.fr.output,L3.fr.size,L3.fr.block⟩⟩)
 clear hHeld c0 c4 wY s0 s4 z4
 go_wp2_with fail
 refine (kC (L.n:Int) _ (by omega) (by omega)).mono ?_
 rintro e w4 ⟨rfl,eF⟩
 rw [oQ]
 have JW:=aA (HL.out.next (Left.below HL.out.re eF))
 go_wp2_with fail
 refine (fN JW.out.re ht (aO L.n+1) 6 (by omega) (by simp only [aC,jI];omega)).mono ?_
 rintro e w5 ⟨rfl,r5,k5⟩
 have HR:=aA (And.intro r5 k5)
 clear r5 k5
 go_wp2
 refine bodyPost_end (v:=.tuple #[]) (by simp [results,Tryz.results267,go_sem]) rfl ⟨rfl,JW.out.next (Left.of (HR.out.1.cast ?_) HR.out.2 rfl)⟩
 simp only [aV,aC]
end
end Go.Proofs.YtefjhnhdagolhaaGreat.list
namespace Go.Proofs.YtefjhnhdagolhaaGreat.list
open Go.RowKit
open M (aI aC aD Op dA aS cA aO aG aJ)
attribute [local go_sem ↓] Go.wp_at_zero Go.wp_at_succ
section
variable {σ:Type} {R:SR σ} {L:Lt} {S:Nat→Prop} {E E':cA σ} {w:World} {t:Nat}
def jB (x:Int):Prop:=0≤x∧x<65536
def waits (e:aS σ) (k:Nat):List Nat:=(List.range k).filter fun i=>M.eT e.tg i != M.eT e.dw i
theorem rG (e:aS σ) (k:Nat):waits e (k+1)=waits e k++if M.eT e.tg k != M.eT e.dw k then [k] else []:=by
 unfold waits
 rw [List.range_succ,List.filter_append]
 congr 1
 by_cases h:(M.eT e.tg k != M.eT e.dw k)=true
 ·simp [h]
 ·simp [h]
theorem mE (e:aS σ) (k:Nat):(waits e k).length≤k:=by
 unfold waits
 exact Nat.le_trans (List.length_filter_le _ _) (by simp)
set_option maxRecDepth 20000 in
set_option maxHeartbeats 4000000 in
theorem tS (h:RE R L S E w) (ht:t<L.n) (hw:∀ k,k<M.tw L.n→jB ((E.th t).tg k)∧jB ((E.th t).dw k)) :
  Calls Tryz.prog 280 #[.pointer (some ⟨L.g,t*28,none⟩)] w fun e w'=>∃ v,e = .returned v∧w'.ownsRow w.heap.size 3 1 v ((E.th t).waiting L.n).length (ints (((E.th t).waiting L.n).map Int.ofNat))∧Below w.heap.size w w':=by
 obtain ⟨mi,xK,xL⟩:=Option.map_eq_some_iff.1 vS
 simp only [Prod.mk.injEq] at xL
 obtain ⟨kL,kM,kN⟩:=xL
 have KC:=aA xK
 have FA:=aA kL
 have FQ:=aA kM
 have FR:=aA kN
 obtain ⟨cv,cf,pv,hc,hcv,dN,-,-⟩:=h.cells ht rfl
 obtain ⟨x0,x1,rfl⟩:=aH hcv.1
 obtain ⟨y0,y1,rfl⟩:=aH dN.1
 have hn:=h.ok.n64
 have c0:w.cell? ⟨L.g,t*28,none⟩=some (.pointer (some ⟨L.bS,0,none⟩)):=hc 0 _ (by decide) rfl
 have CU:=hc 14 _ (by decide) rfl
 have cg:=hc 19 _ (by decide) rfl
 have s0:w.cell? ⟨L.bS,0,none⟩=some (.int .i64 (L.n:Int)):=h.sh.cell_of rfl
 have HD:=aA (fun k (hk:k<M.aO L.n)=>(h.gd t ht).cell hk)
 have HG:=aA (fun k (hk:k<M.tw L.n)=>(h.gg t ht).cell hk)
 have HC:=aA (And.intro CU cg)
 have HW:=aA hw
 clear h hc hcv dN xK kL kM kN CU cg hw
 have haw:∀ k,k<L.n→k / 16<M.tw L.n:=fun k hk=>by unfold M.tw;omega
 have XA:∀ k,k<L.n→k / 16<M.aO L.n:=fun k hk=>by unfold M.aO;have:=haw k hk;omega
 generalize M.tw L.n=a at *
 generalize M.aO L.n=b at *
 generalize L.gG t=gg at *
 generalize L.gD t=gd at *
 go_enter Tryz.func280,Tryz.ntmps280
 go_wp2
 go_loopw [3,13] (fun th i w'=>∃ k:Nat,k≤L.n∧i = .int .i64 (k:Int)∧Below w.heap.size w w'∧w'.ownsRow w.heap.size 3 1 th (waits (E.th t) k).length (ints ((waits (E.th t) k).map Int.ofNat))) (fun _ i _=>L.n-(intOf i).toNat)
 case atStart=>exact ⟨0,Nat.zero_le _,rfl,Below.refl _ _,World.ownsRow_nil _ _ _ _⟩
 case round =>
  obtain ⟨k,hk,rfl,hB,hO⟩:=hrel
  by_cases hlt:k<L.n
  ·have hlt':(k:Int)<(L.n:Int):=by omega
   have hq:=haw k hlt
   have FT:=XA k hlt
   have d14:=cell_later hB HC.out.1
   have dg:=cell_later hB HC.out.2
   have a1:=cell_later hB (HG.out _ hq)
   have a2:=cell_later hB (HD.out _ FT)
   obtain ⟨⟨u1,u2⟩,u3,u4⟩:=HW.out _ hq
   have TB:(M.eT (E.th t).tg k != M.eT (E.th t).dw k)=(decide (((E.th t).tg (k / 16) / 2 ^ (k % 16)) % 2=1) != decide (((E.th t).dw (k / 16) / 2 ^ (k % 16)) % 2=1)):=rfl
   have OU:=aA (rG (E.th t) k)
   rw [TB] at OU
   generalize (E.th t).tg (k / 16)=x1 at *
   generalize (E.th t).dw (k / 16)=x2 at *
   generalize hy1:decide ((x1 / 2 ^ (k % 16)) % 2=1)=y1 at *
   generalize hy2:decide ((x2 / 2 ^ (k % 16)) % 2=1)=y2 at *
   have HB:=aA hB
   have HO:=aA hO
   have H1:=aA (fun (W:World) (hW:W.cell? ⟨gg,k / 16,none⟩=some (.int .i64 x1))=>sP gg a a k x1 W (by omega) hq hW u1 u2)
   have H2:=aA (fun (W:World) (hW:W.cell? ⟨gd,k / 16,none⟩=some (.int .i64 x2))=>sP gd b b k x2 W (by omega) FT hW u3 u4)
   rw [hy1] at H1
   rw [hy2] at H2
   have A1:=aA (fun n=>Calls.quiet_of (n:=n) (H1.out (wr.drewN n) a1))
   have A2:=aA (fun n=>Calls.quiet_of (n:=n) (H2.out (wr.drewN n) a2))
   clear hB hO a1 a2 H1 H2 TB hy1 hy2 hq FT u1 u2 u3 u4
   go_wp2
   go_quiet ((go_at_call 242;first|(with_reducible exact A1.out _)|(with_reducible exact A2.out _)))
   have HN:=aA (mE (E.th t) k)
   have zS:=HB.out.size
   cases y1<;>cases y2
   case' false.true|true.false =>
    have hw1:=aA (show waits (E.th t) (k+1)=waits (E.th t) k++[k] by have e:=OU.out;simpa using e)
    go_wp2_with (at_builtin;refine bH _ rfl (.tmp 30) (.tmp 32) 22 rfl w.heap.size 3 mi (.int .i64 0) 1 8 Tryz.underlying22 KC.out FA.out FQ.out FR.out rfl (by decide) _ (waits (E.th t) k).length _ rfl ((show (wr.drewN nq).ownsRow w.heap.size 3 1 _ _ _ from HO.out).kept (oK (aB _ _)) (by cases (Value.ownBlock _)<;>simp)) ⟨(wr.drewN nq).heap.size,0,none⟩ 1 1 [.int .i64 (k:Int)] rfl rfl (World.news_of_block (Row.new _ _ _)) (by simp [Value.oneCell']) (by decide) (by have:=HN.out;unfold maxLen;omega) (by have:=HN.out;omega) (by simp;omega) ?_)
    intro g3 c3 w3 hown cG oW pZ
    have cH:Below w.heap.size w w3:=(Below.next (Below.drewN HB.out nq) (aB (wr.drewN nq) _) zS).grown cG (by simp;omega) (fun q hq=>(HO.out.lt q hq).1)
    have HR:=aA (And.intro cH hown)
    clear hown cG oW pZ cH
    go_wp2
    go_roundw
    case rel =>
     refine ⟨k+1,by omega,by go_num,HR.out.1,?_⟩
     rw [hw1.out]
     have:=HR.out.2
     simpa [ints] using this
    case measure=>simp [intOf];omega
   all_goals
    have hw1:=aA (show waits (E.th t) (k+1)=waits (E.th t) k by have e:=OU.out;simpa using e)
    go_wp2
    go_roundw
    case rel=>exact ⟨k+1,by omega,by go_num,Below.drewN HB.out _,by rw [hw1.out];exact HO.out⟩
    case measure=>simp [intOf];omega
  ·have hlt':¬(k:Int)<(L.n:Int):=by omega
   have hkn:k=L.n:=by omega
   have HB:=aA (show Below w.heap.size w wr from hB)
   have HO:=aA (show wr.ownsRow w.heap.size 3 1 _ ((E.th t).waiting L.n).length (ints (((E.th t).waiting L.n).map Int.ofNat)) by rw [hkn] at hO;exact hO)
   clear hB hO hkn
   go_wp2
   go_ret
   exact ⟨_,rfl,HO.out,HB.out⟩
end
end Go.Proofs.YtefjhnhdagolhaaGreat.list
namespace Go.Proofs.YtefjhnhdagolhaaGreat.list
open Go.RowKit
open M (aI aC aD Op dA aS cA aO aG aJ)
attribute [local go_sem ↓] Go.wp_at_zero Go.wp_at_succ
section
variable {σ:Type} {R:SR σ} {L:Lt} {S:Nat→Prop} {E E':cA σ} {w:World} {t:Nat}
theorem tT (p:List Nat) (t:Nat):((t:Int)∈p.map Int.ofNat)↔t∈p:=by
 constructor
 ·intro h
  obtain ⟨k,hk,e⟩:=List.mem_map.1 h
  have:k=t:=by have e':(k:Int)=(t:Int):=e;omega
  rw [←this];exact hk
 ·intro h
  exact List.mem_map.2 ⟨t,h,rfl⟩
def checked (E:cA σ) (t n cap:Nat):aS σ:=if E.dZ=(E.th t).stamp then aS.enter {E.th t with aK:=(E.th t).waiting n} (if t∈(E.th t).waiting n then 8 else 11) else (E.th t).fail cap
set_option maxRecDepth 20000 in
set_option maxHeartbeats 4000000 in
theorem CY (h:RE R L S E w) (ht:t<L.n) (hN:E.dZ≤1000000000) (hs:(E.th t).stamp≤1000000000) (hp:E.prec<129) (hr:(E.th t).aW<129) (hb:(E.th t).aE≤L.cap) (hw:E.dZ=(E.th t).stamp→∀ k,k<M.tw L.n→jB ((E.th t).tg k)∧jB ((E.th t).dw k)) :
  Calls Tryz.prog 269 #[.pointer (some ⟨L.g,t*28,none⟩)] w fun e w'=>e = .returned (.tuple #[])∧Left R L S w {E with th:=aI E.th t (checked E t L.n L.cap)} w':=by
 obtain ⟨cv,cf,pv,hc,hcv,dN,-,-⟩:=h.cells ht rfl
 obtain ⟨x0,x1,rfl⟩:=aH hcv.1
 obtain ⟨y0,y1,rfl⟩:=aH dN.1
 have hn:=h.ok.n64
 have c0:w.cell? ⟨L.g,t*28,none⟩=some (.pointer (some ⟨L.bS,0,none⟩)):=hc 0 _ (by decide) rfl
 have wY:=hc 13 _ (by decide) rfl
 have s5:w.cell? ⟨L.bS,5,none⟩=some (.int .i64 ((E.dZ:Int)*129+(E.prec:Int))):=h.sh.cell_of rfl
 have hq1:((E.dZ:Int)*129+(E.prec:Int)) / 129=(E.dZ:Int):=by omega
 have FT:(((E.th t).stamp:Int)*129+((E.th t).aW:Int)) / 129=((E.th t).stamp:Int):=by omega
 have A0:=aA (fun n=>Calls.quiet_of_same (n:=n) (lJ L.bS 5 _ (w.drewN n) s5))
 have A1:=aA (fun n=>Calls.quiet_of_same (n:=n) (iT ((E.dZ:Int)*129+(E.prec:Int)) (w.drewN n) (by omega) (by omega)))
 have A2:=aA (fun n=>Calls.quiet_of_same (n:=n) (iT (((E.th t).stamp:Int)*129+((E.th t).aW:Int)) (w.drewN n) (by omega) (by omega)))
 rw [hq1] at A1
 rw [FT] at A2
 have HH:=aA h
 have HW:=aA hw
 clear h hc hcv dN hq1 FT hw
 by_cases hst:E.dZ=(E.th t).stamp
 ·have aFs:(E.dZ:Int)≤((E.th t).stamp:Int):=by omega
  have aFt:((E.th t).stamp:Int)≤(E.dZ:Int):=by omega
  have HW2:=aA (HW.out hst)
  have sS:=aA hst
  clear hst
  go_enter Tryz.func269,Tryz.ntmps269
  go_wp2
  go_quiet ((first|(go_at_call 218;with_reducible exact A0.out _)|(go_at_call 226;first|(with_reducible exact A1.out _)|(with_reducible exact A2.out _))))
  generalize gJ:World.drewN w nq=W1
  have lC:RE R L S E W1:=by rw [←gJ];exact HH.out.drewN nq
  have fZ:Fr L.own w W1:=by rw [←gJ];exact (Fr.refl _ w).drewN nq
  have jF:=aA lC
  have SM:=aA fZ
  clear gJ lC fZ c0 wY s5
  go_wp2_with fail
  refine (tS jF.out ht HW2.out).mono ?_
  rintro e w2 ⟨v,rfl,hO,aP⟩
  have fE:(((E.th t).waiting L.n).map Int.ofNat).length≤1048576:=by
   have:((E.th t).waiting L.n).length≤L.n:=mE (E.th t) L.n
   simp;omega
  generalize QY:(E.th t).waiting L.n=p at *
  have HPE:=aA QY
  clear QY
  have oX:=Left.below jF.out aP
  have rW:=SU hO
  have hlen:(ints (p.map Int.ofNat)).length=p.length:=by simp [ints]
  have hpr:oC (fun k=>grown S W1 w2 k∧¬L.own k) w2 p v∧(∃ a n c,v = .slice a n c)∧∀ u:Value,Sl (w2.setCell ⟨L.g,t*28+20,none⟩ u) v (ints (p.map Int.ofNat)):=by
   rcases hO.2 with ⟨rfl,hn0⟩|⟨gp,cap,cur,rfl,hge,aFw,QK,-⟩
   ·obtain rfl:p=[]:=List.eq_nil_of_length_eq_zero hn0
    exact ⟨.inl ⟨rfl,rfl⟩,⟨_,_,_,rfl⟩,fun u=>Sl.nil _⟩
   ·have FB:L.g<W1.heap.size:=jF.out.lt _ (jF.out.ow _ fY)
    have hlt:gp<w2.heap.size:=(hO.lt gp rfl).2
    refine ⟨.inr ⟨gp,_,_,⟨.inr ⟨hge,hlt⟩,fun q=>by have:=jF.out.lt _ (jF.out.ow _ q);omega⟩,rfl,rW⟩,⟨_,_,_,rfl⟩,fun u=>Sl.block rfl rW (Below.heap_setCell w2 _ u gp (by show gp≠L.g;omega))⟩
  obtain ⟨KD,⟨va,vn,vc,rfl⟩,TC⟩:=hpr
  have FK:=oX.re.wV t ht (.slice va vn vc) p KD {E.th t with aK:=p} rfl rfl rfl
  obtain ⟨cv,cf,pv,hc,hcv,dN,-,hfz⟩:=oX.re.cells ht rfl
  obtain ⟨c0,c1,rfl⟩:=aH hcv.1
  obtain ⟨d0,d1,rfl⟩:=aH dN.1
  have cpv:=hc 20 _ (by decide) rfl
  have fpv:=hfz (t*28+20)
  have b1:=hc 1 _ (by decide) rfl
  have A3:=aA (fun n=>Calls.quiet_of_same (n:=n) (xE (p.map Int.ofNat) (.slice va vn vc) (t:Int) ((w2.setCell ⟨L.g,t*28+20,none⟩ (.slice va vn vc)).drewN n) ((TC _).drewN) fE))
  rw [show decide ((t:Int)∈p.map Int.ofNat)=decide (t∈p) by rw [decide_eq_decide];exact tT p t] at A3
  have H3:=aA FK
  have xM:=aA oX
  have HP:=aA KD
  clear hO aP oX rW KD TC FK hc hcv dN hfz hlen
  go_wp2
  go_quiet ((go_at_call 229;with_reducible exact A3.out _))
  have WU:=aA (H3.out.drewN nq)
  have XB:=aA (show Left R L S w {E with th:=aI E.th t {E.th t with aK:=p}} ((w2.setCell ⟨L.g,t*28+20,none⟩ (.slice va vn vc)).drewN nq) from (Left.of jF.out SM.out rfl).next (by
   have q:=xM.out.next (Left.of H3.out (Fr.set w2 fY _) rfl)
   exact ⟨(q.re.drewN nq).mono (fun k hk=>by rcases hk with hk|hk;exact .inl (.inl hk);exact .inr hk) (fun k hk=>by rcases hk with hk|hk;rcases hk with hk|hk;exact q.re.lt k (.inl hk);exact Nat.lt_of_lt_of_le hk.2 q.fr.size;exact hk.2),q.fr.drewN nq⟩))
  clear WU
  by_cases hm:t∈p
  ·rw [decide_eq_true hm]
   have HM:=aA hm
   clear hm
   go_wp2_with fail
   refine (dI XB.out.re ht 8).mono ?_
   rintro e w4 ⟨rfl,r4,k4⟩
   have HR:=aA (And.intro r4 k4)
   clear r4 k4
   go_wp2
   refine bodyPost_end (v:=.tuple #[]) (by simp [results,Tryz.results269,go_sem]) rfl ⟨rfl,XB.out.next (Left.of (HR.out.1.cast ?_) HR.out.2 rfl)⟩
   unfold checked
   rw [if_pos sS.out,HPE.out,if_pos HM.out]
   simp only [aV,aC]
  ·rw [decide_eq_false hm]
   have HM:=aA hm
   clear hm
   go_wp2_with fail
   refine (dI XB.out.re ht 11).mono ?_
   rintro e w4 ⟨rfl,r4,k4⟩
   have HR:=aA (And.intro r4 k4)
   clear r4 k4
   go_wp2
   refine bodyPost_end (v:=.tuple #[]) (by simp [results,Tryz.results269,go_sem]) rfl ⟨rfl,XB.out.next (Left.of (HR.out.1.cast ?_) HR.out.2 rfl)⟩
   unfold checked
   rw [if_pos sS.out,HPE.out,if_neg HM.out]
   simp only [aV,aC]
 ·have aFx:¬(E.dZ:Int)=((E.th t).stamp:Int):=by omega
  have sS:=aA hst
  clear hst
  go_enter Tryz.func269,Tryz.ntmps269
  go_wp2
  go_quiet ((first|(go_at_call 218;with_reducible exact A0.out _)|(go_at_call 226;first|(with_reducible exact A1.out _)|(with_reducible exact A2.out _))))
  go_wp2_with fail
  refine (wX (HH.out.drewN nq) ht hb).mono ?_
  rintro e w4 ⟨rfl,r4,k4⟩
  have HR:=aA (And.intro r4 k4)
  clear r4 k4
  go_wp2
  refine bodyPost_ret (v:=.tuple #[]) (by simp [results,Tryz.results269,go_sem]) rfl ⟨rfl,Left.of (HR.out.1.cast ?_) (((Fr.refl L.own w).drewN nq).trans HR.out.2) rfl⟩
  unfold checked
  rw [if_neg sS.out]
end
end Go.Proofs.YtefjhnhdagolhaaGreat.list
