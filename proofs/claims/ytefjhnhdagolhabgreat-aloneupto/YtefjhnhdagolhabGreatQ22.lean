import Derived.Test.YtefjhnhdagolhabGreatQ18
set_option maxHeartbeats 1000000
namespace Go.Proofs.YtefjhnhdagolhabGreat
open int list tree
open Go.RowKit
open M (aH aC aE Op cY aS aK aR aL aM)
def int.fC:Prop:=∀ {σ:Type} {L:Lt} {t:Nat} (e:aS σ) (cv cf:List Value) (pv:Value) (_hv:cv.length=1+1) (_hf:cf.length=1+1) (i:Nat) (_hi:i<2*(1+1)) (v:Value),∃ LU LV,LU.length=1+1∧LV.length=1+1∧(aO L t e cv cf pv).set (15+i) v=aO L t ({e with now:=none,cC:=none}:aS σ) LU LV pv
def list.fC:Prop:=∀ {σ:Type} {L:Lt} {t:Nat} (e:aS σ) (cv cf:List Value) (pv:Value) (_hv:cv.length=1+1) (_hf:cf.length=1+1) (i:Nat) (_hi:i<2*(1+1)) (v:Value),∃ LU LV,LU.length=1+1∧LV.length=1+1∧(aO L t e cv cf pv).set (15+i) v=aO L t ({e with now:=none,cC:=none}:aS σ) LU LV pv
def tree.fC:Prop:=∀ {σ:Type} {L:Lt} {t:Nat} (e:aS σ) (cv cf:List Value) (pv:Value) (_hv:cv.length=1+1) (_hf:cf.length=1+1) (i:Nat) (_hi:i<2*(1+1)) (v:Value),∃ LU LV,LU.length=1+1∧LV.length=1+1∧(aO L t e cv cf pv).set (15+i) v=aO L t ({e with now:=none,cC:=none}:aS σ) LU LV pv
theorem qQ:int.fC∧list.fC∧tree.fC:=by
 refine ⟨@mkK _ 0 ?_,@mkK _ 1 ?_,@mkK _ 2 ?_⟩<;>intro kk σ L t e cv cf pv hv hf i hi v
 all_goals
  first|(have _:Kn 0:=kk;unfold int.aO)|(have _:Kn 1:=kk;unfold list.aO)|(have _:Kn 2:=kk;unfold tree.aO)
  by_cases h:i<1+1
  ·refine ⟨cv.set i v,cf,by simpa using hv,hf,?_⟩
   rw [List.set_append_left _ _ (by simp [hv,hf];omega),List.set_append_left _ _ (by simp [hv];omega),List.set_append_right _ _ (by simp)]
   simp
  ·refine ⟨cv,cf.set (i-(1+1)) v,hv,by simpa using hf,?_⟩
   rw [List.set_append_left _ _ (by simp [hv,hf];omega),List.set_append_right _ _ (by simp [hv];omega)]
   have e:∀ m,m=15+(1+1)→15+i-m=i-(1+1):=fun m hm=>by omega
   rw [e _ (by simp [hv])]
theorem int.jI:fC:=qQ.1
theorem list.jI:fC:=qQ.2.1
theorem tree.jI:fC:=qQ.2.2
theorem row.jI {σ:Type} {L:Lt} {t:Nat} (e:aS σ) (cv cf:List Value) (pv:Value) (hv:cv.length=2+1) (hf:cf.length=2+1) (i:Nat) (hi:i<2*(2+1)) (v:Value) :
  ∃ LU LV,LU.length=2+1∧LV.length=2+1∧(aO L t e cv cf pv).set (15+i) v=aO L t ({e with now:=none,cC:=none}:aS σ) LU LV pv:=by
 unfold aO
 by_cases h:i<2+1
 ·refine ⟨cv.set i v,cf,by simpa using hv,hf,?_⟩
  rw [List.set_append_left _ _ (by simp [hv,hf];omega),List.set_append_left _ _ (by simp [hv];omega),List.set_append_right _ _ (by simp)]
  simp
 ·refine ⟨cv,cf.set (i-(2+1)) v,hv,by simpa using hf,?_⟩
  rw [List.set_append_left _ _ (by simp [hv,hf];omega),List.set_append_right _ _ (by simp [hv];omega)]
  have e:∀ m,m=15+(2+1)→15+i-m=i-(2+1):=fun m hm=>by omega
  rw [e _ (by simp [hv])]
def int.RE.tJ:Prop:=∀ {σ:Type} {R:SR σ} {L:Lt} {S:Nat→Prop} {E:aK σ} {w:World} {t:Nat} (_h:RE R L S E w) (_nE:t<L.n) (i:Nat) (_hi:i<2*(1+1)) (v:Value),RE R L S {E with th:=aH E.th t {E.th t with now:=none,cC:=none}} (w.setCell ⟨L.g,t*28+(15+i),none⟩ v)∧Fr L.own w (w.setCell ⟨L.g,t*28+(15+i),none⟩ v)
def list.RE.tJ:Prop:=∀ {σ:Type} {R:SR σ} {L:Lt} {S:Nat→Prop} {E:aK σ} {w:World} {t:Nat} (_h:RE R L S E w) (_nE:t<L.n) (i:Nat) (_hi:i<2*(1+1)) (v:Value),RE R L S {E with th:=aH E.th t {E.th t with now:=none,cC:=none}} (w.setCell ⟨L.g,t*28+(15+i),none⟩ v)∧Fr L.own w (w.setCell ⟨L.g,t*28+(15+i),none⟩ v)
def tree.RE.tJ:Prop:=∀ {σ:Type} {R:SR σ} {L:Lt} {S:Nat→Prop} {E:aK σ} {w:World} {t:Nat} (_h:RE R L S E w) (_nE:t<L.n) (i:Nat) (_hi:i<2*(1+1)) (v:Value),RE R L S {E with th:=aH E.th t {E.th t with now:=none,cC:=none}} (w.setCell ⟨L.g,t*28+(15+i),none⟩ v)∧Fr L.own w (w.setCell ⟨L.g,t*28+(15+i),none⟩ v)
def row.RE.tJ:Prop:=∀ {σ:Type} {R:SR σ} {L:Lt} {S:Nat→Prop} {E:aK σ} {w:World} {t:Nat} (_h:RE R L S E w) (_nE:t<L.n) (i:Nat) (_hi:i<2*(2+1)) (v:Value),RE R L S {E with th:=aH E.th t {E.th t with now:=none,cC:=none}} (w.setCell ⟨L.g,t*30+(15+i),none⟩ v)∧Fr L.own w (w.setCell ⟨L.g,t*30+(15+i),none⟩ v)
open row in
theorem wQ:int.RE.tJ∧list.RE.tJ∧tree.RE.tJ∧row.RE.tJ:=by
 refine ⟨@mkK _ 0 ?_,@mkK _ 1 ?_,@mkK _ 2 ?_,@mkK _ 3 ?_⟩<;>intro kk σ R L S E w t h oG i hi v
 all_goals
  refine ⟨?_,Fr.set w kE _⟩
  obtain ⟨sp,oF,yR⟩:=h.po
  obtain ⟨T,iR,xO⟩:=h.th
  have hown:L.own (L.g):=kE
  first|(have _:Kn 0:=kk;have ho:∀ k,k≠L.g→(w.setCell ⟨L.g,t*28+(15+i),none⟩ v).heap[k]?=w.heap[k]?:=fun k hk=>Below.heap_setCell w _ _ k hk)|(have _:Kn 1:=kk;have ho:∀ k,k≠L.g→(w.setCell ⟨L.g,t*28+(15+i),none⟩ v).heap[k]?=w.heap[k]?:=fun k hk=>Below.heap_setCell w _ _ k hk)|(have _:Kn 2:=kk;have ho:∀ k,k≠L.g→(w.setCell ⟨L.g,t*28+(15+i),none⟩ v).heap[k]?=w.heap[k]?:=fun k hk=>Below.heap_setCell w _ _ k hk)|(have _:Kn 3:=kk;have ho:∀ k,k≠L.g→(w.setCell ⟨L.g,t*30+(15+i),none⟩ v).heap[k]?=w.heap[k]?:=fun k hk=>Below.heap_setCell w _ _ k hk)
  first|(have _:Kn 0:=kk;have hst:∀ k,(S k∧¬L.own k)→k<w.heap.size→(S k∧¬L.own k)∧(w.setCell ⟨L.g,t*28+(15+i),none⟩ v).heap[k]?=w.heap[k]?:=fun k hk _=>⟨hk,ho k (by rintro rfl;exact hk.2 hown)⟩)|(have _:Kn 1:=kk;have hst:∀ k,(S k∧¬L.own k)→k<w.heap.size→(S k∧¬L.own k)∧(w.setCell ⟨L.g,t*28+(15+i),none⟩ v).heap[k]?=w.heap[k]?:=fun k hk _=>⟨hk,ho k (by rintro rfl;exact hk.2 hown)⟩)|(have _:Kn 2:=kk;have hst:∀ k,(S k∧¬L.own k)→k<w.heap.size→(S k∧¬L.own k)∧(w.setCell ⟨L.g,t*28+(15+i),none⟩ v).heap[k]?=w.heap[k]?:=fun k hk _=>⟨hk,ho k (by rintro rfl;exact hk.2 hown)⟩)|(have _:Kn 3:=kk;have hst:∀ k,(S k∧¬L.own k)→k<w.heap.size→(S k∧¬L.own k)∧(w.setCell ⟨L.g,t*30+(15+i),none⟩ v).heap[k]?=w.heap[k]?:=fun k hk _=>⟨hk,ho k (by rintro rfl;exact hk.2 hown)⟩)
  have hI:∀ k,(S k∧¬L.own k)→k<w.heap.size:=fun k hk=>h.lt k hk.1
  refine {ok:=h.ok,qM:=h.qM.of_block (ho _ (fun q=>h.pJ.2 (by rw [q];exact hown))),pJ:=h.pJ,sh:=?sh,tg:=?tg,an:=?an,po:=?po,rw:=?rw,th:=?th,gd:=?gd,gg:=?gg,ow:=h.ow,lt:=fun k hk=>(by simpa [World.setCell] using h.lt k hk)}
  case sh=>exact h.sh.of_block (ho _ (Row.apart h.sh iR (by decide)))
  case tg=>exact h.tg.of_block (ho _ (Row.apart h.tg iR (by decide)))
  case an=>exact h.an.of_block (ho _ (Row.apart h.an iR (by decide)))
  case po=>exact ⟨sp,oF.of_block (ho _ (Row.apart oF iR (by decide))),fun r hr=>(yR r hr).stay hst hI⟩
  case rw=>exact fun r hr=>(h.rw r hr).of_block (ho _ (Row.apart (h.rw r hr) iR (by decide)))
  case th =>
   first|(have _:Kn 0:=kk;refine ⟨_,iR.set (show 15+i<28 by omega) v,fun u hu=>?_⟩)|(have _:Kn 1:=kk;refine ⟨_,iR.set (show 15+i<28 by omega) v,fun u hu=>?_⟩)|(have _:Kn 2:=kk;refine ⟨_,iR.set (show 15+i<28 by omega) v,fun u hu=>?_⟩)|(have _:Kn 3:=kk;refine ⟨_,iR.set (show 15+i<30 by omega) v,fun u hu=>?_⟩)
   obtain ⟨cv,cf,pv,q⟩:=xO u hu
   have q':=q.stay hst hI
   by_cases c:u=t
   ·subst c
    first|(have _:Kn 0:=kk;obtain ⟨LU,LV,l1,l2,wI⟩:=int.jI (L:=L) (t:=u) (E.th u) cv cf pv q.now.1 q.cC.1 i hi v)|(have _:Kn 1:=kk;obtain ⟨LU,LV,l1,l2,wI⟩:=list.jI (L:=L) (t:=u) (E.th u) cv cf pv q.now.1 q.cC.1 i hi v)|(have _:Kn 2:=kk;obtain ⟨LU,LV,l1,l2,wI⟩:=tree.jI (L:=L) (t:=u) (E.th u) cv cf pv q.now.1 q.cC.1 i hi v)|(have _:Kn 3:=kk;obtain ⟨LU,LV,l1,l2,wI⟩:=row.jI (L:=L) (t:=u) (E.th u) cv cf pv q.now.1 q.cC.1 i hi v)
    refine ⟨LU,LV,pv,?_⟩
    show fY R L _ _ u (aH E.th u _ u) (aH T u (aH (T u) (15+i) v) u) _ _ _
    rw [aC,aC]
    refine ⟨?_,⟨l1,fun x hx=>by cases hx⟩,⟨l2,fun x hx=>by cases hx⟩,q'.aI⟩
    have:=q.like.set (15+i) v
    rwa [wI] at this
   ·refine ⟨cv,cf,pv,?_⟩
    show fY R L _ _ u (aH E.th t _ u) (aH T t (aH (T t) (15+i) v) u) _ _ _
    rw [aE _ _ c,aE _ _ c]
    exact q'
  case gd =>
   intro u hu
   refine ((h.gd u hu).of_block (ho _ (Row.apart (h.gd u hu) iR (by decide)))).congr (fun k _=>?_)
   exact congrArg _ (congrFun (xP E.th t {E.th t with now:=none,cC:=none} rfl u).symm k)
  case gg =>
   intro u hu
   refine ((h.gg u hu).of_block (ho _ (Row.apart (h.gg u hu) iR (by decide)))).congr (fun k _=>?_)
   exact congrArg _ (congrFun (xQ E.th t {E.th t with now:=none,cC:=none} rfl u).symm k)
theorem int.RE.raw:tJ:=wQ.1
theorem list.RE.raw:tJ:=wQ.2.1
theorem tree.RE.raw:tJ:=wQ.2.2.1
theorem row.RE.raw:tJ:=wQ.2.2.2
def int.RE.lO:Prop:=∀ {σ:Type} {R:SR σ} {L:Lt} {S:Nat→Prop} {E:aK σ} {w:World} {t:Nat} (_h:RE R L S E w) (_nE:t<L.n) {cv cf:List Value} (_hcv:∀ i,i<1+1→w.cell? ⟨L.g,t*28+(15+i),none⟩=cv[i]?) (_vL:∀ i,i<1+1→w.cell? ⟨L.g,t*28+(15+(1+1+i)),none⟩=cf[i]?) {v f:cY σ} (_hv:aV R (fun k=>S k∧¬L.own k) w v cv) (_hf:aV R (fun k=>S k∧¬L.own k) w f cf) (e':aS σ) (_he:e' = {E.th t with now:=some v,cC:=some f}),RE R L S {E with th:=aH E.th t e'} w
def list.RE.lO:Prop:=∀ {σ:Type} {R:SR σ} {L:Lt} {S:Nat→Prop} {E:aK σ} {w:World} {t:Nat} (_h:RE R L S E w) (_nE:t<L.n) {cv cf:List Value} (_hcv:∀ i,i<1+1→w.cell? ⟨L.g,t*28+(15+i),none⟩=cv[i]?) (_vL:∀ i,i<1+1→w.cell? ⟨L.g,t*28+(15+(1+1+i)),none⟩=cf[i]?) {v f:cY σ} (_hv:aV R (fun k=>S k∧¬L.own k) w v cv) (_hf:aV R (fun k=>S k∧¬L.own k) w f cf) (e':aS σ) (_he:e' = {E.th t with now:=some v,cC:=some f}),RE R L S {E with th:=aH E.th t e'} w
def tree.RE.lO:Prop:=∀ {σ:Type} {R:SR σ} {L:Lt} {S:Nat→Prop} {E:aK σ} {w:World} {t:Nat} (_h:RE R L S E w) (_nE:t<L.n) {cv cf:List Value} (_hcv:∀ i,i<1+1→w.cell? ⟨L.g,t*28+(15+i),none⟩=cv[i]?) (_vL:∀ i,i<1+1→w.cell? ⟨L.g,t*28+(15+(1+1+i)),none⟩=cf[i]?) {v f:cY σ} (_hv:aV R (fun k=>S k∧¬L.own k) w v cv) (_hf:aV R (fun k=>S k∧¬L.own k) w f cf) (e':aS σ) (_he:e' = {E.th t with now:=some v,cC:=some f}),RE R L S {E with th:=aH E.th t e'} w
def row.RE.lO:Prop:=∀ {σ:Type} {R:SR σ} {L:Lt} {S:Nat→Prop} {E:aK σ} {w:World} {t:Nat} (_h:RE R L S E w) (_nE:t<L.n) {cv cf:List Value} (_hcv:∀ i,i<2+1→w.cell? ⟨L.g,t*30+(15+i),none⟩=cv[i]?) (_vL:∀ i,i<2+1→w.cell? ⟨L.g,t*30+(15+(2+1+i)),none⟩=cf[i]?) {v f:cY σ} (_hv:aV R (fun k=>S k∧¬L.own k) w v cv) (_hf:aV R (fun k=>S k∧¬L.own k) w f cf) (e':aS σ) (_he:e' = {E.th t with now:=some v,cC:=some f}),RE R L S {E with th:=aH E.th t e'} w
open row in
theorem sD:int.RE.lO∧list.RE.lO∧tree.RE.lO∧row.RE.lO:=by
 refine ⟨@mkK _ 0 ?_,@mkK _ 1 ?_,@mkK _ 2 ?_,@mkK _ 3 ?_⟩<;>intro kk σ R L S E w t h oG cv cf hcv eE v f hv hf e' he
 all_goals
  subst he
  obtain ⟨T,iR,xO⟩:=h.th
  have lv:=aV.len R hv
  have lf:=aV.len R hf
  refine {ok:=h.ok,qM:=h.qM,pJ:=h.pJ,sh:=h.sh,tg:=h.tg,an:=h.an,po:=h.po,rw:=h.rw,th:=⟨T,iR,fun u hu=>?th⟩,gd:=?gd,gg:=?gg,ow:=h.ow,lt:=h.lt}
  case th =>
   obtain ⟨KL,KM,pv,q⟩:=xO u hu
   show ∃ cv cf pv,fY R L _ w u (aH E.th t _ u) (T u) cv cf pv
   by_cases c:u=t
   ·subst c
    rw [aC]
    refine ⟨cv,cf,pv,?_,⟨lv,fun x hx=>by injection hx with hx;rw [←hx];exact hv⟩,⟨lf,fun x hx=>by injection hx with hx;rw [←hx];exact hf⟩,q.aI⟩
    have e1:cv=KL:=by
     apply List.ext_getElem?
     intro i
     first|(have _:Kn 0:=kk;by_cases hi:i<1+1)|(have _:Kn 1:=kk;by_cases hi:i<1+1)|(have _:Kn 2:=kk;by_cases hi:i<1+1)|(have _:Kn 3:=kk;by_cases hi:i<2+1)
     ·first|(have _:Kn 0:=kk;rw [←hcv i hi,iR.cell (Nat.lt_of_lt_of_le hu h.ok.gn) (show 15+i<28 by omega)])|(have _:Kn 1:=kk;rw [←hcv i hi,iR.cell (Nat.lt_of_lt_of_le hu h.ok.gn) (show 15+i<28 by omega)])|(have _:Kn 2:=kk;rw [←hcv i hi,iR.cell (Nat.lt_of_lt_of_le hu h.ok.gn) (show 15+i<28 by omega)])|(have _:Kn 3:=kk;rw [←hcv i hi,iR.cell (Nat.lt_of_lt_of_le hu h.ok.gn) (show 15+i<30 by omega)])
      first
       |have _:Kn 0:=kk
        have:(int.aO L u (E.th u) KL KM pv)[15+i]?=KL[i]?:=by
         unfold int.aO
         rw [List.getElem?_append_left (by simp [q.now.1,q.cC.1];omega),List.getElem?_append_left (by simp [q.now.1];omega),List.getElem?_append_right (by simp)]
         simp
       |have _:Kn 1:=kk
        have:(list.aO L u (E.th u) KL KM pv)[15+i]?=KL[i]?:=by
         unfold list.aO
         rw [List.getElem?_append_left (by simp [q.now.1,q.cC.1];omega),List.getElem?_append_left (by simp [q.now.1];omega),List.getElem?_append_right (by simp)]
         simp
       |have _:Kn 2:=kk
        have:(tree.aO L u (E.th u) KL KM pv)[15+i]?=KL[i]?:=by
         unfold tree.aO
         rw [List.getElem?_append_left (by simp [q.now.1,q.cC.1];omega),List.getElem?_append_left (by simp [q.now.1];omega),List.getElem?_append_right (by simp)]
         simp
       |have _:Kn 3:=kk
        have:(row.aO L u (E.th u) KL KM pv)[15+i]?=KL[i]?:=by
         unfold row.aO
         rw [List.getElem?_append_left (by simp [q.now.1,q.cC.1];omega),List.getElem?_append_left (by simp [q.now.1];omega),List.getElem?_append_right (by simp)]
         simp
      have hl:i<KL.length:=by rw [q.now.1];exact hi
      rw [List.getElem?_eq_getElem hl] at this ⊢
      rw [q.like _ _ this]
     ·rw [List.getElem?_eq_none (by omega),List.getElem?_eq_none (by have:=q.now.1;omega)]
    have e2:cf=KM:=by
     apply List.ext_getElem?
     intro i
     first|(have _:Kn 0:=kk;by_cases hi:i<1+1)|(have _:Kn 1:=kk;by_cases hi:i<1+1)|(have _:Kn 2:=kk;by_cases hi:i<1+1)|(have _:Kn 3:=kk;by_cases hi:i<2+1)
     ·first|(have _:Kn 0:=kk;rw [←eE i hi,iR.cell (Nat.lt_of_lt_of_le hu h.ok.gn) (show 15+(1+1+i)<28 by omega)])|(have _:Kn 1:=kk;rw [←eE i hi,iR.cell (Nat.lt_of_lt_of_le hu h.ok.gn) (show 15+(1+1+i)<28 by omega)])|(have _:Kn 2:=kk;rw [←eE i hi,iR.cell (Nat.lt_of_lt_of_le hu h.ok.gn) (show 15+(1+1+i)<28 by omega)])|(have _:Kn 3:=kk;rw [←eE i hi,iR.cell (Nat.lt_of_lt_of_le hu h.ok.gn) (show 15+(2+1+i)<30 by omega)])
      first
       |have _:Kn 0:=kk
        have:(int.aO L u (E.th u) KL KM pv)[15+(1+1+i)]?=KM[i]?:=by
         unfold int.aO
         rw [List.getElem?_append_left (by simp [q.now.1,q.cC.1];omega),List.getElem?_append_right (by simp [q.now.1];omega)]
         simp [q.now.1]
         congr 1
         omega
       |have _:Kn 1:=kk
        have:(list.aO L u (E.th u) KL KM pv)[15+(1+1+i)]?=KM[i]?:=by
         unfold list.aO
         rw [List.getElem?_append_left (by simp [q.now.1,q.cC.1];omega),List.getElem?_append_right (by simp [q.now.1];omega)]
         simp [q.now.1]
         congr 1
         omega
       |have _:Kn 2:=kk
        have:(tree.aO L u (E.th u) KL KM pv)[15+(1+1+i)]?=KM[i]?:=by
         unfold tree.aO
         rw [List.getElem?_append_left (by simp [q.now.1,q.cC.1];omega),List.getElem?_append_right (by simp [q.now.1];omega)]
         simp [q.now.1]
         congr 1
         omega
       |have _:Kn 3:=kk
        have:(row.aO L u (E.th u) KL KM pv)[15+(2+1+i)]?=KM[i]?:=by
         unfold row.aO
         rw [List.getElem?_append_left (by simp [q.now.1,q.cC.1];omega),List.getElem?_append_right (by simp [q.now.1];omega)]
         simp [q.now.1]
         congr 1
         omega
      have hl:i<KM.length:=by rw [q.cC.1];exact hi
      rw [List.getElem?_eq_getElem hl] at this ⊢
      rw [q.like _ _ this]
     ·rw [List.getElem?_eq_none (by omega),List.getElem?_eq_none (by have:=q.cC.1;omega)]
    rw [e1,e2]
    exact q.like
   ·rw [aE _ _ c]
    exact ⟨KL,KM,pv,q⟩
  case gd =>
   intro u hu
   refine (h.gd u hu).congr (fun k _=>?_)
   exact congrArg _ (congrFun (xP E.th t {E.th t with now:=some v,cC:=some f} rfl u).symm k)
  case gg =>
   intro u hu
   refine (h.gg u hu).congr (fun k _=>?_)
   exact congrArg _ (congrFun (xQ E.th t {E.th t with now:=some v,cC:=some f} rfl u).symm k)
theorem int.RE.KN:lO:=sD.1
theorem list.RE.KN:lO:=sD.2.1
theorem tree.RE.KN:lO:=sD.2.2.1
theorem row.RE.KN:lO:=sD.2.2.2
theorem int.RE.GH {σ:Type} {R:SR σ} {L:Lt} {S:Nat→Prop} {t:Nat} (oG:t<L.n):∀ (vs:List Value) (i:Nat) (E:aK σ) (w:World),RE R L S E w→(E.th t).now=none→(E.th t).cC=none→i+vs.length≤2*(1+1)→RE R L S E (w.setCells L.g (t*28+(15+i)) vs)∧Fr L.own w (w.setCells L.g (t*28+(15+i)) vs)
 |[],_,_,w,h,_,_,_=>⟨h,Fr.refl _ w⟩
 |v::vs,i,E,w,h,h1,h2,hl=>by
  simp only [List.length_cons] at hl
  obtain ⟨r1,k1⟩:=h.raw oG i (by omega) v
  have e:{E with th:=aH E.th t {E.th t with now:=none,cC:=none}} = E:=by
   have:({E.th t with now:=none,cC:=none}:aS σ)=E.th t:=by
    cases hq:E.th t with
    |mk a1 a2 a3 a4 a5 a6 a7 a8 a9 a10 a11 a12 a13 a14 a15 a16 a17 a18 a19 a20 =>
     rw [hq] at h1 h2
     simp only at h1 h2
     subst h1
     subst h2
     rfl
   rw [this]
   have u:aH E.th t (E.th t)=E.th:=by funext k;unfold aH;split<;>simp_all
   rw [u]
  rw [e] at r1
  obtain ⟨r2,k2⟩:=RE.GH oG vs (i+1) E _ r1 h1 h2 (by omega)
  rw [World.setCells,show t*28+(15+i)+1=t*28+(15+(i+1)) by omega]
  exact ⟨r2,k1.trans k2⟩
theorem list.RE.GH {σ:Type} {R:SR σ} {L:Lt} {S:Nat→Prop} {t:Nat} (oG:t<L.n):∀ (vs:List Value) (i:Nat) (E:aK σ) (w:World),RE R L S E w→(E.th t).now=none→(E.th t).cC=none→i+vs.length≤2*(1+1)→RE R L S E (w.setCells L.g (t*28+(15+i)) vs)∧Fr L.own w (w.setCells L.g (t*28+(15+i)) vs)
 |[],_,_,w,h,_,_,_=>⟨h,Fr.refl _ w⟩
 |v::vs,i,E,w,h,h1,h2,hl=>by
  simp only [List.length_cons] at hl
  obtain ⟨r1,k1⟩:=h.raw oG i (by omega) v
  have e:{E with th:=aH E.th t {E.th t with now:=none,cC:=none}} = E:=by
   have:({E.th t with now:=none,cC:=none}:aS σ)=E.th t:=by
    cases hq:E.th t with
    |mk a1 a2 a3 a4 a5 a6 a7 a8 a9 a10 a11 a12 a13 a14 a15 a16 a17 a18 a19 a20 =>
     rw [hq] at h1 h2
     simp only at h1 h2
     subst h1
     subst h2
     rfl
   rw [this]
   have u:aH E.th t (E.th t)=E.th:=by funext k;unfold aH;split<;>simp_all
   rw [u]
  rw [e] at r1
  obtain ⟨r2,k2⟩:=RE.GH oG vs (i+1) E _ r1 h1 h2 (by omega)
  rw [World.setCells,show t*28+(15+i)+1=t*28+(15+(i+1)) by omega]
  exact ⟨r2,k1.trans k2⟩
theorem tree.RE.GH {σ:Type} {R:SR σ} {L:Lt} {S:Nat→Prop} {t:Nat} (oG:t<L.n):∀ (vs:List Value) (i:Nat) (E:aK σ) (w:World),RE R L S E w→(E.th t).now=none→(E.th t).cC=none→i+vs.length≤2*(1+1)→RE R L S E (w.setCells L.g (t*28+(15+i)) vs)∧Fr L.own w (w.setCells L.g (t*28+(15+i)) vs)
 |[],_,_,w,h,_,_,_=>⟨h,Fr.refl _ w⟩
 |v::vs,i,E,w,h,h1,h2,hl=>by
  simp only [List.length_cons] at hl
  obtain ⟨r1,k1⟩:=h.raw oG i (by omega) v
  have e:{E with th:=aH E.th t {E.th t with now:=none,cC:=none}} = E:=by
   have:({E.th t with now:=none,cC:=none}:aS σ)=E.th t:=by
    cases hq:E.th t with
    |mk a1 a2 a3 a4 a5 a6 a7 a8 a9 a10 a11 a12 a13 a14 a15 a16 a17 a18 a19 a20 =>
     rw [hq] at h1 h2
     simp only at h1 h2
     subst h1
     subst h2
     rfl
   rw [this]
   have u:aH E.th t (E.th t)=E.th:=by funext k;unfold aH;split<;>simp_all
   rw [u]
  rw [e] at r1
  obtain ⟨r2,k2⟩:=RE.GH oG vs (i+1) E _ r1 h1 h2 (by omega)
  rw [World.setCells,show t*28+(15+i)+1=t*28+(15+(i+1)) by omega]
  exact ⟨r2,k1.trans k2⟩
theorem row.RE.GH {σ:Type} {R:SR σ} {L:Lt} {S:Nat→Prop} {t:Nat} (oG:t<L.n):∀ (vs:List Value) (i:Nat) (E:aK σ) (w:World),RE R L S E w→(E.th t).now=none→(E.th t).cC=none→i+vs.length≤2*(2+1)→RE R L S E (w.setCells L.g (t*30+(15+i)) vs)∧Fr L.own w (w.setCells L.g (t*30+(15+i)) vs)
 |[],_,_,w,h,_,_,_=>⟨h,Fr.refl _ w⟩
 |v::vs,i,E,w,h,h1,h2,hl=>by
  simp only [List.length_cons] at hl
  obtain ⟨r1,k1⟩:=h.raw oG i (by omega) v
  have e:{E with th:=aH E.th t {E.th t with now:=none,cC:=none}} = E:=by
   have:({E.th t with now:=none,cC:=none}:aS σ)=E.th t:=by
    cases hq:E.th t with
    |mk a1 a2 a3 a4 a5 a6 a7 a8 a9 a10 a11 a12 a13 a14 a15 a16 a17 a18 a19 a20 =>
     rw [hq] at h1 h2
     simp only at h1 h2
     subst h1
     subst h2
     rfl
   rw [this]
   have u:aH E.th t (E.th t)=E.th:=by funext k;unfold aH;split<;>simp_all
   rw [u]
  rw [e] at r1
  obtain ⟨r2,k2⟩:=RE.GH oG vs (i+1) E _ r1 h1 h2 (by omega)
  rw [World.setCells,show t*30+(15+i)+1=t*30+(15+(i+1)) by omega]
  exact ⟨r2,k1.trans k2⟩
def int.RE.jJ:Prop:=∀ {σ:Type} {R:SR σ} {L:Lt} {S:Nat→Prop} {E:aK σ} {w:World} {t:Nat} (_h:RE R L S E w) (_nE:t<L.n) (vs:List Value) (i:Nat) (_hl:i+vs.length≤2*(1+1)) (_GG:vs≠[]) {cv cf:List Value} {v f:cY σ} (_hv:aV R (fun k=>S k∧¬L.own k) w v cv) (_hf:aV R (fun k=>S k∧¬L.own k) w f cf) (_hc:∀ j,j<2*(1+1)→(if i≤j∧j<i+vs.length then vs[j-i]? else w.cell? ⟨L.g,t*28+(15+j),none⟩)=(cv++cf)[j]?) (e':aS σ) (_he:e' = {E.th t with now:=some v,cC:=some f}),RE R L S {E with th:=aH E.th t e'} (w.setCells L.g (t*28+(15+i)) vs)∧Fr L.own w (w.setCells L.g (t*28+(15+i)) vs)
def list.RE.jJ:Prop:=∀ {σ:Type} {R:SR σ} {L:Lt} {S:Nat→Prop} {E:aK σ} {w:World} {t:Nat} (_h:RE R L S E w) (_nE:t<L.n) (vs:List Value) (i:Nat) (_hl:i+vs.length≤2*(1+1)) (_GG:vs≠[]) {cv cf:List Value} {v f:cY σ} (_hv:aV R (fun k=>S k∧¬L.own k) w v cv) (_hf:aV R (fun k=>S k∧¬L.own k) w f cf) (_hc:∀ j,j<2*(1+1)→(if i≤j∧j<i+vs.length then vs[j-i]? else w.cell? ⟨L.g,t*28+(15+j),none⟩)=(cv++cf)[j]?) (e':aS σ) (_he:e' = {E.th t with now:=some v,cC:=some f}),RE R L S {E with th:=aH E.th t e'} (w.setCells L.g (t*28+(15+i)) vs)∧Fr L.own w (w.setCells L.g (t*28+(15+i)) vs)
def tree.RE.jJ:Prop:=∀ {σ:Type} {R:SR σ} {L:Lt} {S:Nat→Prop} {E:aK σ} {w:World} {t:Nat} (_h:RE R L S E w) (_nE:t<L.n) (vs:List Value) (i:Nat) (_hl:i+vs.length≤2*(1+1)) (_GG:vs≠[]) {cv cf:List Value} {v f:cY σ} (_hv:aV R (fun k=>S k∧¬L.own k) w v cv) (_hf:aV R (fun k=>S k∧¬L.own k) w f cf) (_hc:∀ j,j<2*(1+1)→(if i≤j∧j<i+vs.length then vs[j-i]? else w.cell? ⟨L.g,t*28+(15+j),none⟩)=(cv++cf)[j]?) (e':aS σ) (_he:e' = {E.th t with now:=some v,cC:=some f}),RE R L S {E with th:=aH E.th t e'} (w.setCells L.g (t*28+(15+i)) vs)∧Fr L.own w (w.setCells L.g (t*28+(15+i)) vs)
theorem qR:int.RE.jJ∧list.RE.jJ∧tree.RE.jJ:=by
 refine ⟨?_,?_,?_⟩<;>intro σ R L S E w t h oG vs i hl hne cv cf v f hv hf hc e' he
 all_goals
  cases vs with
  |nil=>exact absurd rfl hne
  |cons a vs =>
   simp only [List.length_cons] at hl
   obtain ⟨r1,k1⟩:=h.raw oG i (by omega) a
   obtain ⟨r2,k2⟩:=RE.GH oG vs (i+1) _ _ r1 (by simp [aC]) (by simp [aC]) (by omega)
   have hw:(w.setCell ⟨L.g,t*28+(15+i),none⟩ a).setCells L.g (t*28+(15+(i+1))) vs=w.setCells L.g (t*28+(15+i)) (a::vs):=by
    rw [World.setCells,show t*28+(15+i)+1=t*28+(15+(i+1)) by omega]
   rw [hw] at r2 k2
   have kk:=k1.trans k2
   have lv:=aV.len R hv
   have lf:=aV.len R hf
   have hst:∀ k,(S k∧¬L.own k)→k<w.heap.size→(S k∧¬L.own k)∧(w.setCells L.g (t*28+(15+i)) (a::vs)).heap[k]?=w.heap[k]?:=fun k hk hlt=>⟨hk,kk.block k hlt hk.2⟩
   have hI:∀ k,(S k∧¬L.own k)→k<w.heap.size:=fun k hk=>h.lt k hk.1
   have OT:∀ j,j<2*(1+1)→(w.cell? ⟨L.g,t*28+(15+j),none⟩).isSome=true:=by
    obtain ⟨T,iR,-⟩:=h.th
    intro j hj
    rw [iR.cell (Nat.lt_of_lt_of_le oG h.ok.gn) (show 15+j<28 by omega)]
    rfl
   have hcell:∀ j,j<2*(1+1)→(w.setCells L.g (t*28+(15+i)) (a::vs)).cell? ⟨L.g,t*28+(15+j),none⟩=(cv++cf)[j]?:=by
    intro j hj
    rw [←hc j hj]
    by_cases q:i≤j∧j<i+(a::vs).length
    ·rw [if_pos q]
     have hj2:j-i<(a::vs).length:=by omega
     have:=World.cell?_setCells_in L.g (a::vs) (t*28+(15+i)) w (fun k hk=>by
      simp only [List.length_cons] at hk
      have:=OT (i+k) (by omega)
      rwa [show t*28+(15+i)+k=t*28+(15+(i+k)) by omega]) (j-i) hj2
     rw [show t*28+(15+i)+(j-i)=t*28+(15+j) by omega] at this
     rw [this,List.getElem?_eq_getElem hj2]
    ·rw [if_neg q]
     refine World.cell?_setCells_out L.g (a::vs) _ w _ (fun _ _=>?_)
     show t*28+(15+j)<_∨_≤t*28+(15+j)
     omega
   have:=r2.KN oG (cv:=cv) (cf:=cf) (fun j hj=>by rw [hcell j (by omega),List.getElem?_append_left (by omega)]) (fun j hj=>by rw [hcell (1+1+j) (by omega),List.getElem?_append_right (by omega),lv];congr 1;omega) (aV.stay hst hI hv) (aV.stay hst hI hf) e' (by rw [he];simp only [aC])
   refine ⟨this.cast ?_,kk⟩
   simp only [bR]
theorem int.RE.jK:jJ:=qR.1
theorem list.RE.jK:jJ:=qR.2.1
theorem tree.RE.jK:jJ:=qR.2.2
theorem row.RE.jK {σ:Type} {R:SR σ} {L:Lt} {S:Nat→Prop} {E:aK σ} {w:World} {t:Nat} (h:RE R L S E w) (oG:t<L.n) (vs:List Value) (i:Nat) (hl:i+vs.length≤2*(2+1)) (hne:vs≠[]) {cv cf:List Value} {v f:cY σ} (hv:aV R (fun k=>S k∧¬L.own k) w v cv) (hf:aV R (fun k=>S k∧¬L.own k) w f cf)
  (hc:∀ j,j<2*(2+1)→(if i≤j∧j<i+vs.length then vs[j-i]? else w.cell? ⟨L.g,t*30+(15+j),none⟩)=(cv++cf)[j]?) (e':aS σ) (he:e' = {E.th t with now:=some v,cC:=some f}) :
  RE R L S {E with th:=aH E.th t e'} (w.setCells L.g (t*30+(15+i)) vs)∧Fr L.own w (w.setCells L.g (t*30+(15+i)) vs):=by
 cases vs with
 |nil=>exact absurd rfl hne
 |cons a vs =>
  simp only [List.length_cons] at hl
  obtain ⟨r1,k1⟩:=h.raw oG i (by omega) a
  obtain ⟨r2,k2⟩:=RE.GH oG vs (i+1) _ _ r1 (by simp [aC]) (by simp [aC]) (by omega)
  have hw:(w.setCell ⟨L.g,t*30+(15+i),none⟩ a).setCells L.g (t*30+(15+(i+1))) vs=w.setCells L.g (t*30+(15+i)) (a::vs):=by
   rw [World.setCells,show t*30+(15+i)+1=t*30+(15+(i+1)) by omega]
  rw [hw] at r2 k2
  have kk:=k1.trans k2
  have lv:=aV.len R hv
  have lf:=aV.len R hf
  have hst:∀ k,(S k∧¬L.own k)→k<w.heap.size→(S k∧¬L.own k)∧(w.setCells L.g (t*30+(15+i)) (a::vs)).heap[k]?=w.heap[k]?:=fun k hk hlt=>⟨hk,kk.block k hlt hk.2⟩
  have hI:∀ k,(S k∧¬L.own k)→k<w.heap.size:=fun k hk=>h.lt k hk.1
  have OT:∀ j,j<2*(2+1)→(w.cell? ⟨L.g,t*30+(15+j),none⟩).isSome=true:=by
   obtain ⟨T,iR,-⟩:=h.th
   intro j hj
   rw [iR.cell (Nat.lt_of_lt_of_le oG h.ok.gn) (show 15+j<30 by omega)]
   rfl
  have hcell:∀ j,j<2*(2+1)→(w.setCells L.g (t*30+(15+i)) (a::vs)).cell? ⟨L.g,t*30+(15+j),none⟩=(cv++cf)[j]?:=by
   intro j hj
   rw [←hc j hj]
   by_cases q:i≤j∧j<i+(a::vs).length
   ·rw [if_pos q]
    have hj2:j-i<(a::vs).length:=by omega
    have:=World.cell?_setCells_in L.g (a::vs) (t*30+(15+i)) w (fun k hk=>by
     simp only [List.length_cons] at hk
     have:=OT (i+k) (by omega)
     rwa [show t*30+(15+i)+k=t*30+(15+(i+k)) by omega]) (j-i) hj2
    rw [show t*30+(15+i)+(j-i)=t*30+(15+j) by omega] at this
    rw [this,List.getElem?_eq_getElem hj2]
   ·rw [if_neg q]
    refine World.cell?_setCells_out L.g (a::vs) _ w _ (fun _ _=>?_)
    show t*30+(15+j)<_∨_≤t*30+(15+j)
    omega
  have:=r2.KN oG (cv:=cv) (cf:=cf) (fun j hj=>by rw [hcell j (by omega),List.getElem?_append_left (by omega)]) (fun j hj=>by rw [hcell (2+1+j) (by omega),List.getElem?_append_right (by omega),lv];congr 1;omega) (aV.stay hst hI hv) (aV.stay hst hI hf) e' (by rw [he];simp only [aC])
  refine ⟨this.cast ?_,kk⟩
  simp only [bR]
end Go.Proofs.YtefjhnhdagolhabGreat
