import Derived.Test.YtefjhnhdagolhaaGreatQ21
set_option maxHeartbeats 1000000
namespace Go.Proofs.YtefjhnhdagolhaaGreat
open int list tree
open Go.RowKit
open M (aI aC aD Op cY aS aK aQ aL aN)
def int.fH:Prop:=∀ {σ:Type} {L:Lt} {t:Nat} (e:aS σ) (cv cf:List Value) (pv:Value) (_hv:cv.length=1+1) (_hf:cf.length=1+1) (i:Nat) (_hi:i<2*(1+1)) (v:Value),∃ MH MI,MH.length=1+1∧MI.length=1+1∧(aO L t e cv cf pv).set (15+i) v=aO L t ({e with now:=none,cD:=none}:aS σ) MH MI pv
def list.fH:Prop:=∀ {σ:Type} {L:Lt} {t:Nat} (e:aS σ) (cv cf:List Value) (pv:Value) (_hv:cv.length=1+1) (_hf:cf.length=1+1) (i:Nat) (_hi:i<2*(1+1)) (v:Value),∃ MH MI,MH.length=1+1∧MI.length=1+1∧(aO L t e cv cf pv).set (15+i) v=aO L t ({e with now:=none,cD:=none}:aS σ) MH MI pv
def tree.fH:Prop:=∀ {σ:Type} {L:Lt} {t:Nat} (e:aS σ) (cv cf:List Value) (pv:Value) (_hv:cv.length=1+1) (_hf:cf.length=1+1) (i:Nat) (_hi:i<2*(1+1)) (v:Value),∃ MH MI,MH.length=1+1∧MI.length=1+1∧(aO L t e cv cf pv).set (15+i) v=aO L t ({e with now:=none,cD:=none}:aS σ) MH MI pv
theorem rH:int.fH∧list.fH∧tree.fH:=by
 refine ⟨@mkK _ 0 ?_,@mkK _ 1 ?_,@mkK _ 2 ?_⟩<;>intro kk σ L t e cv cf pv hv hf i hi v
 all_goals
  first|(have _:Kn 0:=kk;unfold int.aO)|(have _:Kn 1:=kk;unfold list.aO)|(have _:Kn 2:=kk;unfold tree.aO)
  by_cases h:i<1+1
  ·refine ⟨cv.set i v,cf,by simpa using hv,hf,?_⟩
   rw [List.set_append_left _ _ (by simp [hv,hf];omega),List.set_append_left _ _ (by simp [hv];omega),List.set_append_right _ _ (by simp)]
   simp
  ·refine ⟨cv,cf.set (i-(1+1)) v,hv,by simpa using hf,?_⟩
   rw [List.set_append_left _ _ (by simp [hv,hf];omega),List.set_append_right _ _ (by simp [hv];omega)]
   have e:∀ m,m=15+(1+1)→15+i-m=i-(1+1):=fun m hm=>by omega
   rw [e _ (by simp [hv])]
theorem int.jO:fH:=rH.1
theorem list.jO:fH:=rH.2.1
theorem tree.jO:fH:=rH.2.2
theorem row.jO {σ:Type} {L:Lt} {t:Nat} (e:aS σ) (cv cf:List Value) (pv:Value) (hv:cv.length=2+1) (hf:cf.length=2+1) (i:Nat) (hi:i<2*(2+1)) (v:Value) :
  ∃ MH MI,MH.length=2+1∧MI.length=2+1∧(aO L t e cv cf pv).set (15+i) v=aO L t ({e with now:=none,cD:=none}:aS σ) MH MI pv:=by
 unfold aO
 by_cases h:i<2+1
 ·refine ⟨cv.set i v,cf,by simpa using hv,hf,?_⟩
  rw [List.set_append_left _ _ (by simp [hv,hf];omega),List.set_append_left _ _ (by simp [hv];omega),List.set_append_right _ _ (by simp)]
  simp
 ·refine ⟨cv,cf.set (i-(2+1)) v,hv,by simpa using hf,?_⟩
  rw [List.set_append_left _ _ (by simp [hv,hf];omega),List.set_append_right _ _ (by simp [hv];omega)]
  have e:∀ m,m=15+(2+1)→15+i-m=i-(2+1):=fun m hm=>by omega
  rw [e _ (by simp [hv])]
def int.RE.uA:Prop:=∀ {σ:Type} {R:SR σ} {L:Lt} {S:Nat→Prop} {E:aK σ} {w:World} {t:Nat} (_h:RE R L S E w) (_nR:t<L.n) (i:Nat) (_hi:i<2*(1+1)) (v:Value),RE R L S {E with th:=aI E.th t {E.th t with now:=none,cD:=none}} (w.setCell ⟨L.g,t*28+(15+i),none⟩ v)∧Fr L.own w (w.setCell ⟨L.g,t*28+(15+i),none⟩ v)
def list.RE.uA:Prop:=∀ {σ:Type} {R:SR σ} {L:Lt} {S:Nat→Prop} {E:aK σ} {w:World} {t:Nat} (_h:RE R L S E w) (_nR:t<L.n) (i:Nat) (_hi:i<2*(1+1)) (v:Value),RE R L S {E with th:=aI E.th t {E.th t with now:=none,cD:=none}} (w.setCell ⟨L.g,t*28+(15+i),none⟩ v)∧Fr L.own w (w.setCell ⟨L.g,t*28+(15+i),none⟩ v)
def tree.RE.uA:Prop:=∀ {σ:Type} {R:SR σ} {L:Lt} {S:Nat→Prop} {E:aK σ} {w:World} {t:Nat} (_h:RE R L S E w) (_nR:t<L.n) (i:Nat) (_hi:i<2*(1+1)) (v:Value),RE R L S {E with th:=aI E.th t {E.th t with now:=none,cD:=none}} (w.setCell ⟨L.g,t*28+(15+i),none⟩ v)∧Fr L.own w (w.setCell ⟨L.g,t*28+(15+i),none⟩ v)
def row.RE.uA:Prop:=∀ {σ:Type} {R:SR σ} {L:Lt} {S:Nat→Prop} {E:aK σ} {w:World} {t:Nat} (_h:RE R L S E w) (_nR:t<L.n) (i:Nat) (_hi:i<2*(2+1)) (v:Value),RE R L S {E with th:=aI E.th t {E.th t with now:=none,cD:=none}} (w.setCell ⟨L.g,t*30+(15+i),none⟩ v)∧Fr L.own w (w.setCell ⟨L.g,t*30+(15+i),none⟩ v)
open row in
theorem xM:int.RE.uA∧list.RE.uA∧tree.RE.uA∧row.RE.uA:=by
 refine ⟨@mkK _ 0 ?_,@mkK _ 1 ?_,@mkK _ 2 ?_,@mkK _ 3 ?_⟩<;>intro kk σ R L S E w t h nQ i hi v
 all_goals
  refine ⟨?_,Fr.set w kH _⟩
  obtain ⟨sp,lY,qC⟩:=h.po
  obtain ⟨T,iZ,zQ⟩:=h.th
  have hown:L.own (L.g):=kH
  first|(have _:Kn 0:=kk;have ho:∀ k,k≠L.g→(w.setCell ⟨L.g,t*28+(15+i),none⟩ v).heap[k]?=w.heap[k]?:=fun k hk=>Below.heap_setCell w _ _ k hk)|(have _:Kn 1:=kk;have ho:∀ k,k≠L.g→(w.setCell ⟨L.g,t*28+(15+i),none⟩ v).heap[k]?=w.heap[k]?:=fun k hk=>Below.heap_setCell w _ _ k hk)|(have _:Kn 2:=kk;have ho:∀ k,k≠L.g→(w.setCell ⟨L.g,t*28+(15+i),none⟩ v).heap[k]?=w.heap[k]?:=fun k hk=>Below.heap_setCell w _ _ k hk)|(have _:Kn 3:=kk;have ho:∀ k,k≠L.g→(w.setCell ⟨L.g,t*30+(15+i),none⟩ v).heap[k]?=w.heap[k]?:=fun k hk=>Below.heap_setCell w _ _ k hk)
  first|(have _:Kn 0:=kk;have hst:∀ k,(S k∧¬L.own k)→k<w.heap.size→(S k∧¬L.own k)∧(w.setCell ⟨L.g,t*28+(15+i),none⟩ v).heap[k]?=w.heap[k]?:=fun k hk _=>⟨hk,ho k (by rintro rfl;exact hk.2 hown)⟩)|(have _:Kn 1:=kk;have hst:∀ k,(S k∧¬L.own k)→k<w.heap.size→(S k∧¬L.own k)∧(w.setCell ⟨L.g,t*28+(15+i),none⟩ v).heap[k]?=w.heap[k]?:=fun k hk _=>⟨hk,ho k (by rintro rfl;exact hk.2 hown)⟩)|(have _:Kn 2:=kk;have hst:∀ k,(S k∧¬L.own k)→k<w.heap.size→(S k∧¬L.own k)∧(w.setCell ⟨L.g,t*28+(15+i),none⟩ v).heap[k]?=w.heap[k]?:=fun k hk _=>⟨hk,ho k (by rintro rfl;exact hk.2 hown)⟩)|(have _:Kn 3:=kk;have hst:∀ k,(S k∧¬L.own k)→k<w.heap.size→(S k∧¬L.own k)∧(w.setCell ⟨L.g,t*30+(15+i),none⟩ v).heap[k]?=w.heap[k]?:=fun k hk _=>⟨hk,ho k (by rintro rfl;exact hk.2 hown)⟩)
  have hI:∀ k,(S k∧¬L.own k)→k<w.heap.size:=fun k hk=>h.lt k hk.1
  refine {ok:=h.ok,oQ:=h.oQ.of_block (ho _ (fun q=>h.pU.2 (by rw [q];exact hown))),pU:=h.pU,sh:=?sh,tg:=?tg,an:=?an,po:=?po,rw:=?rw,th:=?th,gd:=?gd,gg:=?gg,ow:=h.ow,lt:=fun k hk=>(by simpa [World.setCell] using h.lt k hk)}
  case sh=>exact h.sh.of_block (ho _ (Row.apart h.sh iZ (by decide)))
  case tg=>exact h.tg.of_block (ho _ (Row.apart h.tg iZ (by decide)))
  case an=>exact h.an.of_block (ho _ (Row.apart h.an iZ (by decide)))
  case po=>exact ⟨sp,lY.of_block (ho _ (Row.apart lY iZ (by decide))),fun r hr=>(qC r hr).stay hst hI⟩
  case rw=>exact fun r hr=>(h.rw r hr).of_block (ho _ (Row.apart (h.rw r hr) iZ (by decide)))
  case th =>
   first|(have _:Kn 0:=kk;refine ⟨_,iZ.set (show 15+i<28 by omega) v,fun u hu=>?_⟩)|(have _:Kn 1:=kk;refine ⟨_,iZ.set (show 15+i<28 by omega) v,fun u hu=>?_⟩)|(have _:Kn 2:=kk;refine ⟨_,iZ.set (show 15+i<28 by omega) v,fun u hu=>?_⟩)|(have _:Kn 3:=kk;refine ⟨_,iZ.set (show 15+i<30 by omega) v,fun u hu=>?_⟩)
   obtain ⟨cv,cf,pv,q⟩:=zQ u hu
   have q':=q.stay hst hI
   by_cases c:u=t
   ·subst c
    first|(have _:Kn 0:=kk;obtain ⟨MH,MI,l1,l2,xE⟩:=int.jO (L:=L) (t:=u) (E.th u) cv cf pv q.now.1 q.cD.1 i hi v)|(have _:Kn 1:=kk;obtain ⟨MH,MI,l1,l2,xE⟩:=list.jO (L:=L) (t:=u) (E.th u) cv cf pv q.now.1 q.cD.1 i hi v)|(have _:Kn 2:=kk;obtain ⟨MH,MI,l1,l2,xE⟩:=tree.jO (L:=L) (t:=u) (E.th u) cv cf pv q.now.1 q.cD.1 i hi v)|(have _:Kn 3:=kk;obtain ⟨MH,MI,l1,l2,xE⟩:=row.jO (L:=L) (t:=u) (E.th u) cv cf pv q.now.1 q.cD.1 i hi v)
    refine ⟨MH,MI,pv,?_⟩
    show gC R L _ _ u (aI E.th u _ u) (aI T u (aI (T u) (15+i) v) u) _ _ _
    rw [aC,aC]
    refine ⟨?_,⟨l1,fun x hx=>by cases hx⟩,⟨l2,fun x hx=>by cases hx⟩,q'.aJ⟩
    have:=q.like.set (15+i) v
    rwa [xE] at this
   ·refine ⟨cv,cf,pv,?_⟩
    show gC R L _ _ u (aI E.th t _ u) (aI T t (aI (T t) (15+i) v) u) _ _ _
    rw [aD _ _ c,aD _ _ c]
    exact q'
  case gd =>
   intro u hu
   refine ((h.gd u hu).of_block (ho _ (Row.apart (h.gd u hu) iZ (by decide)))).congr (fun k _=>?_)
   exact congrArg _ (congrFun (yI E.th t {E.th t with now:=none,cD:=none} rfl u).symm k)
  case gg =>
   intro u hu
   refine ((h.gg u hu).of_block (ho _ (Row.apart (h.gg u hu) iZ (by decide)))).congr (fun k _=>?_)
   exact congrArg _ (congrFun (yJ E.th t {E.th t with now:=none,cD:=none} rfl u).symm k)
theorem int.RE.raw:uA:=xM.1
theorem list.RE.raw:uA:=xM.2.1
theorem tree.RE.raw:uA:=xM.2.2.1
theorem row.RE.raw:uA:=xM.2.2.2
def int.RE.lR:Prop:=∀ {σ:Type} {R:SR σ} {L:Lt} {S:Nat→Prop} {E:aK σ} {w:World} {t:Nat} (_h:RE R L S E w) (_nR:t<L.n) {cv cf:List Value} (_hcv:∀ i,i<1+1→w.cell? ⟨L.g,t*28+(15+i),none⟩=cv[i]?) (_vX:∀ i,i<1+1→w.cell? ⟨L.g,t*28+(15+(1+1+i)),none⟩=cf[i]?) {v f:cY σ} (_hv:aV R (fun k=>S k∧¬L.own k) w v cv) (_hf:aV R (fun k=>S k∧¬L.own k) w f cf) (e':aS σ) (_he:e' = {E.th t with now:=some v,cD:=some f}),RE R L S {E with th:=aI E.th t e'} w
def list.RE.lR:Prop:=∀ {σ:Type} {R:SR σ} {L:Lt} {S:Nat→Prop} {E:aK σ} {w:World} {t:Nat} (_h:RE R L S E w) (_nR:t<L.n) {cv cf:List Value} (_hcv:∀ i,i<1+1→w.cell? ⟨L.g,t*28+(15+i),none⟩=cv[i]?) (_vX:∀ i,i<1+1→w.cell? ⟨L.g,t*28+(15+(1+1+i)),none⟩=cf[i]?) {v f:cY σ} (_hv:aV R (fun k=>S k∧¬L.own k) w v cv) (_hf:aV R (fun k=>S k∧¬L.own k) w f cf) (e':aS σ) (_he:e' = {E.th t with now:=some v,cD:=some f}),RE R L S {E with th:=aI E.th t e'} w
def tree.RE.lR:Prop:=∀ {σ:Type} {R:SR σ} {L:Lt} {S:Nat→Prop} {E:aK σ} {w:World} {t:Nat} (_h:RE R L S E w) (_nR:t<L.n) {cv cf:List Value} (_hcv:∀ i,i<1+1→w.cell? ⟨L.g,t*28+(15+i),none⟩=cv[i]?) (_vX:∀ i,i<1+1→w.cell? ⟨L.g,t*28+(15+(1+1+i)),none⟩=cf[i]?) {v f:cY σ} (_hv:aV R (fun k=>S k∧¬L.own k) w v cv) (_hf:aV R (fun k=>S k∧¬L.own k) w f cf) (e':aS σ) (_he:e' = {E.th t with now:=some v,cD:=some f}),RE R L S {E with th:=aI E.th t e'} w
def row.RE.lR:Prop:=∀ {σ:Type} {R:SR σ} {L:Lt} {S:Nat→Prop} {E:aK σ} {w:World} {t:Nat} (_h:RE R L S E w) (_nR:t<L.n) {cv cf:List Value} (_hcv:∀ i,i<2+1→w.cell? ⟨L.g,t*30+(15+i),none⟩=cv[i]?) (_vX:∀ i,i<2+1→w.cell? ⟨L.g,t*30+(15+(2+1+i)),none⟩=cf[i]?) {v f:cY σ} (_hv:aV R (fun k=>S k∧¬L.own k) w v cv) (_hf:aV R (fun k=>S k∧¬L.own k) w f cf) (e':aS σ) (_he:e' = {E.th t with now:=some v,cD:=some f}),RE R L S {E with th:=aI E.th t e'} w
open row in
theorem sQ:int.RE.lR∧list.RE.lR∧tree.RE.lR∧row.RE.lR:=by
 refine ⟨@mkK _ 0 ?_,@mkK _ 1 ?_,@mkK _ 2 ?_,@mkK _ 3 ?_⟩<;>intro kk σ R L S E w t h nQ cv cf hcv eD v f hv hf e' he
 all_goals
  subst he
  obtain ⟨T,iZ,zQ⟩:=h.th
  have lv:=aV.len R hv
  have lf:=aV.len R hf
  refine {ok:=h.ok,oQ:=h.oQ,pU:=h.pU,sh:=h.sh,tg:=h.tg,an:=h.an,po:=h.po,rw:=h.rw,th:=⟨T,iZ,fun u hu=>?th⟩,gd:=?gd,gg:=?gg,ow:=h.ow,lt:=h.lt}
  case th =>
   obtain ⟨KX,KY,pv,q⟩:=zQ u hu
   show ∃ cv cf pv,gC R L _ w u (aI E.th t _ u) (T u) cv cf pv
   by_cases c:u=t
   ·subst c
    rw [aC]
    refine ⟨cv,cf,pv,?_,⟨lv,fun x hx=>by injection hx with hx;rw [←hx];exact hv⟩,⟨lf,fun x hx=>by injection hx with hx;rw [←hx];exact hf⟩,q.aJ⟩
    have e1:cv=KX:=by
     apply List.ext_getElem?
     intro i
     first|(have _:Kn 0:=kk;by_cases hi:i<1+1)|(have _:Kn 1:=kk;by_cases hi:i<1+1)|(have _:Kn 2:=kk;by_cases hi:i<1+1)|(have _:Kn 3:=kk;by_cases hi:i<2+1)
     ·first|(have _:Kn 0:=kk;rw [←hcv i hi,iZ.cell (Nat.lt_of_lt_of_le hu h.ok.gn) (show 15+i<28 by omega)])|(have _:Kn 1:=kk;rw [←hcv i hi,iZ.cell (Nat.lt_of_lt_of_le hu h.ok.gn) (show 15+i<28 by omega)])|(have _:Kn 2:=kk;rw [←hcv i hi,iZ.cell (Nat.lt_of_lt_of_le hu h.ok.gn) (show 15+i<28 by omega)])|(have _:Kn 3:=kk;rw [←hcv i hi,iZ.cell (Nat.lt_of_lt_of_le hu h.ok.gn) (show 15+i<30 by omega)])
      first
       |have _:Kn 0:=kk
        have:(int.aO L u (E.th u) KX KY pv)[15+i]?=KX[i]?:=by
         unfold int.aO
         rw [List.getElem?_append_left (by simp [q.now.1,q.cD.1];omega),List.getElem?_append_left (by simp [q.now.1];omega),List.getElem?_append_right (by simp)]
         simp
       |have _:Kn 1:=kk
        have:(list.aO L u (E.th u) KX KY pv)[15+i]?=KX[i]?:=by
         unfold list.aO
         rw [List.getElem?_append_left (by simp [q.now.1,q.cD.1];omega),List.getElem?_append_left (by simp [q.now.1];omega),List.getElem?_append_right (by simp)]
         simp
       |have _:Kn 2:=kk
        have:(tree.aO L u (E.th u) KX KY pv)[15+i]?=KX[i]?:=by
         unfold tree.aO
         rw [List.getElem?_append_left (by simp [q.now.1,q.cD.1];omega),List.getElem?_append_left (by simp [q.now.1];omega),List.getElem?_append_right (by simp)]
         simp
       |have _:Kn 3:=kk
        have:(row.aO L u (E.th u) KX KY pv)[15+i]?=KX[i]?:=by
         unfold row.aO
         rw [List.getElem?_append_left (by simp [q.now.1,q.cD.1];omega),List.getElem?_append_left (by simp [q.now.1];omega),List.getElem?_append_right (by simp)]
         simp
      have hl:i<KX.length:=by rw [q.now.1];exact hi
      rw [List.getElem?_eq_getElem hl] at this ⊢
      rw [q.like _ _ this]
     ·rw [List.getElem?_eq_none (by omega),List.getElem?_eq_none (by have:=q.now.1;omega)]
    have e2:cf=KY:=by
     apply List.ext_getElem?
     intro i
     first|(have _:Kn 0:=kk;by_cases hi:i<1+1)|(have _:Kn 1:=kk;by_cases hi:i<1+1)|(have _:Kn 2:=kk;by_cases hi:i<1+1)|(have _:Kn 3:=kk;by_cases hi:i<2+1)
     ·first|(have _:Kn 0:=kk;rw [←eD i hi,iZ.cell (Nat.lt_of_lt_of_le hu h.ok.gn) (show 15+(1+1+i)<28 by omega)])|(have _:Kn 1:=kk;rw [←eD i hi,iZ.cell (Nat.lt_of_lt_of_le hu h.ok.gn) (show 15+(1+1+i)<28 by omega)])|(have _:Kn 2:=kk;rw [←eD i hi,iZ.cell (Nat.lt_of_lt_of_le hu h.ok.gn) (show 15+(1+1+i)<28 by omega)])|(have _:Kn 3:=kk;rw [←eD i hi,iZ.cell (Nat.lt_of_lt_of_le hu h.ok.gn) (show 15+(2+1+i)<30 by omega)])
      first
       |have _:Kn 0:=kk
        have:(int.aO L u (E.th u) KX KY pv)[15+(1+1+i)]?=KY[i]?:=by
         unfold int.aO
         rw [List.getElem?_append_left (by simp [q.now.1,q.cD.1];omega),List.getElem?_append_right (by simp [q.now.1];omega)]
         simp [q.now.1]
         congr 1
         omega
       |have _:Kn 1:=kk
        have:(list.aO L u (E.th u) KX KY pv)[15+(1+1+i)]?=KY[i]?:=by
         unfold list.aO
         rw [List.getElem?_append_left (by simp [q.now.1,q.cD.1];omega),List.getElem?_append_right (by simp [q.now.1];omega)]
         simp [q.now.1]
         congr 1
         omega
       |have _:Kn 2:=kk
        have:(tree.aO L u (E.th u) KX KY pv)[15+(1+1+i)]?=KY[i]?:=by
         unfold tree.aO
         rw [List.getElem?_append_left (by simp [q.now.1,q.cD.1];omega),List.getElem?_append_right (by simp [q.now.1];omega)]
         simp [q.now.1]
         congr 1
         omega
       |have _:Kn 3:=kk
        have:(row.aO L u (E.th u) KX KY pv)[15+(2+1+i)]?=KY[i]?:=by
         unfold row.aO
         rw [List.getElem?_append_left (by simp [q.now.1,q.cD.1];omega),List.getElem?_append_right (by simp [q.now.1];omega)]
         simp [q.now.1]
         congr 1
         omega
      have hl:i<KY.length:=by rw [q.cD.1];exact hi
      rw [List.getElem?_eq_getElem hl] at this ⊢
      rw [q.like _ _ this]
     ·rw [List.getElem?_eq_none (by omega),List.getElem?_eq_none (by have:=q.cD.1;omega)]
    rw [e1,e2]
    exact q.like
   ·rw [aD _ _ c]
    exact ⟨KX,KY,pv,q⟩
  case gd =>
   intro u hu
   refine (h.gd u hu).congr (fun k _=>?_)
   exact congrArg _ (congrFun (yI E.th t {E.th t with now:=some v,cD:=some f} rfl u).symm k)
  case gg =>
   intro u hu
   refine (h.gg u hu).congr (fun k _=>?_)
   exact congrArg _ (congrFun (yJ E.th t {E.th t with now:=some v,cD:=some f} rfl u).symm k)
theorem int.RE.KZ:lR:=sQ.1
theorem list.RE.KZ:lR:=sQ.2.1
theorem tree.RE.KZ:lR:=sQ.2.2.1
theorem row.RE.KZ:lR:=sQ.2.2.2
theorem int.RE.HZ {σ:Type} {R:SR σ} {L:Lt} {S:Nat→Prop} {t:Nat} (nQ:t<L.n):∀ (vs:List Value) (i:Nat) (E:aK σ) (w:World),RE R L S E w→(E.th t).now=none→(E.th t).cD=none→i+vs.length≤2*(1+1)→RE R L S E (w.setCells L.g (t*28+(15+i)) vs)∧Fr L.own w (w.setCells L.g (t*28+(15+i)) vs)
 |[],_,_,w,h,_,_,_=>⟨h,Fr.refl _ w⟩
 |v::vs,i,E,w,h,h1,h2,hl=>by
  simp only [List.length_cons] at hl
  obtain ⟨r1,k1⟩:=h.raw nQ i (by omega) v
  have e:{E with th:=aI E.th t {E.th t with now:=none,cD:=none}} = E:=by
   have:({E.th t with now:=none,cD:=none}:aS σ)=E.th t:=by
    cases hq:E.th t with
    |mk a1 a2 a3 a4 a5 a6 a7 a8 a9 a10 a11 a12 a13 a14 a15 a16 a17 a18 a19 a20 =>
     rw [hq] at h1 h2
     simp only at h1 h2
     subst h1
     subst h2
     rfl
   rw [this]
   have u:aI E.th t (E.th t)=E.th:=by funext k;unfold aI;split<;>simp_all
   rw [u]
  rw [e] at r1
  obtain ⟨r2,k2⟩:=RE.HZ nQ vs (i+1) E _ r1 h1 h2 (by omega)
  rw [World.setCells,show t*28+(15+i)+1=t*28+(15+(i+1)) by omega]
  exact ⟨r2,k1.trans k2⟩
theorem list.RE.HZ {σ:Type} {R:SR σ} {L:Lt} {S:Nat→Prop} {t:Nat} (nQ:t<L.n):∀ (vs:List Value) (i:Nat) (E:aK σ) (w:World),RE R L S E w→(E.th t).now=none→(E.th t).cD=none→i+vs.length≤2*(1+1)→RE R L S E (w.setCells L.g (t*28+(15+i)) vs)∧Fr L.own w (w.setCells L.g (t*28+(15+i)) vs)
 |[],_,_,w,h,_,_,_=>⟨h,Fr.refl _ w⟩
 |v::vs,i,E,w,h,h1,h2,hl=>by
  simp only [List.length_cons] at hl
  obtain ⟨r1,k1⟩:=h.raw nQ i (by omega) v
  have e:{E with th:=aI E.th t {E.th t with now:=none,cD:=none}} = E:=by
   have:({E.th t with now:=none,cD:=none}:aS σ)=E.th t:=by
    cases hq:E.th t with
    |mk a1 a2 a3 a4 a5 a6 a7 a8 a9 a10 a11 a12 a13 a14 a15 a16 a17 a18 a19 a20 =>
     rw [hq] at h1 h2
     simp only at h1 h2
     subst h1
     subst h2
     rfl
   rw [this]
   have u:aI E.th t (E.th t)=E.th:=by funext k;unfold aI;split<;>simp_all
   rw [u]
  rw [e] at r1
  obtain ⟨r2,k2⟩:=RE.HZ nQ vs (i+1) E _ r1 h1 h2 (by omega)
  rw [World.setCells,show t*28+(15+i)+1=t*28+(15+(i+1)) by omega]
  exact ⟨r2,k1.trans k2⟩
theorem tree.RE.HZ {σ:Type} {R:SR σ} {L:Lt} {S:Nat→Prop} {t:Nat} (nQ:t<L.n):∀ (vs:List Value) (i:Nat) (E:aK σ) (w:World),RE R L S E w→(E.th t).now=none→(E.th t).cD=none→i+vs.length≤2*(1+1)→RE R L S E (w.setCells L.g (t*28+(15+i)) vs)∧Fr L.own w (w.setCells L.g (t*28+(15+i)) vs)
 |[],_,_,w,h,_,_,_=>⟨h,Fr.refl _ w⟩
 |v::vs,i,E,w,h,h1,h2,hl=>by
  simp only [List.length_cons] at hl
  obtain ⟨r1,k1⟩:=h.raw nQ i (by omega) v
  have e:{E with th:=aI E.th t {E.th t with now:=none,cD:=none}} = E:=by
   have:({E.th t with now:=none,cD:=none}:aS σ)=E.th t:=by
    cases hq:E.th t with
    |mk a1 a2 a3 a4 a5 a6 a7 a8 a9 a10 a11 a12 a13 a14 a15 a16 a17 a18 a19 a20 =>
     rw [hq] at h1 h2
     simp only at h1 h2
     subst h1
     subst h2
     rfl
   rw [this]
   have u:aI E.th t (E.th t)=E.th:=by funext k;unfold aI;split<;>simp_all
   rw [u]
  rw [e] at r1
  obtain ⟨r2,k2⟩:=RE.HZ nQ vs (i+1) E _ r1 h1 h2 (by omega)
  rw [World.setCells,show t*28+(15+i)+1=t*28+(15+(i+1)) by omega]
  exact ⟨r2,k1.trans k2⟩
theorem row.RE.HZ {σ:Type} {R:SR σ} {L:Lt} {S:Nat→Prop} {t:Nat} (nQ:t<L.n):∀ (vs:List Value) (i:Nat) (E:aK σ) (w:World),RE R L S E w→(E.th t).now=none→(E.th t).cD=none→i+vs.length≤2*(2+1)→RE R L S E (w.setCells L.g (t*30+(15+i)) vs)∧Fr L.own w (w.setCells L.g (t*30+(15+i)) vs)
 |[],_,_,w,h,_,_,_=>⟨h,Fr.refl _ w⟩
 |v::vs,i,E,w,h,h1,h2,hl=>by
  simp only [List.length_cons] at hl
  obtain ⟨r1,k1⟩:=h.raw nQ i (by omega) v
  have e:{E with th:=aI E.th t {E.th t with now:=none,cD:=none}} = E:=by
   have:({E.th t with now:=none,cD:=none}:aS σ)=E.th t:=by
    cases hq:E.th t with
    |mk a1 a2 a3 a4 a5 a6 a7 a8 a9 a10 a11 a12 a13 a14 a15 a16 a17 a18 a19 a20 =>
     rw [hq] at h1 h2
     simp only at h1 h2
     subst h1
     subst h2
     rfl
   rw [this]
   have u:aI E.th t (E.th t)=E.th:=by funext k;unfold aI;split<;>simp_all
   rw [u]
  rw [e] at r1
  obtain ⟨r2,k2⟩:=RE.HZ nQ vs (i+1) E _ r1 h1 h2 (by omega)
  rw [World.setCells,show t*30+(15+i)+1=t*30+(15+(i+1)) by omega]
  exact ⟨r2,k1.trans k2⟩
def int.RE.jP:Prop:=∀ {σ:Type} {R:SR σ} {L:Lt} {S:Nat→Prop} {E:aK σ} {w:World} {t:Nat} (_h:RE R L S E w) (_nR:t<L.n) (vs:List Value) (i:Nat) (_hl:i+vs.length≤2*(1+1)) (_GZ:vs≠[]) {cv cf:List Value} {v f:cY σ} (_hv:aV R (fun k=>S k∧¬L.own k) w v cv) (_hf:aV R (fun k=>S k∧¬L.own k) w f cf) (_hc:∀ j,j<2*(1+1)→(if i≤j∧j<i+vs.length then vs[j-i]? else w.cell? ⟨L.g,t*28+(15+j),none⟩)=(cv++cf)[j]?) (e':aS σ) (_he:e' = {E.th t with now:=some v,cD:=some f}),RE R L S {E with th:=aI E.th t e'} (w.setCells L.g (t*28+(15+i)) vs)∧Fr L.own w (w.setCells L.g (t*28+(15+i)) vs)
def list.RE.jP:Prop:=∀ {σ:Type} {R:SR σ} {L:Lt} {S:Nat→Prop} {E:aK σ} {w:World} {t:Nat} (_h:RE R L S E w) (_nR:t<L.n) (vs:List Value) (i:Nat) (_hl:i+vs.length≤2*(1+1)) (_GZ:vs≠[]) {cv cf:List Value} {v f:cY σ} (_hv:aV R (fun k=>S k∧¬L.own k) w v cv) (_hf:aV R (fun k=>S k∧¬L.own k) w f cf) (_hc:∀ j,j<2*(1+1)→(if i≤j∧j<i+vs.length then vs[j-i]? else w.cell? ⟨L.g,t*28+(15+j),none⟩)=(cv++cf)[j]?) (e':aS σ) (_he:e' = {E.th t with now:=some v,cD:=some f}),RE R L S {E with th:=aI E.th t e'} (w.setCells L.g (t*28+(15+i)) vs)∧Fr L.own w (w.setCells L.g (t*28+(15+i)) vs)
def tree.RE.jP:Prop:=∀ {σ:Type} {R:SR σ} {L:Lt} {S:Nat→Prop} {E:aK σ} {w:World} {t:Nat} (_h:RE R L S E w) (_nR:t<L.n) (vs:List Value) (i:Nat) (_hl:i+vs.length≤2*(1+1)) (_GZ:vs≠[]) {cv cf:List Value} {v f:cY σ} (_hv:aV R (fun k=>S k∧¬L.own k) w v cv) (_hf:aV R (fun k=>S k∧¬L.own k) w f cf) (_hc:∀ j,j<2*(1+1)→(if i≤j∧j<i+vs.length then vs[j-i]? else w.cell? ⟨L.g,t*28+(15+j),none⟩)=(cv++cf)[j]?) (e':aS σ) (_he:e' = {E.th t with now:=some v,cD:=some f}),RE R L S {E with th:=aI E.th t e'} (w.setCells L.g (t*28+(15+i)) vs)∧Fr L.own w (w.setCells L.g (t*28+(15+i)) vs)
theorem rI:int.RE.jP∧list.RE.jP∧tree.RE.jP:=by
 refine ⟨?_,?_,?_⟩<;>intro σ R L S E w t h nQ vs i hl hne cv cf v f hv hf hc e' he
 all_goals
  cases vs with
  |nil=>exact absurd rfl hne
  |cons a vs =>
   simp only [List.length_cons] at hl
   obtain ⟨r1,k1⟩:=h.raw nQ i (by omega) a
   obtain ⟨r2,k2⟩:=RE.HZ nQ vs (i+1) _ _ r1 (by simp [aC]) (by simp [aC]) (by omega)
   have hw:(w.setCell ⟨L.g,t*28+(15+i),none⟩ a).setCells L.g (t*28+(15+(i+1))) vs=w.setCells L.g (t*28+(15+i)) (a::vs):=by
    rw [World.setCells,show t*28+(15+i)+1=t*28+(15+(i+1)) by omega]
   rw [hw] at r2 k2
   have kk:=k1.trans k2
   have lv:=aV.len R hv
   have lf:=aV.len R hf
   have hst:∀ k,(S k∧¬L.own k)→k<w.heap.size→(S k∧¬L.own k)∧(w.setCells L.g (t*28+(15+i)) (a::vs)).heap[k]?=w.heap[k]?:=fun k hk hlt=>⟨hk,kk.block k hlt hk.2⟩
   have hI:∀ k,(S k∧¬L.own k)→k<w.heap.size:=fun k hk=>h.lt k hk.1
   have PV:∀ j,j<2*(1+1)→(w.cell? ⟨L.g,t*28+(15+j),none⟩).isSome=true:=by
    obtain ⟨T,iZ,-⟩:=h.th
    intro j hj
    rw [iZ.cell (Nat.lt_of_lt_of_le nQ h.ok.gn) (show 15+j<28 by omega)]
    rfl
   have hcell:∀ j,j<2*(1+1)→(w.setCells L.g (t*28+(15+i)) (a::vs)).cell? ⟨L.g,t*28+(15+j),none⟩=(cv++cf)[j]?:=by
    intro j hj
    rw [←hc j hj]
    by_cases q:i≤j∧j<i+(a::vs).length
    ·rw [if_pos q]
     have hj2:j-i<(a::vs).length:=by omega
     have:=World.cell?_setCells_in L.g (a::vs) (t*28+(15+i)) w (fun k hk=>by
      simp only [List.length_cons] at hk
      have:=PV (i+k) (by omega)
      rwa [show t*28+(15+i)+k=t*28+(15+(i+k)) by omega]) (j-i) hj2
     rw [show t*28+(15+i)+(j-i)=t*28+(15+j) by omega] at this
     rw [this,List.getElem?_eq_getElem hj2]
    ·rw [if_neg q]
     refine World.cell?_setCells_out L.g (a::vs) _ w _ (fun _ _=>?_)
     show t*28+(15+j)<_∨_≤t*28+(15+j)
     omega
   have:=r2.KZ nQ (cv:=cv) (cf:=cf) (fun j hj=>by rw [hcell j (by omega),List.getElem?_append_left (by omega)]) (fun j hj=>by rw [hcell (1+1+j) (by omega),List.getElem?_append_right (by omega),lv];congr 1;omega) (aV.stay hst hI hv) (aV.stay hst hI hf) e' (by rw [he];simp only [aC])
   refine ⟨this.cast ?_,kk⟩
   simp only [bM]
theorem int.RE.jQ:jP:=rI.1
theorem list.RE.jQ:jP:=rI.2.1
theorem tree.RE.jQ:jP:=rI.2.2
theorem row.RE.jQ {σ:Type} {R:SR σ} {L:Lt} {S:Nat→Prop} {E:aK σ} {w:World} {t:Nat} (h:RE R L S E w) (nQ:t<L.n) (vs:List Value) (i:Nat) (hl:i+vs.length≤2*(2+1)) (hne:vs≠[]) {cv cf:List Value} {v f:cY σ} (hv:aV R (fun k=>S k∧¬L.own k) w v cv) (hf:aV R (fun k=>S k∧¬L.own k) w f cf)
  (hc:∀ j,j<2*(2+1)→(if i≤j∧j<i+vs.length then vs[j-i]? else w.cell? ⟨L.g,t*30+(15+j),none⟩)=(cv++cf)[j]?) (e':aS σ) (he:e' = {E.th t with now:=some v,cD:=some f}) :
  RE R L S {E with th:=aI E.th t e'} (w.setCells L.g (t*30+(15+i)) vs)∧Fr L.own w (w.setCells L.g (t*30+(15+i)) vs):=by
 cases vs with
 |nil=>exact absurd rfl hne
 |cons a vs =>
  simp only [List.length_cons] at hl
  obtain ⟨r1,k1⟩:=h.raw nQ i (by omega) a
  obtain ⟨r2,k2⟩:=RE.HZ nQ vs (i+1) _ _ r1 (by simp [aC]) (by simp [aC]) (by omega)
  have hw:(w.setCell ⟨L.g,t*30+(15+i),none⟩ a).setCells L.g (t*30+(15+(i+1))) vs=w.setCells L.g (t*30+(15+i)) (a::vs):=by
   rw [World.setCells,show t*30+(15+i)+1=t*30+(15+(i+1)) by omega]
  rw [hw] at r2 k2
  have kk:=k1.trans k2
  have lv:=aV.len R hv
  have lf:=aV.len R hf
  have hst:∀ k,(S k∧¬L.own k)→k<w.heap.size→(S k∧¬L.own k)∧(w.setCells L.g (t*30+(15+i)) (a::vs)).heap[k]?=w.heap[k]?:=fun k hk hlt=>⟨hk,kk.block k hlt hk.2⟩
  have hI:∀ k,(S k∧¬L.own k)→k<w.heap.size:=fun k hk=>h.lt k hk.1
  have PV:∀ j,j<2*(2+1)→(w.cell? ⟨L.g,t*30+(15+j),none⟩).isSome=true:=by
   obtain ⟨T,iZ,-⟩:=h.th
   intro j hj
   rw [iZ.cell (Nat.lt_of_lt_of_le nQ h.ok.gn) (show 15+j<30 by omega)]
   rfl
  have hcell:∀ j,j<2*(2+1)→(w.setCells L.g (t*30+(15+i)) (a::vs)).cell? ⟨L.g,t*30+(15+j),none⟩=(cv++cf)[j]?:=by
   intro j hj
   rw [←hc j hj]
   by_cases q:i≤j∧j<i+(a::vs).length
   ·rw [if_pos q]
    have hj2:j-i<(a::vs).length:=by omega
    have:=World.cell?_setCells_in L.g (a::vs) (t*30+(15+i)) w (fun k hk=>by
     simp only [List.length_cons] at hk
     have:=PV (i+k) (by omega)
     rwa [show t*30+(15+i)+k=t*30+(15+(i+k)) by omega]) (j-i) hj2
    rw [show t*30+(15+i)+(j-i)=t*30+(15+j) by omega] at this
    rw [this,List.getElem?_eq_getElem hj2]
   ·rw [if_neg q]
    refine World.cell?_setCells_out L.g (a::vs) _ w _ (fun _ _=>?_)
    show t*30+(15+j)<_∨_≤t*30+(15+j)
    omega
  have:=r2.KZ nQ (cv:=cv) (cf:=cf) (fun j hj=>by rw [hcell j (by omega),List.getElem?_append_left (by omega)]) (fun j hj=>by rw [hcell (2+1+j) (by omega),List.getElem?_append_right (by omega),lv];congr 1;omega) (aV.stay hst hI hv) (aV.stay hst hI hf) e' (by rw [he];simp only [aC])
  refine ⟨this.cast ?_,kk⟩
  simp only [bM]
end Go.Proofs.YtefjhnhdagolhaaGreat
