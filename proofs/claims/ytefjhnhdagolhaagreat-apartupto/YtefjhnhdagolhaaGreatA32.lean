import Derived.Test.YtefjhnhdagolhaaGreatA29
set_option maxHeartbeats 1000000
set_option maxRecDepth 20000
namespace Go.Proofs.YtefjhnhdagolhaaGreat
open int list tree
open Go.RowKit
open M (aM aC aD Op eX bU bD bC aL aQ)
def xL  : Prop:=∀ {σ:Type} {L:Lt} {t:Nat} (e:bU σ) (cv cf:List Value) (pv:Value) (_hv:cv.length=1+1) (_hf:cf.length=1+1) (i:Nat) (_hi:i<2*(1+1)) (v:Value),∃ cv' cf',cv'.length=1+1∧cf'.length=1+1∧(cN L t e cv cf pv).set (15+i) v=cN L t ({e with now:=none,fD:=none}:bU σ) cv' cf' pv
theorem lG:xL  ∧ xL  ∧ xL  := by
 refine ⟨?_,?_,?_⟩<;>intro σ L t e cv cf pv hv hf i hi v
 all_goals
  unfold cN
  by_cases h:i<1+1
  ·refine ⟨cv.set i v,cf,by simpa using hv,hf,?_⟩
   rw [List.set_append_left _ _ (by simp [hv,hf];omega),List.set_append_left _ _ (by simp [hv];omega),EB _ _ (by simp)];simp
  ·refine ⟨cv,cf.set (i-(1+1)) v,hv,by simpa using hf,?_⟩
   rw [List.set_append_left _ _ (by simp [hv,hf];omega),EB _ _ (by simp [hv];omega)];have e:∀ m,m=15+(1+1)→15+i-m=i-(1+1):=fun m hm=>by omega
   rw [e _ (by simp [hv])]
theorem int.mL:xL  := lG.1
theorem list.mL:xL  := lG.2.1
theorem tree.mL:xL  := lG.2.2
theorem row.mL {σ:Type} {L:Lt} {t:Nat} (e:bU σ) (cv cf:List Value) (pv:Value) (hv:cv.length=2+1) (hf:cf.length=2+1) (i:Nat) (hi:i<2*(2+1)) (v:Value) :
  ∃ cv' cf',cv'.length=2+1∧cf'.length=2+1∧(cN L t e cv cf pv).set (15+i) v=cN L t ({e with now:=none,fD:=none}:bU σ) cv' cf' pv:=by
 unfold cN
 by_cases h:i<2+1
 ·refine ⟨cv.set i v,cf,by simpa using hv,hf,?_⟩
  rw [List.set_append_left _ _ (by simp [hv,hf];omega),List.set_append_left _ _ (by simp [hv];omega),EB _ _ (by simp)];simp
 ·refine ⟨cv,cf.set (i-(2+1)) v,hv,by simpa using hf,?_⟩
  rw [List.set_append_left _ _ (by simp [hv,hf];omega),EB _ _ (by simp [hv];omega)];have e:∀ m,m=15+(2+1)→15+i-m=i-(2+1):=fun m hm=>by omega
  rw [e _ (by simp [hv])]
def FF (SR:Type→Type) (RE:lA SR) (n0 n1:Nat):Prop:=∀ {σ:Type} {R:SR σ} {L:Lt} {S:Nat→Prop} {E:bD σ} {w:World} {t:Nat} (_h:RE R L S E w) (_qw:t<L.n) (i:Nat) (_hi:i<2*(n0+1)) (v:Value),RE R L S {E with th:=aM E.th t {E.th t with now:=none,fD:=none}} (w.setCell ⟨L.g,t*n1+(15+i),none⟩ v)∧Fr L.own w (w.setCell ⟨L.g,t*n1+(15+i),none⟩ v)
open row in
theorem qY:FF int.SR @int.RE 1 28∧FF list.SR @list.RE 1 28∧FF tree.SR @tree.RE 1 28∧FF row.SR @row.RE 2 30:=by
 refine ⟨@mkK _ 0 ?_,@mkK _ 1 ?_,@mkK _ 2 ?_,@mkK _ 3 ?_⟩<;>intro kk σ R L S E w t h mP i hi v
 all_goals
  refine ⟨?_,Fr.set w pI _⟩;obtain ⟨sp,pU,CJ⟩:=h.po;obtain ⟨T,fM,xW⟩:=h.th;have hown:L.own (L.g):=pI
  first|(have:=kA kk;have ho:∀ k,k≠L.g→(w.setCell ⟨L.g,t*28+(15+i),none⟩ v).heap[k]?=w.heap[k]?:=fun k hk=>cZ w _ _ k hk)|(have:=kB kk;have ho:∀ k,k≠L.g→(w.setCell ⟨L.g,t*28+(15+i),none⟩ v).heap[k]?=w.heap[k]?:=fun k hk=>cZ w _ _ k hk)|(have:=kC kk;have ho:∀ k,k≠L.g→(w.setCell ⟨L.g,t*28+(15+i),none⟩ v).heap[k]?=w.heap[k]?:=fun k hk=>cZ w _ _ k hk)|(have:=kD kk;have ho:∀ k,k≠L.g→(w.setCell ⟨L.g,t*30+(15+i),none⟩ v).heap[k]?=w.heap[k]?:=fun k hk=>cZ w _ _ k hk)
  first|(have:=kA kk;have hst:∀ k,(S k∧¬L.own k)→k<w.heap.size→(S k∧¬L.own k)∧(w.setCell ⟨L.g,t*28+(15+i),none⟩ v).heap[k]?=w.heap[k]?:=fun k hk _=>⟨hk,ho k (by rintro rfl;exact hk.2 hown)⟩)|(have:=kB kk;have hst:∀ k,(S k∧¬L.own k)→k<w.heap.size→(S k∧¬L.own k)∧(w.setCell ⟨L.g,t*28+(15+i),none⟩ v).heap[k]?=w.heap[k]?:=fun k hk _=>⟨hk,ho k (by rintro rfl;exact hk.2 hown)⟩)|(have:=kC kk;have hst:∀ k,(S k∧¬L.own k)→k<w.heap.size→(S k∧¬L.own k)∧(w.setCell ⟨L.g,t*28+(15+i),none⟩ v).heap[k]?=w.heap[k]?:=fun k hk _=>⟨hk,ho k (by rintro rfl;exact hk.2 hown)⟩)|(have:=kD kk;have hst:∀ k,(S k∧¬L.own k)→k<w.heap.size→(S k∧¬L.own k)∧(w.setCell ⟨L.g,t*30+(15+i),none⟩ v).heap[k]?=w.heap[k]?:=fun k hk _=>⟨hk,ho k (by rintro rfl;exact hk.2 hown)⟩)
  have hI:∀ k,(S k∧¬L.own k)→k<w.heap.size:=fun k hk=>h.lt k hk.1
  refine {ok:=h.ok,qQ:=h.qQ.of_block (ho _ (fun q=>h.vL.2 (by rw [q];exact hown))),vL:=h.vL,sh:=?sh,tg:=?tg,an:=?an,po:=?po,rw:=?rw,th:=?th,gd:=?gd,gg:=?gg,ow:=h.ow,lt:=fun k hk=>(by simpa [World.setCell] using h.lt k hk)}
  case sh=>exact h.sh.of_block (ho _ (Row.apart h.sh fM (by decide)))
  case tg=>exact h.tg.of_block (ho _ (Row.apart h.tg fM (by decide)))
  case an=>exact h.an.of_block (ho _ (Row.apart h.an fM (by decide)))
  case po=>exact ⟨sp,pU.of_block (ho _ (Row.apart pU fM (by decide))),fun r hr=>(CJ r hr).stay hst hI⟩
  case rw=>exact fun r hr=>(h.rw r hr).of_block (ho _ (Row.apart (h.rw r hr) fM (by decide)))
  case th =>
   first|(have:=kA kk;refine ⟨_,fM.set (show 15+i<28 by omega) v,fun u hu=>?_⟩)|(have:=kB kk;refine ⟨_,fM.set (show 15+i<28 by omega) v,fun u hu=>?_⟩)|(have:=kC kk;refine ⟨_,fM.set (show 15+i<28 by omega) v,fun u hu=>?_⟩)|(have:=kD kk;refine ⟨_,fM.set (show 15+i<30 by omega) v,fun u hu=>?_⟩)
   obtain ⟨cv,cf,pv,q⟩:=xW u hu;have q':=q.stay hst hI
   by_cases c:u=t
   ·subst c
    first|(have:=kA kk;obtain ⟨cv',cf',l1,l2,LO⟩:=int.mL (L:=L) (t:=u) (E.th u) cv cf pv q.now.1 q.fD.1 i hi v)|(have:=kB kk;obtain ⟨cv',cf',l1,l2,LO⟩:=list.mL (L:=L) (t:=u) (E.th u) cv cf pv q.now.1 q.fD.1 i hi v)|(have:=kC kk;obtain ⟨cv',cf',l1,l2,LO⟩:=tree.mL (L:=L) (t:=u) (E.th u) cv cf pv q.now.1 q.fD.1 i hi v)|(have:=kD kk;obtain ⟨cv',cf',l1,l2,LO⟩:=row.mL (L:=L) (t:=u) (E.th u) cv cf pv q.now.1 q.fD.1 i hi v)
    refine ⟨cv',cf',pv,?_⟩;show iU R L _ _ u (aM E.th u _ u) (aM T u (aM (T u) (15+i) v) u) _ _ _;rw [aC,aC];refine ⟨?_,⟨l1,fun x hx=>by cases hx⟩,⟨l2,fun x hx=>by cases hx⟩,q'.aK⟩;have:=q.like.set (15+i) v
    rwa [LO] at this
   ·refine ⟨cv,cf,pv,?_⟩
    show iU R L _ _ u (aM E.th t _ u) (aM T t (aM (T t) (15+i) v) u) _ _ _;rw [aD _ _ c,aD _ _ c];exact q'
  case gd =>
   intro u hu;refine ((h.gd u hu).of_block (ho _ (Row.apart (h.gd u hu) fM (by decide)))).congr (fun k _=>?_);exact congrArg _ (congrFun (EY E.th t {E.th t with now:=none,fD:=none} rfl u).symm k)
  case gg =>
   intro u hu;refine ((h.gg u hu).of_block (ho _ (Row.apart (h.gg u hu) fM (by decide)))).congr (fun k _=>?_);exact congrArg _ (congrFun (EZ E.th t {E.th t with now:=none,fD:=none} rfl u).symm k)
theorem int.RE.raw:FF int.SR @int.RE 1 28:=qY.1
theorem list.RE.raw:FF list.SR @list.RE 1 28:=qY.2.1
theorem tree.RE.raw:FF tree.SR @tree.RE 1 28:=qY.2.2.1
theorem row.RE.raw:FF row.SR @row.RE 2 30:=qY.2.2.2
def yR (SR:Type→Type) (RE:lA SR) (bH:{σ:Type}→SR σ→(Nat→Prop)→World→M.eX σ→List Value→Prop) (n0 n1:Nat):Prop:=∀ {σ:Type} {R:SR σ} {L:Lt} {S:Nat→Prop} {E:bD σ} {w:World} {t:Nat} (_h:RE R L S E w) (_qw:t<L.n) {cv cf:List Value} (_hcv:∀ i,i<n0+1→w.cell? ⟨L.g,t*n1+(15+i),none⟩=cv[i]?) (_LG:∀ i,i<n0+1→w.cell? ⟨L.g,t*n1+(15+(n0+1+i)),none⟩=cf[i]?) {v f:eX σ} (_hv:bH R (fun k=>S k∧¬L.own k) w v cv) (_hf:bH R (fun k=>S k∧¬L.own k) w f cf) (e':bU σ) (_he:e' = {E.th t with now:=some v,fD:=some f}),RE R L S {E with th:=aM E.th t e'} w
open row in
theorem lO:yR int.SR @int.RE @int.bH 1 28∧yR list.SR @list.RE @list.bH 1 28∧yR tree.SR @tree.RE @tree.bH 1 28∧yR row.SR @row.RE @row.bH 2 30:=by
 refine ⟨@mkK _ 0 ?_,@mkK _ 1 ?_,@mkK _ 2 ?_,@mkK _ 3 ?_⟩<;>intro kk σ R L S E w t h mP cv cf hcv eP v f hv hf e' he
 all_goals
  subst he;obtain ⟨T,fM,xW⟩:=h.th;have lv:=bH.len R hv;have lf:=bH.len R hf;refine {ok:=h.ok,qQ:=h.qQ,vL:=h.vL,sh:=h.sh,tg:=h.tg,an:=h.an,po:=h.po,rw:=h.rw,th:=⟨T,fM,fun u hu=>?th⟩,gd:=?gd,gg:=?gg,ow:=h.ow,lt:=h.lt}
  case th =>
   obtain ⟨cv0,mm,pv,q⟩:=xW u hu;show ∃ cv cf pv,iU R L _ w u (aM E.th t _ u) (T u) cv cf pv
   by_cases c:u=t
   ·subst c
    rw [aC];refine ⟨cv,cf,pv,?_,⟨lv,fun x hx=>by injection hx with hx;rw [←hx];exact hv⟩,⟨lf,fun x hx=>by injection hx with hx;rw [←hx];exact hf⟩,q.aK⟩;have e1:cv=cv0:=by
     apply List.ext_getElem?;intro i
     first|(have:=kA kk;by_cases hi:i<1+1)|(have:=kB kk;by_cases hi:i<1+1)|(have:=kC kk;by_cases hi:i<1+1)|(have:=kD kk;by_cases hi:i<2+1)
     ·first|(have:=kA kk;rw [←hcv i hi,fM.cell (cH hu h.ok.gn) (show 15+i<28 by omega)])|(have:=kB kk;rw [←hcv i hi,fM.cell (cH hu h.ok.gn) (show 15+i<28 by omega)])|(have:=kC kk;rw [←hcv i hi,fM.cell (cH hu h.ok.gn) (show 15+i<28 by omega)])|(have:=kD kk;rw [←hcv i hi,fM.cell (cH hu h.ok.gn) (show 15+i<30 by omega)])
      have:(cN L u (E.th u) cv0 mm pv)[15+i]?=cv0[i]?:=by
       unfold cN;rw [pP (by simp [q.now.1,q.fD.1];omega),pP (by simp [q.now.1];omega),vI (by simp)];simp
      have hl:i<cv0.length:=by rw [q.now.1];exact hi
      rw [eT hl] at this ⊢;rw [q.like _ _ this]
     ·rw [EC (by omega),EC (by have:=q.now.1;omega)]
    have e2:cf=mm:=by
     apply List.ext_getElem?;intro i
     first|(have:=kA kk;by_cases hi:i<1+1)|(have:=kB kk;by_cases hi:i<1+1)|(have:=kC kk;by_cases hi:i<1+1)|(have:=kD kk;by_cases hi:i<2+1)
     ·first|(have:=kA kk;rw [←eP i hi,fM.cell (cH hu h.ok.gn) (show 15+(1+1+i)<28 by omega)])|(have:=kB kk;rw [←eP i hi,fM.cell (cH hu h.ok.gn) (show 15+(1+1+i)<28 by omega)])|(have:=kC kk;rw [←eP i hi,fM.cell (cH hu h.ok.gn) (show 15+(1+1+i)<28 by omega)])|(have:=kD kk;rw [←eP i hi,fM.cell (cH hu h.ok.gn) (show 15+(2+1+i)<30 by omega)])
      first
       |have:=kA kk
        have:(cN L u (E.th u) cv0 mm pv)[15+(1+1+i)]?=mm[i]?:=by
         unfold cN;rw [pP (by simp [q.now.1,q.fD.1];omega),vI (by simp [q.now.1];omega)];simp [q.now.1];congr 1;omega
       |have:=kB kk
        have:(cN L u (E.th u) cv0 mm pv)[15+(1+1+i)]?=mm[i]?:=by
         unfold cN;rw [pP (by simp [q.now.1,q.fD.1];omega),vI (by simp [q.now.1];omega)];simp [q.now.1];congr 1;omega
       |have:=kC kk
        have:(cN L u (E.th u) cv0 mm pv)[15+(1+1+i)]?=mm[i]?:=by
         unfold cN;rw [pP (by simp [q.now.1,q.fD.1];omega),vI (by simp [q.now.1];omega)];simp [q.now.1];congr 1;omega
       |have:=kD kk
        have:(cN L u (E.th u) cv0 mm pv)[15+(2+1+i)]?=mm[i]?:=by
         unfold cN;rw [pP (by simp [q.now.1,q.fD.1];omega),vI (by simp [q.now.1];omega)];simp [q.now.1];congr 1;omega
      have hl:i<mm.length:=by rw [q.fD.1];exact hi
      rw [eT hl] at this ⊢;rw [q.like _ _ this]
     ·rw [EC (by omega),EC (by have:=q.fD.1;omega)]
    rw [e1,e2];exact q.like
   ·rw [aD _ _ c]
    exact ⟨cv0,mm,pv,q⟩
  case gd =>
   intro u hu;refine (h.gd u hu).congr (fun k _=>?_);exact congrArg _ (congrFun (EY E.th t {E.th t with now:=some v,fD:=some f} rfl u).symm k)
  case gg =>
   intro u hu;refine (h.gg u hu).congr (fun k _=>?_);exact congrArg _ (congrFun (EZ E.th t {E.th t with now:=some v,fD:=some f} rfl u).symm k)
theorem int.RE.XC:yR int.SR @int.RE @int.bH 1 28:=lO.1
theorem list.RE.XC:yR list.SR @list.RE @list.bH 1 28:=lO.2.1
theorem tree.RE.XC:yR tree.SR @tree.RE @tree.bH 1 28:=lO.2.2.1
theorem row.RE.XC:yR row.SR @row.RE @row.bH 2 30:=lO.2.2.2
theorem int.RE.VB {σ:Type} {R:SR σ} {L:Lt} {S:Nat→Prop} {t:Nat} (mP:t<L.n):∀ (vs:List Value) (i:Nat) (E:bD σ) (w:World),RE R L S E w→(E.th t).now=none→(E.th t).fD=none→i+vs.length≤2*(1+1)→RE R L S E (w.setCells L.g (t*28+(15+i)) vs)∧Fr L.own w (w.setCells L.g (t*28+(15+i)) vs)
 |[],_,_,w,h,_,_,_=>⟨h,Fr.refl _ w⟩
 |v::vs,i,E,w,h,h1,h2,hl=>by
  simp only [eM] at hl;obtain ⟨r1,k1⟩:=h.raw mP i (by omega) v;have e:{E with th:=aM E.th t {E.th t with now:=none,fD:=none}} = E:=by
   have:({E.th t with now:=none,fD:=none}:bU σ)=E.th t:=by
    cases hq:E.th t with
    |mk a1 a2 a3 a4 a5 a6 a7 a8 a9 a10 a11 a12 a13 a14 a15 a16 a17 a18 a19 a20 =>
     rw [hq] at h1 h2;simp only at h1 h2;subst h1;subst h2;rfl
   rw [this];have u:aM E.th t (E.th t)=E.th:=by funext k;unfold aM;split<;>simp_all
   rw [u]
  rw [e] at r1;obtain ⟨r2,k2⟩:=RE.VB mP vs (i+1) E _ r1 h1 h2 (by omega);rw [World.setCells,show t*28+(15+i)+1=t*28+(15+(i+1)) by omega];exact ⟨r2,k1.trans k2⟩
theorem list.RE.VB {σ:Type} {R:SR σ} {L:Lt} {S:Nat→Prop} {t:Nat} (mP:t<L.n):∀ (vs:List Value) (i:Nat) (E:bD σ) (w:World),RE R L S E w→(E.th t).now=none→(E.th t).fD=none→i+vs.length≤2*(1+1)→RE R L S E (w.setCells L.g (t*28+(15+i)) vs)∧Fr L.own w (w.setCells L.g (t*28+(15+i)) vs)
 |[],_,_,w,h,_,_,_=>⟨h,Fr.refl _ w⟩
 |v::vs,i,E,w,h,h1,h2,hl=>by
  simp only [eM] at hl;obtain ⟨r1,k1⟩:=h.raw mP i (by omega) v;have e:{E with th:=aM E.th t {E.th t with now:=none,fD:=none}} = E:=by
   have:({E.th t with now:=none,fD:=none}:bU σ)=E.th t:=by
    cases hq:E.th t with
    |mk a1 a2 a3 a4 a5 a6 a7 a8 a9 a10 a11 a12 a13 a14 a15 a16 a17 a18 a19 a20 =>
     rw [hq] at h1 h2;simp only at h1 h2;subst h1;subst h2;rfl
   rw [this];have u:aM E.th t (E.th t)=E.th:=by funext k;unfold aM;split<;>simp_all
   rw [u]
  rw [e] at r1;obtain ⟨r2,k2⟩:=RE.VB mP vs (i+1) E _ r1 h1 h2 (by omega);rw [World.setCells,show t*28+(15+i)+1=t*28+(15+(i+1)) by omega];exact ⟨r2,k1.trans k2⟩
theorem tree.RE.VB {σ:Type} {R:SR σ} {L:Lt} {S:Nat→Prop} {t:Nat} (mP:t<L.n):∀ (vs:List Value) (i:Nat) (E:bD σ) (w:World),RE R L S E w→(E.th t).now=none→(E.th t).fD=none→i+vs.length≤2*(1+1)→RE R L S E (w.setCells L.g (t*28+(15+i)) vs)∧Fr L.own w (w.setCells L.g (t*28+(15+i)) vs)
 |[],_,_,w,h,_,_,_=>⟨h,Fr.refl _ w⟩
 |v::vs,i,E,w,h,h1,h2,hl=>by
  simp only [eM] at hl;obtain ⟨r1,k1⟩:=h.raw mP i (by omega) v;have e:{E with th:=aM E.th t {E.th t with now:=none,fD:=none}} = E:=by
   have:({E.th t with now:=none,fD:=none}:bU σ)=E.th t:=by
    cases hq:E.th t with
    |mk a1 a2 a3 a4 a5 a6 a7 a8 a9 a10 a11 a12 a13 a14 a15 a16 a17 a18 a19 a20 =>
     rw [hq] at h1 h2;simp only at h1 h2;subst h1;subst h2;rfl
   rw [this];have u:aM E.th t (E.th t)=E.th:=by funext k;unfold aM;split<;>simp_all
   rw [u]
  rw [e] at r1;obtain ⟨r2,k2⟩:=RE.VB mP vs (i+1) E _ r1 h1 h2 (by omega);rw [World.setCells,show t*28+(15+i)+1=t*28+(15+(i+1)) by omega];exact ⟨r2,k1.trans k2⟩
theorem row.RE.VB {σ:Type} {R:SR σ} {L:Lt} {S:Nat→Prop} {t:Nat} (mP:t<L.n):∀ (vs:List Value) (i:Nat) (E:bD σ) (w:World),RE R L S E w→(E.th t).now=none→(E.th t).fD=none→i+vs.length≤2*(2+1)→RE R L S E (w.setCells L.g (t*30+(15+i)) vs)∧Fr L.own w (w.setCells L.g (t*30+(15+i)) vs)
 |[],_,_,w,h,_,_,_=>⟨h,Fr.refl _ w⟩
 |v::vs,i,E,w,h,h1,h2,hl=>by
  simp only [eM] at hl;obtain ⟨r1,k1⟩:=h.raw mP i (by omega) v;have e:{E with th:=aM E.th t {E.th t with now:=none,fD:=none}} = E:=by
   have:({E.th t with now:=none,fD:=none}:bU σ)=E.th t:=by
    cases hq:E.th t with
    |mk a1 a2 a3 a4 a5 a6 a7 a8 a9 a10 a11 a12 a13 a14 a15 a16 a17 a18 a19 a20 =>
     rw [hq] at h1 h2;simp only at h1 h2;subst h1;subst h2;rfl
   rw [this];have u:aM E.th t (E.th t)=E.th:=by funext k;unfold aM;split<;>simp_all
   rw [u]
  rw [e] at r1;obtain ⟨r2,k2⟩:=RE.VB mP vs (i+1) E _ r1 h1 h2 (by omega);rw [World.setCells,show t*30+(15+i)+1=t*30+(15+(i+1)) by omega];exact ⟨r2,k1.trans k2⟩
def xE (SR:Type→Type) (RE:lA SR) (bH:{σ:Type}→SR σ→(Nat→Prop)→World→M.eX σ→List Value→Prop):Prop:=∀ {σ:Type} {R:SR σ} {L:Lt} {S:Nat→Prop} {E:bD σ} {w:World} {t:Nat} (_h:RE R L S E w) (_qw:t<L.n) (vs:List Value) (i:Nat) (_hl:i+vs.length≤2*(1+1)) (_hne:vs≠[]) {cv cf:List Value} {v f:eX σ} (_hv:bH R (fun k=>S k∧¬L.own k) w v cv) (_hf:bH R (fun k=>S k∧¬L.own k) w f cf) (_hc:∀ j,j<2*(1+1)→(if i≤j∧j<i+vs.length then vs[j-i]? else w.cell? ⟨L.g,t*28+(15+j),none⟩)=(cv++cf)[j]?) (e':bU σ) (_he:e' = {E.th t with now:=some v,fD:=some f}),RE R L S {E with th:=aM E.th t e'} (w.setCells L.g (t*28+(15+i)) vs)∧Fr L.own w (w.setCells L.g (t*28+(15+i)) vs)
theorem kZ:xE int.SR @int.RE @int.bH∧xE list.SR @list.RE @list.bH∧xE tree.SR @tree.RE @tree.bH:=by
 refine ⟨?_,?_,?_⟩<;>intro σ R L S E w t h mP vs i hl hne cv cf v f hv hf hc e' he
 all_goals
  cases vs with
  |nil=>exact absurd rfl hne
  |cons a vs =>
   simp only [eM] at hl;obtain ⟨r1,k1⟩:=h.raw mP i (by omega) a;obtain ⟨r2,k2⟩:=RE.VB mP vs (i+1) _ _ r1 (by simp [aC]) (by simp [aC]) (by omega);have hw:(w.setCell ⟨L.g,t*28+(15+i),none⟩ a).setCells L.g (t*28+(15+(i+1))) vs=w.setCells L.g (t*28+(15+i)) (a::vs):=by
    rw [World.setCells,show t*28+(15+i)+1=t*28+(15+(i+1)) by omega]
   rw [hw] at r2 k2;have kk:=k1.trans k2;have lv:=bH.len R hv;have lf:=bH.len R hf;have hst:∀ k,(S k∧¬L.own k)→k<w.heap.size→(S k∧¬L.own k)∧(w.setCells L.g (t*28+(15+i)) (a::vs)).heap[k]?=w.heap[k]?:=fun k hk hlt=>⟨hk,kk.block k hlt hk.2⟩
   have hI:∀ k,(S k∧¬L.own k)→k<w.heap.size:=fun k hk=>h.lt k hk.1
   have FC:∀ j,j<2*(1+1)→(w.cell? ⟨L.g,t*28+(15+j),none⟩).isSome=true:=by
    obtain ⟨T,fM,-⟩:=h.th;intro j hj;rw [fM.cell (cH mP h.ok.gn) (show 15+j<28 by omega)];rfl
   have hcell:∀ j,j<2*(1+1)→(w.setCells L.g (t*28+(15+i)) (a::vs)).cell? ⟨L.g,t*28+(15+j),none⟩=(cv++cf)[j]?:=by
    intro j hj;rw [←hc j hj]
    by_cases q:i≤j∧j<i+(a::vs).length
    ·rw [aJ q]
     have hj2:j-i<(a::vs).length:=by omega
     have:=World.cell?_setCells_in L.g (a::vs) (t*28+(15+i)) w (fun k hk=>by
      simp only [eM] at hk;have:=FC (i+k) (by omega)
      rwa [show t*28+(15+i)+k=t*28+(15+(i+k)) by omega]) (j-i) hj2
     rw [show t*28+(15+i)+(j-i)=t*28+(15+j) by omega] at this;rw [this,eT hj2]
    ·rw [aN q]
     refine World.cell?_setCells_out L.g (a::vs) _ w _ (fun _ _=>?_);show t*28+(15+j)<_∨_≤t*28+(15+j);omega
   have:=r2.XC mP (cv:=cv) (cf:=cf) (fun j hj=>by rw [hcell j (by omega),pP (by omega)]) (fun j hj=>by rw [hcell (1+1+j) (by omega),vI (by omega),lv];congr 1;omega) (bH.stay hst hI hv) (bH.stay hst hI hf) e' (by rw [he];simp only [aC]);refine ⟨this.cast ?_,kk⟩;simp only [cU]
theorem int.RE.mJ:xE int.SR @int.RE @int.bH:=kZ.1
theorem list.RE.mJ:xE list.SR @list.RE @list.bH:=kZ.2.1
theorem tree.RE.mJ:xE tree.SR @tree.RE @tree.bH:=kZ.2.2
theorem row.RE.mJ {σ:Type} {R:SR σ} {L:Lt} {S:Nat→Prop} {E:bD σ} {w:World} {t:Nat} (h:RE R L S E w) (mP:t<L.n) (vs:List Value) (i:Nat) (hl:i+vs.length≤2*(2+1)) (hne:vs≠[]) {cv cf:List Value} {v f:eX σ} (hv:bH R (fun k=>S k∧¬L.own k) w v cv) (hf:bH R (fun k=>S k∧¬L.own k) w f cf)
  (hc:∀ j,j<2*(2+1)→(if i≤j∧j<i+vs.length then vs[j-i]? else w.cell? ⟨L.g,t*30+(15+j),none⟩)=(cv++cf)[j]?) (e':bU σ) (he:e' = {E.th t with now:=some v,fD:=some f}) :
  RE R L S {E with th:=aM E.th t e'} (w.setCells L.g (t*30+(15+i)) vs)∧Fr L.own w (w.setCells L.g (t*30+(15+i)) vs):=by
 cases vs with
 |nil=>exact absurd rfl hne
 |cons a vs =>
  simp only [eM] at hl;obtain ⟨r1,k1⟩:=h.raw mP i (by omega) a;obtain ⟨r2,k2⟩:=RE.VB mP vs (i+1) _ _ r1 (by simp [aC]) (by simp [aC]) (by omega);have hw:(w.setCell ⟨L.g,t*30+(15+i),none⟩ a).setCells L.g (t*30+(15+(i+1))) vs=w.setCells L.g (t*30+(15+i)) (a::vs):=by
   rw [World.setCells,show t*30+(15+i)+1=t*30+(15+(i+1)) by omega]
  rw [hw] at r2 k2;have kk:=k1.trans k2;have lv:=bH.len R hv;have lf:=bH.len R hf;have hst:∀ k,(S k∧¬L.own k)→k<w.heap.size→(S k∧¬L.own k)∧(w.setCells L.g (t*30+(15+i)) (a::vs)).heap[k]?=w.heap[k]?:=fun k hk hlt=>⟨hk,kk.block k hlt hk.2⟩
  have hI:∀ k,(S k∧¬L.own k)→k<w.heap.size:=fun k hk=>h.lt k hk.1
  have FC:∀ j,j<2*(2+1)→(w.cell? ⟨L.g,t*30+(15+j),none⟩).isSome=true:=by
   obtain ⟨T,fM,-⟩:=h.th;intro j hj;rw [fM.cell (cH mP h.ok.gn) (show 15+j<30 by omega)];rfl
  have hcell:∀ j,j<2*(2+1)→(w.setCells L.g (t*30+(15+i)) (a::vs)).cell? ⟨L.g,t*30+(15+j),none⟩=(cv++cf)[j]?:=by
   intro j hj;rw [←hc j hj]
   by_cases q:i≤j∧j<i+(a::vs).length
   ·rw [aJ q]
    have hj2:j-i<(a::vs).length:=by omega
    have:=World.cell?_setCells_in L.g (a::vs) (t*30+(15+i)) w (fun k hk=>by
     simp only [eM] at hk;have:=FC (i+k) (by omega)
     rwa [show t*30+(15+i)+k=t*30+(15+(i+k)) by omega]) (j-i) hj2
    rw [show t*30+(15+i)+(j-i)=t*30+(15+j) by omega] at this;rw [this,eT hj2]
   ·rw [aN q]
    refine World.cell?_setCells_out L.g (a::vs) _ w _ (fun _ _=>?_);show t*30+(15+j)<_∨_≤t*30+(15+j);omega
  have:=r2.XC mP (cv:=cv) (cf:=cf) (fun j hj=>by rw [hcell j (by omega),pP (by omega)]) (fun j hj=>by rw [hcell (2+1+j) (by omega),vI (by omega),lv];congr 1;omega) (bH.stay hst hI hv) (bH.stay hst hI hf) e' (by rw [he];simp only [aC]);refine ⟨this.cast ?_,kk⟩;simp only [cU]
end Go.Proofs.YtefjhnhdagolhaaGreat
