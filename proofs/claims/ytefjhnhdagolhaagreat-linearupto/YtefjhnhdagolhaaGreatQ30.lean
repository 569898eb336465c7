import Derived.Test.YtefjhnhdagolhaaGreatQ29
import Derived.Test.YtefjhnhdagolhaaGreatQ27
set_option maxHeartbeats 16000000
set_option maxRecDepth 20000
namespace Go.Proofs.YtefjhnhdagolhaaGreat
open int list tree
open Go.RowKit
open M (aI aC aD Op cY aS aK aQ aL aN)
attribute [local go_sem ↓] Go.wp_at_zero Go.wp_at_succ
theorem int.RE.jS {σ:Type} {R:SR σ} {L:Lt} {S:Nat→Prop} {t:Nat} (ht:t<L.n):∀ (vs:List Int) (o:Nat) (E:aK σ) (w:World),RE R L S E w→RE R L S {E with th:=aI E.th t {E.th t with dw:=fun i=>if o≤i∧i<o+vs.length then vs.getD (i-o) 0 else (E.th t).dw i}} (w.setCells (L.gD t) o (ints vs))∧Fr L.own w (w.setCells (L.gD t) o (ints vs))
 |[],o,E,w,h=>by
  refine ⟨h.cast ?_,Fr.refl _ w⟩
  have e:(fun i=>if o≤i∧i<o+([]:List Int).length then ([]:List Int).getD (i-o) 0 else (E.th t).dw i)=(E.th t).dw:=by
   funext i
   rw [if_neg (by simp)]
  rw [e]
  have u:aI E.th t (E.th t)=E.th:=by funext k;unfold aI;split<;>simp_all
  rw [u]
 |v::vs,o,E,w,h=>by
  have r1:=h.fY t ht o v
  obtain ⟨r2,k2⟩:=RE.jS ht vs (o+1) _ _ r1
  refine ⟨r2.cast ?_,(Fr.set w (pF ht) _).trans k2⟩
  simp only [bM,aC]
  congr 2
  have e:(fun i=>if o+1≤i∧i<o+1+vs.length then vs.getD (i-(o+1)) 0 else aI (E.th t).dw o v i)=fun i=>if o≤i∧i<o+(v::vs).length then (v::vs).getD (i-o) 0 else (E.th t).dw i:=by
   funext i
   simp only [List.length_cons]
   by_cases q:i=o
   ·subst q
    rw [if_neg (by omega),if_pos (by omega),aC]
    simp
   ·rw [aD _ _ q]
    by_cases q2:o+1≤i∧i<o+1+vs.length
    ·rw [if_pos q2,if_pos (by omega),show i-o=(i-(o+1))+1 by omega]
     simp
    ·rw [if_neg q2,if_neg (by omega)]
  rw [e]
theorem list.RE.jS {σ:Type} {R:SR σ} {L:Lt} {S:Nat→Prop} {t:Nat} (ht:t<L.n):∀ (vs:List Int) (o:Nat) (E:aK σ) (w:World),RE R L S E w→RE R L S {E with th:=aI E.th t {E.th t with dw:=fun i=>if o≤i∧i<o+vs.length then vs.getD (i-o) 0 else (E.th t).dw i}} (w.setCells (L.gD t) o (ints vs))∧Fr L.own w (w.setCells (L.gD t) o (ints vs))
 |[],o,E,w,h=>by
  refine ⟨h.cast ?_,Fr.refl _ w⟩
  have e:(fun i=>if o≤i∧i<o+([]:List Int).length then ([]:List Int).getD (i-o) 0 else (E.th t).dw i)=(E.th t).dw:=by
   funext i
   rw [if_neg (by simp)]
  rw [e]
  have u:aI E.th t (E.th t)=E.th:=by funext k;unfold aI;split<;>simp_all
  rw [u]
 |v::vs,o,E,w,h=>by
  have r1:=h.fY t ht o v
  obtain ⟨r2,k2⟩:=RE.jS ht vs (o+1) _ _ r1
  refine ⟨r2.cast ?_,(Fr.set w (pF ht) _).trans k2⟩
  simp only [bM,aC]
  congr 2
  have e:(fun i=>if o+1≤i∧i<o+1+vs.length then vs.getD (i-(o+1)) 0 else aI (E.th t).dw o v i)=fun i=>if o≤i∧i<o+(v::vs).length then (v::vs).getD (i-o) 0 else (E.th t).dw i:=by
   funext i
   simp only [List.length_cons]
   by_cases q:i=o
   ·subst q
    rw [if_neg (by omega),if_pos (by omega),aC]
    simp
   ·rw [aD _ _ q]
    by_cases q2:o+1≤i∧i<o+1+vs.length
    ·rw [if_pos q2,if_pos (by omega),show i-o=(i-(o+1))+1 by omega]
     simp
    ·rw [if_neg q2,if_neg (by omega)]
  rw [e]
theorem tree.RE.jS {σ:Type} {R:SR σ} {L:Lt} {S:Nat→Prop} {t:Nat} (ht:t<L.n):∀ (vs:List Int) (o:Nat) (E:aK σ) (w:World),RE R L S E w→RE R L S {E with th:=aI E.th t {E.th t with dw:=fun i=>if o≤i∧i<o+vs.length then vs.getD (i-o) 0 else (E.th t).dw i}} (w.setCells (L.gD t) o (ints vs))∧Fr L.own w (w.setCells (L.gD t) o (ints vs))
 |[],o,E,w,h=>by
  refine ⟨h.cast ?_,Fr.refl _ w⟩
  have e:(fun i=>if o≤i∧i<o+([]:List Int).length then ([]:List Int).getD (i-o) 0 else (E.th t).dw i)=(E.th t).dw:=by
   funext i
   rw [if_neg (by simp)]
  rw [e]
  have u:aI E.th t (E.th t)=E.th:=by funext k;unfold aI;split<;>simp_all
  rw [u]
 |v::vs,o,E,w,h=>by
  have r1:=h.fY t ht o v
  obtain ⟨r2,k2⟩:=RE.jS ht vs (o+1) _ _ r1
  refine ⟨r2.cast ?_,(Fr.set w (pF ht) _).trans k2⟩
  simp only [bM,aC]
  congr 2
  have e:(fun i=>if o+1≤i∧i<o+1+vs.length then vs.getD (i-(o+1)) 0 else aI (E.th t).dw o v i)=fun i=>if o≤i∧i<o+(v::vs).length then (v::vs).getD (i-o) 0 else (E.th t).dw i:=by
   funext i
   simp only [List.length_cons]
   by_cases q:i=o
   ·subst q
    rw [if_neg (by omega),if_pos (by omega),aC]
    simp
   ·rw [aD _ _ q]
    by_cases q2:o+1≤i∧i<o+1+vs.length
    ·rw [if_pos q2,if_pos (by omega),show i-o=(i-(o+1))+1 by omega]
     simp
    ·rw [if_neg q2,if_neg (by omega)]
  rw [e]
theorem row.RE.jS {σ:Type} {R:SR σ} {L:Lt} {S:Nat→Prop} {t:Nat} (ht:t<L.n):∀ (vs:List Int) (o:Nat) (E:aK σ) (w:World),RE R L S E w→RE R L S {E with th:=aI E.th t {E.th t with dw:=fun i=>if o≤i∧i<o+vs.length then vs.getD (i-o) 0 else (E.th t).dw i}} (w.setCells (L.gD t) o (ints vs))∧Fr L.own w (w.setCells (L.gD t) o (ints vs))
 |[],o,E,w,h=>by
  refine ⟨h.cast ?_,Fr.refl _ w⟩
  have e:(fun i=>if o≤i∧i<o+([]:List Int).length then ([]:List Int).getD (i-o) 0 else (E.th t).dw i)=(E.th t).dw:=by
   funext i
   rw [if_neg (by simp)]
  rw [e]
  have u:aI E.th t (E.th t)=E.th:=by funext k;unfold aI;split<;>simp_all
  rw [u]
 |v::vs,o,E,w,h=>by
  have r1:=h.fY t ht o v
  obtain ⟨r2,k2⟩:=RE.jS ht vs (o+1) _ _ r1
  refine ⟨r2.cast ?_,(Fr.set w (pF ht) _).trans k2⟩
  simp only [bM,aC]
  congr 2
  have e:(fun i=>if o+1≤i∧i<o+1+vs.length then vs.getD (i-(o+1)) 0 else aI (E.th t).dw o v i)=fun i=>if o≤i∧i<o+(v::vs).length then (v::vs).getD (i-o) 0 else (E.th t).dw i:=by
   funext i
   simp only [List.length_cons]
   by_cases q:i=o
   ·subst q
    rw [if_neg (by omega),if_pos (by omega),aC]
    simp
   ·rw [aD _ _ q]
    by_cases q2:o+1≤i∧i<o+1+vs.length
    ·rw [if_pos q2,if_pos (by omega),show i-o=(i-(o+1))+1 by omega]
     simp
    ·rw [if_neg q2,if_neg (by omega)]
  rw [e]
def int.iM:Prop:=∀ {σ:Type} {R:SR σ} {L:Lt} {S:Nat→Prop} {E:aK σ} {w:World} {t:Nat} (_ht:t<L.n) {wc W3:World} {gp pl pc bv bf:Nat} {a0 b0:Value} {v f:cY σ} (_hL:aF R L S w {E with th:=aI E.th t {E.th t with dw:=fun i=>if i<M.tw L.n then (E.th t).tg i else (E.th t).dw i}} wc) (_hb3:Below wc.heap.size wc W3) (_aAJ:Row W3 wc.heap.size 306 [.int .i64 (((E.th t).stamp+1:Nat):Int),.slice (some ⟨gp,0,none⟩) pl pc,.pointer (some ⟨bf,0,none⟩)]) (_hIp:grown S w wc gp∧¬L.own gp) (_hsl:Sl wc (.slice (some ⟨gp,0,none⟩) pl pc) (ints ((E.th t).aJ.map Int.ofNat))) (_hrv:R.rep (fun k=>grown S w wc k∧¬L.own k) wc v.st [a0]) (_hrf:R.rep (fun k=>grown S w wc k∧¬L.own k) wc f.st [b0]) (_hbf:cP (fun k=>grown S w wc k∧¬L.own k) wc f.bs.reverse bf) (_hX:∀ j,j<2*(1+1)→wc.cell? ⟨L.g,t*28+(15+j),none⟩=(([a0]++[.pointer (some ⟨bv,0,none⟩)])++([b0]++[.pointer (some ⟨bf,0,none⟩)]))[j]?) (_hv:(E.th t).now=some v) (_hf:(E.th t).cD=some f),aF R L S w {E with th:=aI E.th t (aS.close L.n (E.th t))} (W3.setCell ⟨L.g,t*28+16,none⟩ (.pointer (some ⟨wc.heap.size,0,none⟩)))
def list.iM:Prop:=∀ {σ:Type} {R:SR σ} {L:Lt} {S:Nat→Prop} {E:aK σ} {w:World} {t:Nat} (_ht:t<L.n) {wc W3:World} {gp pl pc bv bf:Nat} {a0 b0:Value} {v f:cY σ} (_hL:aF R L S w {E with th:=aI E.th t {E.th t with dw:=fun i=>if i<M.tw L.n then (E.th t).tg i else (E.th t).dw i}} wc) (_hb3:Below wc.heap.size wc W3) (_aAJ:Row W3 wc.heap.size 306 [.int .i64 (((E.th t).stamp+1:Nat):Int),.slice (some ⟨gp,0,none⟩) pl pc,.pointer (some ⟨bf,0,none⟩)]) (_hIp:grown S w wc gp∧¬L.own gp) (_hsl:Sl wc (.slice (some ⟨gp,0,none⟩) pl pc) (ints ((E.th t).aJ.map Int.ofNat))) (_hrv:R.rep (fun k=>grown S w wc k∧¬L.own k) wc v.st [a0]) (_hrf:R.rep (fun k=>grown S w wc k∧¬L.own k) wc f.st [b0]) (_hbf:cP (fun k=>grown S w wc k∧¬L.own k) wc f.bs.reverse bf) (_hX:∀ j,j<2*(1+1)→wc.cell? ⟨L.g,t*28+(15+j),none⟩=(([a0]++[.pointer (some ⟨bv,0,none⟩)])++([b0]++[.pointer (some ⟨bf,0,none⟩)]))[j]?) (_hv:(E.th t).now=some v) (_hf:(E.th t).cD=some f),aF R L S w {E with th:=aI E.th t (aS.close L.n (E.th t))} (W3.setCell ⟨L.g,t*28+16,none⟩ (.pointer (some ⟨wc.heap.size,0,none⟩)))
def tree.iM:Prop:=∀ {σ:Type} {R:SR σ} {L:Lt} {S:Nat→Prop} {E:aK σ} {w:World} {t:Nat} (_ht:t<L.n) {wc W3:World} {gp pl pc bv bf:Nat} {a0 b0:Value} {v f:cY σ} (_hL:aF R L S w {E with th:=aI E.th t {E.th t with dw:=fun i=>if i<M.tw L.n then (E.th t).tg i else (E.th t).dw i}} wc) (_hb3:Below wc.heap.size wc W3) (_aAJ:Row W3 wc.heap.size 306 [.int .i64 (((E.th t).stamp+1:Nat):Int),.slice (some ⟨gp,0,none⟩) pl pc,.pointer (some ⟨bf,0,none⟩)]) (_hIp:grown S w wc gp∧¬L.own gp) (_hsl:Sl wc (.slice (some ⟨gp,0,none⟩) pl pc) (ints ((E.th t).aJ.map Int.ofNat))) (_hrv:R.rep (fun k=>grown S w wc k∧¬L.own k) wc v.st [a0]) (_hrf:R.rep (fun k=>grown S w wc k∧¬L.own k) wc f.st [b0]) (_hbf:cP (fun k=>grown S w wc k∧¬L.own k) wc f.bs.reverse bf) (_hX:∀ j,j<2*(1+1)→wc.cell? ⟨L.g,t*28+(15+j),none⟩=(([a0]++[.pointer (some ⟨bv,0,none⟩)])++([b0]++[.pointer (some ⟨bf,0,none⟩)]))[j]?) (_hv:(E.th t).now=some v) (_hf:(E.th t).cD=some f),aF R L S w {E with th:=aI E.th t (aS.close L.n (E.th t))} (W3.setCell ⟨L.g,t*28+16,none⟩ (.pointer (some ⟨wc.heap.size,0,none⟩)))
theorem uE:int.iM∧list.iM∧tree.iM:=by
 refine ⟨@mkK _ 0 ?_,@mkK _ 1 ?_,@mkK _ 2 ?_⟩<;>intro kk σ R L S E w t ht wc W3 gp pl pc bv bf a0 b0 v f hL cE hrow MJ EL hrv hrf TR hX hv hf
 all_goals
  have hLb:=aF.below hL.re cE
  have MG:L.g<wc.heap.size:=hL.re.lt _ (hL.re.ow _ kH)
  have hst:∀ k,(grown S w wc k∧¬L.own k)→k<wc.heap.size→(grown (grown S w wc) wc W3 k∧¬L.own k)∧W3.heap[k]?=wc.heap[k]?:=fun k hk hlt=>⟨⟨.inl hk.1,hk.2⟩,cE.block k hlt⟩
  have hI:∀ k,(grown S w wc k∧¬L.own k)→k<wc.heap.size:=fun k hk=>hL.re.lt k hk.1
  have vr:aV R (fun k=>grown (grown S w wc) wc W3 k∧¬L.own k) W3 {v with bs:=f.bs++[((E.th t).stamp+1,(E.th t).aJ)]} ([a0]++[.pointer (some ⟨wc.heap.size,0,none⟩)]):=by
   refine ⟨[a0],wc.heap.size,rfl,R.stay hst hrv,?_⟩
   show cP _ W3 (f.bs++[((E.th t).stamp+1,(E.th t).aJ)]).reverse wc.heap.size
   rw [List.reverse_append]
   first|(have _:Kn 0:=kk;exact ⟨_,bf,⟨.inr ⟨Nat.le_refl _,hrow.lt⟩,fun q=>by have:=hL.re.lt _ (hL.re.ow _ q);omega⟩,hrow,⟨gp,(hst gp MJ (hI gp MJ)).1,int.Sl.stay rfl EL (fun q=>(hst gp MJ q).2),_,_,rfl⟩,int.cP.stay hst hI _ _ TR⟩)|(have _:Kn 1:=kk;exact ⟨_,bf,⟨.inr ⟨Nat.le_refl _,hrow.lt⟩,fun q=>by have:=hL.re.lt _ (hL.re.ow _ q);omega⟩,hrow,⟨gp,(hst gp MJ (hI gp MJ)).1,list.Sl.stay rfl EL (fun q=>(hst gp MJ q).2),_,_,rfl⟩,list.cP.stay hst hI _ _ TR⟩)|(have _:Kn 2:=kk;exact ⟨_,bf,⟨.inr ⟨Nat.le_refl _,hrow.lt⟩,fun q=>by have:=hL.re.lt _ (hL.re.ow _ q);omega⟩,hrow,⟨gp,(hst gp MJ (hI gp MJ)).1,tree.Sl.stay rfl EL (fun q=>(hst gp MJ q).2),_,_,rfl⟩,tree.cP.stay hst hI _ _ TR⟩)
  first|(have _:Kn 0:=kk;have fr:int.aV R (fun k=>grown (grown S w wc) wc W3 k∧¬L.own k) W3 f ([b0]++[.pointer (some ⟨bf,0,none⟩)]):=⟨[b0],bf,rfl,R.stay hst hrf,int.cP.stay hst hI _ _ TR⟩)|(have _:Kn 1:=kk;have fr:list.aV R (fun k=>grown (grown S w wc) wc W3 k∧¬L.own k) W3 f ([b0]++[.pointer (some ⟨bf,0,none⟩)]):=⟨[b0],bf,rfl,R.stay hst hrf,list.cP.stay hst hI _ _ TR⟩)|(have _:Kn 2:=kk;have fr:tree.aV R (fun k=>grown (grown S w wc) wc W3 k∧¬L.own k) W3 f ([b0]++[.pointer (some ⟨bf,0,none⟩)]):=⟨[b0],bf,rfl,R.stay hst hrf,tree.cP.stay hst hI _ _ TR⟩)
  obtain ⟨r2,k2⟩:=hLb.re.jQ ht [.pointer (some ⟨wc.heap.size,0,none⟩)] 1 (by simp) (by simp) vr fr (fun j hj=>by
   by_cases q:j=1
   ·subst q
    rfl
   ·rw [if_neg (by simp;omega),cE.cell (p:=⟨L.g,t*28+(15+j),none⟩) MG,hX j hj]
    rcases (by omega:j=0∨j=1∨j=2∨j=3) with q2|q2|q2|q2<;>subst q2<;>first|rfl|exact absurd rfl q) (aS.close L.n (E.th t)) (by
   simp only [aC]
   unfold aS.close
   rw [hv,hf]
   rfl)
  have:=hL.next (hLb.next (aF.of r2 k2 rfl))
  refine this.cast ?_
  simp only [bM]
theorem int.uW:iM:=uE.1
theorem list.uW:iM:=uE.2.1
theorem tree.uW:iM:=uE.2.2
theorem row.uW {σ:Type} {R:SR σ} {L:Lt} {S:Nat→Prop} {E:aK σ} {w:World} {t:Nat} (ht:t<L.n) {wc W3:World} {gp pl pc bv bf:Nat} {a0 a1 b0 b1:Value} {v f:cY σ}
  (hL:aF R L S w {E with th:=aI E.th t {E.th t with dw:=fun i=>if i<M.tw L.n then (E.th t).tg i else (E.th t).dw i}} wc) (cE:Below wc.heap.size wc W3)
  (hrow:Row W3 wc.heap.size 306 [.int .i64 (((E.th t).stamp+1:Nat):Int),.slice (some ⟨gp,0,none⟩) pl pc,.pointer (some ⟨bf,0,none⟩)]) (MJ:grown S w wc gp∧¬L.own gp) (EL:Sl wc (.slice (some ⟨gp,0,none⟩) pl pc) (ints ((E.th t).aJ.map Int.ofNat)))
  (hrv:R.rep (fun k=>grown S w wc k∧¬L.own k) wc v.st [a0,a1]) (hrf:R.rep (fun k=>grown S w wc k∧¬L.own k) wc f.st [b0,b1]) (TR:cP (fun k=>grown S w wc k∧¬L.own k) wc f.bs.reverse bf)
  (hX:∀ j,j<2*(2+1)→wc.cell? ⟨L.g,t*30+(15+j),none⟩=(([a0,a1]++[.pointer (some ⟨bv,0,none⟩)])++([b0,b1]++[.pointer (some ⟨bf,0,none⟩)]))[j]?) (hv:(E.th t).now=some v) (hf:(E.th t).cD=some f) :
  aF R L S w {E with th:=aI E.th t (aS.close L.n (E.th t))} (W3.setCell ⟨L.g,t*30+17,none⟩ (.pointer (some ⟨wc.heap.size,0,none⟩))):=by
 have hLb:=aF.below hL.re cE
 have MG:L.g<wc.heap.size:=hL.re.lt _ (hL.re.ow _ kH)
 have hst:∀ k,(grown S w wc k∧¬L.own k)→k<wc.heap.size→(grown (grown S w wc) wc W3 k∧¬L.own k)∧W3.heap[k]?=wc.heap[k]?:=fun k hk hlt=>⟨⟨.inl hk.1,hk.2⟩,cE.block k hlt⟩
 have hI:∀ k,(grown S w wc k∧¬L.own k)→k<wc.heap.size:=fun k hk=>hL.re.lt k hk.1
 have vr:aV R (fun k=>grown (grown S w wc) wc W3 k∧¬L.own k) W3 {v with bs:=f.bs++[((E.th t).stamp+1,(E.th t).aJ)]} ([a0,a1]++[.pointer (some ⟨wc.heap.size,0,none⟩)]):=by
  refine ⟨[a0,a1],wc.heap.size,rfl,R.stay hst hrv,?_⟩
  show cP _ W3 (f.bs++[((E.th t).stamp+1,(E.th t).aJ)]).reverse wc.heap.size
  rw [List.reverse_append]
  exact ⟨_,bf,⟨.inr ⟨Nat.le_refl _,hrow.lt⟩,fun q=>by have:=hL.re.lt _ (hL.re.ow _ q);omega⟩,hrow,⟨gp,(hst gp MJ (hI gp MJ)).1,Sl.stay rfl EL (fun q=>(hst gp MJ q).2),_,_,rfl⟩,cP.stay hst hI _ _ TR⟩
 have fr:aV R (fun k=>grown (grown S w wc) wc W3 k∧¬L.own k) W3 f ([b0,b1]++[.pointer (some ⟨bf,0,none⟩)]):=⟨[b0,b1],bf,rfl,R.stay hst hrf,cP.stay hst hI _ _ TR⟩
 obtain ⟨r2,k2⟩:=hLb.re.jQ ht [.pointer (some ⟨wc.heap.size,0,none⟩)] 2 (by simp) (by simp) vr fr (fun j hj=>by
  by_cases q:j=2
  ·subst q
   rfl
  ·rw [if_neg (by simp;omega),cE.cell (p:=⟨L.g,t*30+(15+j),none⟩) MG,hX j hj]
   rcases (by omega:j=0∨j=1∨j=2∨j=3∨j=4∨j=5) with q2|q2|q2|q2|q2|q2<;>subst q2<;>first|rfl|exact absurd rfl q) (aS.close L.n (E.th t)) (by
  simp only [aC]
  unfold aS.close
  rw [hv,hf]
  rfl)
 have:=hL.next (hLb.next (aF.of r2 k2 rfl))
 refine this.cast ?_
 simp only [bM]
def int.iA:Prop:=∀ {σ:Type} {R:SR σ} {L:Lt} {S:Nat→Prop} {E:aK σ} {w:World} {t:Nat} (_h:RE R L S E w) (_ht:t<L.n) (_hN:(E.th t).stamp≤1000000000) (_hr:(E.th t).aR<129) {v f:cY σ} (_hv:(E.th t).now=some v) (_hf:(E.th t).cD=some f) (_hp:(E.th t).aJ≠[]),Calls Tryz.prog 231 #[.pointer (some ⟨L.g,t*28,none⟩)] w fun e w'=>e = .returned (.tuple #[])∧aF R L S w {E with th:=aI E.th t (aS.close L.n (E.th t))} w'
def list.iA:Prop:=∀ {σ:Type} {R:SR σ} {L:Lt} {S:Nat→Prop} {E:aK σ} {w:World} {t:Nat} (_h:RE R L S E w) (_ht:t<L.n) (_hN:(E.th t).stamp≤1000000000) (_hr:(E.th t).aR<129) {v f:cY σ} (_hv:(E.th t).now=some v) (_hf:(E.th t).cD=some f) (_hp:(E.th t).aJ≠[]),Calls Tryz.prog 282 #[.pointer (some ⟨L.g,t*28,none⟩)] w fun e w'=>e = .returned (.tuple #[])∧aF R L S w {E with th:=aI E.th t (aS.close L.n (E.th t))} w'
def tree.iA:Prop:=∀ {σ:Type} {R:SR σ} {L:Lt} {S:Nat→Prop} {E:aK σ} {w:World} {t:Nat} (_h:RE R L S E w) (_ht:t<L.n) (_hN:(E.th t).stamp≤1000000000) (_hr:(E.th t).aR<129) {v f:cY σ} (_hv:(E.th t).now=some v) (_hf:(E.th t).cD=some f) (_hp:(E.th t).aJ≠[]),Calls Tryz.prog 356 #[.pointer (some ⟨L.g,t*28,none⟩)] w fun e w'=>e = .returned (.tuple #[])∧aF R L S w {E with th:=aI E.th t (aS.close L.n (E.th t))} w'
def row.iA:Prop:=∀ {σ:Type} {R:SR σ} {L:Lt} {S:Nat→Prop} {E:aK σ} {w:World} {t:Nat} (_h:RE R L S E w) (_ht:t<L.n) (_hN:(E.th t).stamp≤1000000000) (_hr:(E.th t).aR<129) {v f:cY σ} (_hv:(E.th t).now=some v) (_hf:(E.th t).cD=some f) (_hp:(E.th t).aJ≠[]),Calls Tryz.prog 319 #[.pointer (some ⟨L.g,t*30,none⟩)] w fun e w'=>e = .returned (.tuple #[])∧aF R L S w {E with th:=aI E.th t (aS.close L.n (E.th t))} w'
open row in
theorem uX:int.iA∧list.iA∧tree.iA∧row.iA:=by
 refine ⟨@mkK _ 0 ?_,@mkK _ 1 ?_,@mkK _ 2 ?_,@mkK _ 3 ?_⟩<;>intro kk σ R L S E w t h ht hN hr v f hv hf hp
 all_goals
  obtain ⟨cv,cf,pv,hc,hcv,eD,-,-⟩:=h.cells ht rfl
  first|(have _:Kn 0:=kk;obtain ⟨x0,x1,rfl⟩:=int.aE hcv.1)|(have _:Kn 1:=kk;obtain ⟨x0,x1,rfl⟩:=int.aE hcv.1)|(have _:Kn 2:=kk;obtain ⟨x0,x1,rfl⟩:=int.aE hcv.1)|(have _:Kn 3:=kk;obtain ⟨x0,x1,x2,rfl⟩:=row.aE hcv.1)
  first|(have _:Kn 0:=kk;obtain ⟨y0,y1,rfl⟩:=int.aE eD.1)|(have _:Kn 1:=kk;obtain ⟨y0,y1,rfl⟩:=int.aE eD.1)|(have _:Kn 2:=kk;obtain ⟨y0,y1,rfl⟩:=int.aE eD.1)|(have _:Kn 3:=kk;obtain ⟨y0,y1,y2,rfl⟩:=row.aE eD.1)
  have hn:=h.ok.n64
  have htw:M.tw L.n≤M.aQ L.n:=by unfold M.aQ;omega
  have KW:M.aQ L.n≤200:=by unfold M.aQ M.tw;omega
  have ZS:=hc 14 _ (by decide) rfl
  first|(have _:Kn 0:=kk;have cg:=hc 19 _ (by decide) rfl)|(have _:Kn 1:=kk;have cg:=hc 19 _ (by decide) rfl)|(have _:Kn 2:=kk;have cg:=hc 19 _ (by decide) rfl)|(have _:Kn 3:=kk;have cg:=hc 21 _ (by decide) rfl)
  have ngD:L.g≠L.gD t:=by obtain ⟨T,q,-⟩:=h.th;exact Row.apart q (h.gd t ht) (by decide)
  obtain ⟨TS,WO⟩:∃ TS,TS=(List.range (M.tw L.n)).map (E.th t).tg:=⟨_,rfl⟩
  have hlen:(ints TS).length=M.tw L.n:=by rw [WO];simp [ints]
  have aHi:=aA (show ∀ j u,(ints TS)[j]?=some u→w.cell? ((⟨L.gG t,0,none⟩:Addr).add j)=some u from fun j u hj=>by
   have hj2:j<M.tw L.n:=by rw [←hlen];exact (List.getElem?_eq_some_iff.1 hj).1
   rw [rL,Nat.zero_add,(h.gg t ht).cell hj2]
   rw [WO,qX,List.getElem?_map,List.getElem?_range hj2] at hj
   simpa using hj)
  have aHj:=aA (show ∀ j,j<(ints TS).length→(w.cell? ⟨L.gD t,0+j,none⟩).isSome=true from fun j hj=>by rw [Nat.zero_add,(h.gd t ht).cell (by omega)];rfl)
  have HFZ:=aA (show ∀ j,j<(ints TS).length→w.frozen? ⟨L.gD t,0+j,none⟩=false from fun j _=>(h.gd t ht).frozen _)
  have hdw:(fun i=>if 0≤i∧i<0+TS.length then TS.getD (i-0) 0 else (E.th t).dw i)=fun i=>if i<M.tw L.n then (E.th t).tg i else (E.th t).dw i:=by
   have hl2:TS.length=M.tw L.n:=by simpa [ints] using hlen
   funext i
   rw [hl2]
   by_cases q:i<M.tw L.n
   ·rw [if_pos ⟨Nat.zero_le _,by omega⟩,if_pos q,WO]
    simp [List.getD_eq_getElem?_getD,List.getElem?_range q]
   ·rw [if_neg (by omega),if_neg q]
  obtain ⟨r1,k1⟩:=RE.jS ht TS 0 E w.drew h.drew
  rw [hdw] at r1
  have H1:=aA (aF.of r1 (show Fr L.own w _ from ⟨k1.os,k1.tape,k1.output,k1.size,k1.block⟩) rfl)
  have HH:=aA h
  have HC:=aA (And.intro hv (And.intro hf hp))
  have HTG:=aA WO
  have HLN:=aA hlen
  clear h hc hcv eD hv hf hp r1 k1 hdw WO hlen
  first|(have _:Kn 0:=kk;go_enter Tryz.func231,Tryz.ntmps231)|(have _:Kn 1:=kk;go_enter Tryz.func282,Tryz.ntmps282)|(have _:Kn 2:=kk;go_enter Tryz.func356,Tryz.ntmps356)|(have _:Kn 3:=kk;go_enter Tryz.func319,Tryz.ntmps319)
  go_upto_region 0 with fail
  go_cut [11] (fun _ w'=>aF R L S w {E with th:=aI E.th t {E.th t with dw:=fun i=>if i<M.tw L.n then (E.th t).tg i else (E.th t).dw i}} w')
  case first =>
   first|(have _:Kn 0:=kk;refine fR (S:=(fun w'=>w'.cell? ⟨L.g,t*28+14,none⟩=some (.slice (some ⟨L.gD t,0,none⟩) (M.aQ L.n) (M.aQ L.n))∧w'.cell? ⟨L.g,t*28+19,none⟩=some (.slice (some ⟨L.gG t,0,none⟩) (M.tw L.n) (M.tw L.n)))) 10 rfl (by kernel_rfl) ?_ (fun hHeld=>?_))|(have _:Kn 1:=kk;refine fR (S:=(fun w'=>w'.cell? ⟨L.g,t*28+14,none⟩=some (.slice (some ⟨L.gD t,0,none⟩) (M.aQ L.n) (M.aQ L.n))∧w'.cell? ⟨L.g,t*28+19,none⟩=some (.slice (some ⟨L.gG t,0,none⟩) (M.tw L.n) (M.tw L.n)))) 10 rfl (by kernel_rfl) ?_ (fun hHeld=>?_))|(have _:Kn 2:=kk;refine fR (S:=(fun w'=>w'.cell? ⟨L.g,t*28+14,none⟩=some (.slice (some ⟨L.gD t,0,none⟩) (M.aQ L.n) (M.aQ L.n))∧w'.cell? ⟨L.g,t*28+19,none⟩=some (.slice (some ⟨L.gG t,0,none⟩) (M.tw L.n) (M.tw L.n)))) 10 rfl (by kernel_rfl) ?_ (fun hHeld=>?_))|(have _:Kn 3:=kk;refine fR (S:=(fun w'=>w'.cell? ⟨L.g,t*30+14,none⟩=some (.slice (some ⟨L.gD t,0,none⟩) (M.aQ L.n) (M.aQ L.n))∧w'.cell? ⟨L.g,t*30+21,none⟩=some (.slice (some ⟨L.gG t,0,none⟩) (M.tw L.n) (M.tw L.n)))) 10 rfl (by kernel_rfl) ?_ (fun hHeld=>?_))
   ·exact ⟨ZS,cg⟩
   iterate 9 (refine tk 9 (by rfl) (by kernel_rfl) (by exact fun _ _ _ h=>h) (.inl ⟨by rfl,fun w hS=>by (try dsimp only at hS);go_simp;(try with_reducible rfl)⟩) (by assumption) ?_;try go_frame)
   refine bQ 9 (by rfl) (by kernel_rfl) (fun K hK=>?_)
   refine ET rfl (.tmp 6) (.tmp 10) 22 22 rfl 3 Tryz.underlying22 (by kernel_rfl) (L.gD t) 0 (M.aQ L.n) (M.aQ L.n) ⟨L.gG t,0,none⟩ (M.tw L.n) (M.tw L.n) rfl rfl (ints TS) (by rw [HLN.out];exact (Nat.min_eq_left htw).symm) aHi.out aHj.out HFZ.out (JZ TS) ?_
   refine hK.out _ _ ?_ (fun hHeld=>?_)
   ·exact ⟨(World.cell?_setCells_out _ _ _ _ _ (fun q _=>absurd q ngD)).trans hHeld.1,(World.cell?_setCells_out _ _ _ _ _ (fun q _=>absurd q ngD)).trans hHeld.2⟩
   clear hK K
   (try go_frame)
   refine wpAnyH_done (by kernel_rfl) ?_ _
   (try go_wp2_with fail)
   go_meet
   case rel=>exact H1.out
  case rest =>
   have hL:=hcut
   obtain ⟨cv,cf,pv1,hc,hcv,eD,TI,-⟩:=hL.re.cells ht (aC _ _ _)
   have sO:=hcv.2 v HC.out.1
   have hfr:=eD.2 f HC.out.2.1
   obtain ⟨scv,bv,rfl,hrv,hbv⟩:=sO
   obtain ⟨scf,bf,rfl,hrf,TR⟩:=hfr
   have lv:=R.len hrv
   have lf:=R.len hrf
   first|(have _:Kn 0:=kk;obtain ⟨a0,rfl⟩:=pK lv)|(have _:Kn 1:=kk;obtain ⟨a0,rfl⟩:=pK lv)|(have _:Kn 2:=kk;obtain ⟨a0,rfl⟩:=pK lv)|(have _:Kn 3:=kk;obtain ⟨a0,a1,rfl⟩:=CW lv)
   first|(have _:Kn 0:=kk;obtain ⟨b0,rfl⟩:=pK lf)|(have _:Kn 1:=kk;obtain ⟨b0,rfl⟩:=pK lf)|(have _:Kn 2:=kk;obtain ⟨b0,rfl⟩:=pK lf)|(have _:Kn 3:=kk;obtain ⟨b0,b1,rfl⟩:=CW lf)
   have e13:=hc 13 _ (by decide) rfl
   first|(have _:Kn 0:=kk;have epv:=hc 20 _ (by decide) rfl)|(have _:Kn 1:=kk;have epv:=hc 20 _ (by decide) rfl)|(have _:Kn 2:=kk;have epv:=hc 20 _ (by decide) rfl)|(have _:Kn 3:=kk;have epv:=hc 22 _ (by decide) rfl)
   first|(have _:Kn 0:=kk;have efl:=hc 18 _ (by decide) rfl)|(have _:Kn 1:=kk;have efl:=hc 18 _ (by decide) rfl)|(have _:Kn 2:=kk;have efl:=hc 18 _ (by decide) rfl)|(have _:Kn 3:=kk;have efl:=hc 20 _ (by decide) rfl)
   first|(have _:Kn 0:=kk;have eth:wc.there L.g (t*28+16) 1:=by obtain ⟨T,q,-⟩:=hL.re.th;exact q.there (Nat.lt_of_lt_of_le ht hL.re.ok.gn) (by decide))|(have _:Kn 1:=kk;have eth:wc.there L.g (t*28+16) 1:=by obtain ⟨T,q,-⟩:=hL.re.th;exact q.there (Nat.lt_of_lt_of_le ht hL.re.ok.gn) (by decide))|(have _:Kn 2:=kk;have eth:wc.there L.g (t*28+16) 1:=by obtain ⟨T,q,-⟩:=hL.re.th;exact q.there (Nat.lt_of_lt_of_le ht hL.re.ok.gn) (by decide))|(have _:Kn 3:=kk;have eth:wc.there L.g (t*30+17) 1:=by obtain ⟨T,q,-⟩:=hL.re.th;exact q.there (Nat.lt_of_lt_of_le ht hL.re.ok.gn) (by decide))
   have hq2:(((E.th t).stamp:Int)*129+((E.th t).aR:Int)) / 129=((E.th t).stamp:Int):=by omega
   obtain ⟨gp,pl,pc,MJ,rfl,aEb⟩:∃ gp pl pc,(grown S w wc gp∧¬L.own gp)∧pv1 = .slice (some ⟨gp,0,none⟩) pl pc∧Sl wc (.slice (some ⟨gp,0,none⟩) pl pc) (ints ((E.th t).aJ.map Int.ofNat)):=by
    rcases TI with ⟨-,q⟩|⟨gp,pl,pc,q1,q2,q3⟩
    ·exact absurd q HC.out.2.2
    ·exact ⟨gp,pl,pc,q1,q2,by rw [←q2];exact q3⟩
   have hwp:=aA (show IntKind.i64.wrap (((E.th t).stamp:Int)+1)=(((E.th t).stamp+1:Nat):Int) by rw [dP _ (by omega) (by omega)];omega)
   have HP:=aA (And.intro MJ aEb)
   have HL:=aA hL
   have HRV:=aA (And.intro hrv (And.intro hrf TR))
   first
    |have _:Kn 0:=kk
     have HX:=aA (show ∀ j,j<2*(1+1)→wc.cell? ⟨L.g,t*28+(15+j),none⟩=(([a0]++[.pointer (some ⟨bv,0,none⟩)])++([b0]++[.pointer (some ⟨bf,0,none⟩)]))[j]? from fun j hj=>by
      rcases (by omega:j=0∨j=1∨j=2∨j=3) with q|q|q|q<;>subst q
      all_goals exact hc _ _ (by decide) rfl)
    |have _:Kn 1:=kk
     have HX:=aA (show ∀ j,j<2*(1+1)→wc.cell? ⟨L.g,t*28+(15+j),none⟩=(([a0]++[.pointer (some ⟨bv,0,none⟩)])++([b0]++[.pointer (some ⟨bf,0,none⟩)]))[j]? from fun j hj=>by
      rcases (by omega:j=0∨j=1∨j=2∨j=3) with q|q|q|q<;>subst q
      all_goals exact hc _ _ (by decide) rfl)
    |have _:Kn 2:=kk
     have HX:=aA (show ∀ j,j<2*(1+1)→wc.cell? ⟨L.g,t*28+(15+j),none⟩=(([a0]++[.pointer (some ⟨bv,0,none⟩)])++([b0]++[.pointer (some ⟨bf,0,none⟩)]))[j]? from fun j hj=>by
      rcases (by omega:j=0∨j=1∨j=2∨j=3) with q|q|q|q<;>subst q
      all_goals exact hc _ _ (by decide) rfl)
    |have _:Kn 3:=kk
     have HX:=aA (show ∀ j,j<2*(2+1)→wc.cell? ⟨L.g,t*30+(15+j),none⟩=(([a0,a1]++[.pointer (some ⟨bv,0,none⟩)])++([b0,b1]++[.pointer (some ⟨bf,0,none⟩)]))[j]? from fun j hj=>by
      rcases (by omega:j=0∨j=1∨j=2∨j=3∨j=4∨j=5) with q|q|q|q|q|q<;>subst q
      all_goals exact hc _ _ (by decide) rfl)
   have aEc:L.g<wc.heap.size:=hL.re.lt _ (hL.re.ow _ kH)
   clear hcut hL hc hcv eD TI hrv hrf hbv TR MJ aEb ZS cg
   go_upto_region 1 with fail
   first|(have _:Kn 0:=kk;refine fR (S:=(fun w'=>w'.cell? ⟨L.g,t*28+13,none⟩=some (.int .i64 (((E.th t).stamp:Int)*129+((E.th t).aR:Int)))∧w'.cell? ⟨L.g,t*28+20,none⟩=some (.slice (some ⟨gp,0,none⟩) pl pc)∧w'.cell? ⟨L.g,t*28+18,none⟩=some (.pointer (some ⟨bf,0,none⟩))∧w'.there (L.g) (t*28+16) 1)) 26 rfl (by kernel_rfl) ?_ (fun hHeld=>?_))|(have _:Kn 1:=kk;refine fR (S:=(fun w'=>w'.cell? ⟨L.g,t*28+13,none⟩=some (.int .i64 (((E.th t).stamp:Int)*129+((E.th t).aR:Int)))∧w'.cell? ⟨L.g,t*28+20,none⟩=some (.slice (some ⟨gp,0,none⟩) pl pc)∧w'.cell? ⟨L.g,t*28+18,none⟩=some (.pointer (some ⟨bf,0,none⟩))∧w'.there (L.g) (t*28+16) 1)) 26 rfl (by kernel_rfl) ?_ (fun hHeld=>?_))|(have _:Kn 2:=kk;refine fR (S:=(fun w'=>w'.cell? ⟨L.g,t*28+13,none⟩=some (.int .i64 (((E.th t).stamp:Int)*129+((E.th t).aR:Int)))∧w'.cell? ⟨L.g,t*28+20,none⟩=some (.slice (some ⟨gp,0,none⟩) pl pc)∧w'.cell? ⟨L.g,t*28+18,none⟩=some (.pointer (some ⟨bf,0,none⟩))∧w'.there (L.g) (t*28+16) 1)) 26 rfl (by kernel_rfl) ?_ (fun hHeld=>?_))|(have _:Kn 3:=kk;refine fR (S:=(fun w'=>w'.cell? ⟨L.g,t*30+13,none⟩=some (.int .i64 (((E.th t).stamp:Int)*129+((E.th t).aR:Int)))∧w'.cell? ⟨L.g,t*30+22,none⟩=some (.slice (some ⟨gp,0,none⟩) pl pc)∧w'.cell? ⟨L.g,t*30+20,none⟩=some (.pointer (some ⟨bf,0,none⟩))∧w'.there (L.g) (t*30+17) 1)) 26 rfl (by kernel_rfl) ?_ (fun hHeld=>?_))
   ·exact ⟨e13,epv,efl,eth⟩
   iterate 5 (refine tk 25 (by rfl) (by kernel_rfl) (by exact fun _ _ _ h=>h) (.inl ⟨by rfl,fun w hS=>by (try dsimp only at hS);go_simp;(try with_reducible rfl)⟩) (by assumption) ?_;try go_frame)
   iterate 11 (refine tk 27 (by rfl) (by kernel_rfl) (by exact fun _ _ _ h=>h) (.inl ⟨by rfl,fun w hS=>by (try dsimp only at hS);go_simp;(try with_reducible rfl)⟩) (by assumption) ?_;try go_frame)
   refine bQ 5 (by rfl) (by kernel_rfl) (fun K hK=>?_)
   go_simp
   refine (rO _ _ (by omega) (by omega)).mono ?_
   rintro e w3 ⟨rfl,rfl⟩
   rw [hq2]
   go_wp2_with fail
   refine hK.out _ _ ?_ (fun hHeld=>?_)
   ·exact hHeld
   clear hK K
   (try go_frame)
   iterate 1 (refine tk 14 (by rfl) (by kernel_rfl) (by exact fun _ _ _ h=>h) (.inl ⟨by rfl,fun w hS=>by (try dsimp only at hS);go_simp;(try with_reducible rfl)⟩) (by assumption) ?_;try go_frame)
   iterate 1 (refine tk 25 (by rfl) (by kernel_rfl) (by exact fun _ _ _ h=>h) (.inl ⟨by rfl,fun w hS=>by (try dsimp only at hS);go_simp;(try with_reducible rfl)⟩) (by assumption) ?_;try go_frame)
   refine bQ 19 (by rfl) (by kernel_rfl) (fun K hK=>?_)
   go_simp
   refine hK.out _ _ ?_ (fun hHeld=>?_)
   ·exact ⟨cell_later (aB _ _) hHeld.1,cell_later (aB _ _) hHeld.2.1,cell_later (aB _ _) hHeld.2.2.1,aT (aB _ _) hHeld.2.2.2⟩
   clear hK K
   (try go_frame)
   iterate 5 (refine tk 25 (by rfl) (by kernel_rfl) (by exact fun _ _ _ h=>h) (.inl ⟨by rfl,fun w hS=>by (try dsimp only at hS);go_simp;(try with_reducible rfl)⟩) (by assumption) ?_;try go_frame)
   refine bQ 25 (by rfl) (by kernel_rfl) (fun K hK=>?_)
   rw [if_pos (by rfl)]
   first|(have _:Kn 0:=kk;refine aU _ _ _ rfl L.g (t*28+16) (.pointer (some ⟨wc.heap.size,0,none⟩)) rfl rfl rfl rfl hHeld.2.2.2 (by kernel_rfl) ?_)|(have _:Kn 1:=kk;refine aU _ _ _ rfl L.g (t*28+16) (.pointer (some ⟨wc.heap.size,0,none⟩)) rfl rfl rfl rfl hHeld.2.2.2 (by kernel_rfl) ?_)|(have _:Kn 2:=kk;refine aU _ _ _ rfl L.g (t*28+16) (.pointer (some ⟨wc.heap.size,0,none⟩)) rfl rfl rfl rfl hHeld.2.2.2 (by kernel_rfl) ?_)|(have _:Kn 3:=kk;refine aU _ _ _ rfl L.g (t*30+17) (.pointer (some ⟨wc.heap.size,0,none⟩)) rfl rfl rfl rfl hHeld.2.2.2 (by kernel_rfl) ?_)
   refine hK.out _ _ ?_ (fun hHeld=>?_)
   ·exact ⟨aH hHeld.1 (by first|exact .inr (by dsimp only;omega)|exact .inl (by assumption)|exact .inl (Ne.symm (by assumption))),aH hHeld.2.1 (by first|exact .inr (by dsimp only;omega)|exact .inl (by assumption)|exact .inl (Ne.symm (by assumption))),aH hHeld.2.2.1 (by first|exact .inr (by dsimp only;omega)|exact .inl (by assumption)|exact .inl (Ne.symm (by assumption))),cR hHeld.2.2.2 _ rfl _⟩
   clear hK K
   (try go_frame)
   refine wpAnyH_done (by kernel_rfl) ?_ _
   clear hHeld
   rw [hwp.out]
   generalize oG:World.drew _=W3
   have cE:Below wc.heap.size wc W3:=by rw [←oG];exact Below.drew (aB _ _)
   have hrow:Row W3 wc.heap.size 306 [.int .i64 (((E.th t).stamp+1:Nat):Int),.slice (some ⟨gp,0,none⟩) pl pc,.pointer (some ⟨bf,0,none⟩)]:=by rw [←oG];exact Row.new wc [_,_,_] _
   have HF:=aA (And.intro cE hrow)
   clear oG cE hrow
   go_wp2
   exact bodyPost_end (v:=.tuple #[]) (by simp [results,Tryz.results231,Tryz.results282,Tryz.results356,Tryz.results319,go_sem]) rfl ⟨rfl,uW ht HL.out HF.out.1 HF.out.2 HP.out.1 HP.out.2 HRV.out.1 HRV.out.2.1 HRV.out.2.2 HX.out HC.out.1 HC.out.2.1⟩
theorem int.xP:iA:=uX.1
theorem list.xP:iA:=uX.2.1
theorem tree.xP:iA:=uX.2.2.1
theorem row.xP:iA:=uX.2.2.2
end Go.Proofs.YtefjhnhdagolhaaGreat
