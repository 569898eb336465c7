import Derived.Test.YtefjhnhdagolhabGreatQ10
import Derived.Test.YtefjhnhdagolhabGreatQ24
set_option maxHeartbeats 16000000
set_option maxRecDepth 20000
namespace Go.Proofs.YtefjhnhdagolhabGreat
open int list tree
open Go.RowKit
open M (aH aC aE Op cY aS aK aR aL aM)
attribute [local go_sem ↓] Go.wp_at_zero Go.wp_at_succ
theorem int.RE.jM {σ:Type} {R:SR σ} {L:Lt} {S:Nat→Prop} {t:Nat} (ht:t<L.n):∀ (vs:List Int) (o:Nat) (E:aK σ) (w:World),RE R L S E w→RE R L S {E with th:=aH E.th t {E.th t with dw:=fun i=>if o≤i∧i<o+vs.length then vs.getD (i-o) 0 else (E.th t).dw i}} (w.setCells (L.gD t) o (ints vs))∧Fr L.own w (w.setCells (L.gD t) o (ints vs))
 |[],o,E,w,h=>by
  refine ⟨h.cast ?_,Fr.refl _ w⟩
  have e:(fun i=>if o≤i∧i<o+([]:List Int).length then ([]:List Int).getD (i-o) 0 else (E.th t).dw i)=(E.th t).dw:=by
   funext i
   rw [if_neg (by simp)]
  rw [e]
  have u:aH E.th t (E.th t)=E.th:=by funext k;unfold aH;split<;>simp_all
  rw [u]
 |v::vs,o,E,w,h=>by
  have r1:=h.fX t ht o v
  obtain ⟨r2,k2⟩:=RE.jM ht vs (o+1) _ _ r1
  refine ⟨r2.cast ?_,(Fr.set w (oV ht) _).trans k2⟩
  simp only [bR,aC]
  congr 2
  have e:(fun i=>if o+1≤i∧i<o+1+vs.length then vs.getD (i-(o+1)) 0 else aH (E.th t).dw o v i)=fun i=>if o≤i∧i<o+(v::vs).length then (v::vs).getD (i-o) 0 else (E.th t).dw i:=by
   funext i
   simp only [List.length_cons]
   by_cases q:i=o
   ·subst q
    rw [if_neg (by omega),if_pos (by omega),aC]
    simp
   ·rw [aE _ _ q]
    by_cases q2:o+1≤i∧i<o+1+vs.length
    ·rw [if_pos q2,if_pos (by omega),show i-o=(i-(o+1))+1 by omega]
     simp
    ·rw [if_neg q2,if_neg (by omega)]
  rw [e]
theorem list.RE.jM {σ:Type} {R:SR σ} {L:Lt} {S:Nat→Prop} {t:Nat} (ht:t<L.n):∀ (vs:List Int) (o:Nat) (E:aK σ) (w:World),RE R L S E w→RE R L S {E with th:=aH E.th t {E.th t with dw:=fun i=>if o≤i∧i<o+vs.length then vs.getD (i-o) 0 else (E.th t).dw i}} (w.setCells (L.gD t) o (ints vs))∧Fr L.own w (w.setCells (L.gD t) o (ints vs))
 |[],o,E,w,h=>by
  refine ⟨h.cast ?_,Fr.refl _ w⟩
  have e:(fun i=>if o≤i∧i<o+([]:List Int).length then ([]:List Int).getD (i-o) 0 else (E.th t).dw i)=(E.th t).dw:=by
   funext i
   rw [if_neg (by simp)]
  rw [e]
  have u:aH E.th t (E.th t)=E.th:=by funext k;unfold aH;split<;>simp_all
  rw [u]
 |v::vs,o,E,w,h=>by
  have r1:=h.fX t ht o v
  obtain ⟨r2,k2⟩:=RE.jM ht vs (o+1) _ _ r1
  refine ⟨r2.cast ?_,(Fr.set w (oV ht) _).trans k2⟩
  simp only [bR,aC]
  congr 2
  have e:(fun i=>if o+1≤i∧i<o+1+vs.length then vs.getD (i-(o+1)) 0 else aH (E.th t).dw o v i)=fun i=>if o≤i∧i<o+(v::vs).length then (v::vs).getD (i-o) 0 else (E.th t).dw i:=by
   funext i
   simp only [List.length_cons]
   by_cases q:i=o
   ·subst q
    rw [if_neg (by omega),if_pos (by omega),aC]
    simp
   ·rw [aE _ _ q]
    by_cases q2:o+1≤i∧i<o+1+vs.length
    ·rw [if_pos q2,if_pos (by omega),show i-o=(i-(o+1))+1 by omega]
     simp
    ·rw [if_neg q2,if_neg (by omega)]
  rw [e]
theorem tree.RE.jM {σ:Type} {R:SR σ} {L:Lt} {S:Nat→Prop} {t:Nat} (ht:t<L.n):∀ (vs:List Int) (o:Nat) (E:aK σ) (w:World),RE R L S E w→RE R L S {E with th:=aH E.th t {E.th t with dw:=fun i=>if o≤i∧i<o+vs.length then vs.getD (i-o) 0 else (E.th t).dw i}} (w.setCells (L.gD t) o (ints vs))∧Fr L.own w (w.setCells (L.gD t) o (ints vs))
 |[],o,E,w,h=>by
  refine ⟨h.cast ?_,Fr.refl _ w⟩
  have e:(fun i=>if o≤i∧i<o+([]:List Int).length then ([]:List Int).getD (i-o) 0 else (E.th t).dw i)=(E.th t).dw:=by
   funext i
   rw [if_neg (by simp)]
  rw [e]
  have u:aH E.th t (E.th t)=E.th:=by funext k;unfold aH;split<;>simp_all
  rw [u]
 |v::vs,o,E,w,h=>by
  have r1:=h.fX t ht o v
  obtain ⟨r2,k2⟩:=RE.jM ht vs (o+1) _ _ r1
  refine ⟨r2.cast ?_,(Fr.set w (oV ht) _).trans k2⟩
  simp only [bR,aC]
  congr 2
  have e:(fun i=>if o+1≤i∧i<o+1+vs.length then vs.getD (i-(o+1)) 0 else aH (E.th t).dw o v i)=fun i=>if o≤i∧i<o+(v::vs).length then (v::vs).getD (i-o) 0 else (E.th t).dw i:=by
   funext i
   simp only [List.length_cons]
   by_cases q:i=o
   ·subst q
    rw [if_neg (by omega),if_pos (by omega),aC]
    simp
   ·rw [aE _ _ q]
    by_cases q2:o+1≤i∧i<o+1+vs.length
    ·rw [if_pos q2,if_pos (by omega),show i-o=(i-(o+1))+1 by omega]
     simp
    ·rw [if_neg q2,if_neg (by omega)]
  rw [e]
theorem row.RE.jM {σ:Type} {R:SR σ} {L:Lt} {S:Nat→Prop} {t:Nat} (ht:t<L.n):∀ (vs:List Int) (o:Nat) (E:aK σ) (w:World),RE R L S E w→RE R L S {E with th:=aH E.th t {E.th t with dw:=fun i=>if o≤i∧i<o+vs.length then vs.getD (i-o) 0 else (E.th t).dw i}} (w.setCells (L.gD t) o (ints vs))∧Fr L.own w (w.setCells (L.gD t) o (ints vs))
 |[],o,E,w,h=>by
  refine ⟨h.cast ?_,Fr.refl _ w⟩
  have e:(fun i=>if o≤i∧i<o+([]:List Int).length then ([]:List Int).getD (i-o) 0 else (E.th t).dw i)=(E.th t).dw:=by
   funext i
   rw [if_neg (by simp)]
  rw [e]
  have u:aH E.th t (E.th t)=E.th:=by funext k;unfold aH;split<;>simp_all
  rw [u]
 |v::vs,o,E,w,h=>by
  have r1:=h.fX t ht o v
  obtain ⟨r2,k2⟩:=RE.jM ht vs (o+1) _ _ r1
  refine ⟨r2.cast ?_,(Fr.set w (oV ht) _).trans k2⟩
  simp only [bR,aC]
  congr 2
  have e:(fun i=>if o+1≤i∧i<o+1+vs.length then vs.getD (i-(o+1)) 0 else aH (E.th t).dw o v i)=fun i=>if o≤i∧i<o+(v::vs).length then (v::vs).getD (i-o) 0 else (E.th t).dw i:=by
   funext i
   simp only [List.length_cons]
   by_cases q:i=o
   ·subst q
    rw [if_neg (by omega),if_pos (by omega),aC]
    simp
   ·rw [aE _ _ q]
    by_cases q2:o+1≤i∧i<o+1+vs.length
    ·rw [if_pos q2,if_pos (by omega),show i-o=(i-(o+1))+1 by omega]
     simp
    ·rw [if_neg q2,if_neg (by omega)]
  rw [e]
def int.iG:Prop:=∀ {σ:Type} {R:SR σ} {L:Lt} {S:Nat→Prop} {E:aK σ} {w:World} {t:Nat} (_ht:t<L.n) {wc W3:World} {gp pl pc bv bf:Nat} {a0 b0:Value} {v f:cY σ} (_hL:aF R L S w {E with th:=aH E.th t {E.th t with dw:=fun i=>if i<M.tw L.n then (E.th t).tg i else (E.th t).dw i}} wc) (_hb3:Below wc.heap.size wc W3) (_ZN:Row W3 wc.heap.size 204 [.int .i64 (((E.th t).stamp+1:Nat):Int),.slice (some ⟨gp,0,none⟩) pl pc,.pointer (some ⟨bf,0,none⟩)]) (_hIp:grown S w wc gp∧¬L.own gp) (_hsl:Sl wc (.slice (some ⟨gp,0,none⟩) pl pc) (ints ((E.th t).aI.map Int.ofNat))) (_hrv:R.rep (fun k=>grown S w wc k∧¬L.own k) wc v.st [a0]) (_hrf:R.rep (fun k=>grown S w wc k∧¬L.own k) wc f.st [b0]) (_hbf:cO (fun k=>grown S w wc k∧¬L.own k) wc f.bs.reverse bf) (_hX:∀ j,j<2*(1+1)→wc.cell? ⟨L.g,t*28+(15+j),none⟩=(([a0]++[.pointer (some ⟨bv,0,none⟩)])++([b0]++[.pointer (some ⟨bf,0,none⟩)]))[j]?) (_hv:(E.th t).now=some v) (_hf:(E.th t).cC=some f),aF R L S w {E with th:=aH E.th t (aS.close L.n (E.th t))} (W3.setCell ⟨L.g,t*28+16,none⟩ (.pointer (some ⟨wc.heap.size,0,none⟩)))
def list.iG:Prop:=∀ {σ:Type} {R:SR σ} {L:Lt} {S:Nat→Prop} {E:aK σ} {w:World} {t:Nat} (_ht:t<L.n) {wc W3:World} {gp pl pc bv bf:Nat} {a0 b0:Value} {v f:cY σ} (_hL:aF R L S w {E with th:=aH E.th t {E.th t with dw:=fun i=>if i<M.tw L.n then (E.th t).tg i else (E.th t).dw i}} wc) (_hb3:Below wc.heap.size wc W3) (_ZN:Row W3 wc.heap.size 204 [.int .i64 (((E.th t).stamp+1:Nat):Int),.slice (some ⟨gp,0,none⟩) pl pc,.pointer (some ⟨bf,0,none⟩)]) (_hIp:grown S w wc gp∧¬L.own gp) (_hsl:Sl wc (.slice (some ⟨gp,0,none⟩) pl pc) (ints ((E.th t).aI.map Int.ofNat))) (_hrv:R.rep (fun k=>grown S w wc k∧¬L.own k) wc v.st [a0]) (_hrf:R.rep (fun k=>grown S w wc k∧¬L.own k) wc f.st [b0]) (_hbf:cO (fun k=>grown S w wc k∧¬L.own k) wc f.bs.reverse bf) (_hX:∀ j,j<2*(1+1)→wc.cell? ⟨L.g,t*28+(15+j),none⟩=(([a0]++[.pointer (some ⟨bv,0,none⟩)])++([b0]++[.pointer (some ⟨bf,0,none⟩)]))[j]?) (_hv:(E.th t).now=some v) (_hf:(E.th t).cC=some f),aF R L S w {E with th:=aH E.th t (aS.close L.n (E.th t))} (W3.setCell ⟨L.g,t*28+16,none⟩ (.pointer (some ⟨wc.heap.size,0,none⟩)))
def tree.iG:Prop:=∀ {σ:Type} {R:SR σ} {L:Lt} {S:Nat→Prop} {E:aK σ} {w:World} {t:Nat} (_ht:t<L.n) {wc W3:World} {gp pl pc bv bf:Nat} {a0 b0:Value} {v f:cY σ} (_hL:aF R L S w {E with th:=aH E.th t {E.th t with dw:=fun i=>if i<M.tw L.n then (E.th t).tg i else (E.th t).dw i}} wc) (_hb3:Below wc.heap.size wc W3) (_ZN:Row W3 wc.heap.size 204 [.int .i64 (((E.th t).stamp+1:Nat):Int),.slice (some ⟨gp,0,none⟩) pl pc,.pointer (some ⟨bf,0,none⟩)]) (_hIp:grown S w wc gp∧¬L.own gp) (_hsl:Sl wc (.slice (some ⟨gp,0,none⟩) pl pc) (ints ((E.th t).aI.map Int.ofNat))) (_hrv:R.rep (fun k=>grown S w wc k∧¬L.own k) wc v.st [a0]) (_hrf:R.rep (fun k=>grown S w wc k∧¬L.own k) wc f.st [b0]) (_hbf:cO (fun k=>grown S w wc k∧¬L.own k) wc f.bs.reverse bf) (_hX:∀ j,j<2*(1+1)→wc.cell? ⟨L.g,t*28+(15+j),none⟩=(([a0]++[.pointer (some ⟨bv,0,none⟩)])++([b0]++[.pointer (some ⟨bf,0,none⟩)]))[j]?) (_hv:(E.th t).now=some v) (_hf:(E.th t).cC=some f),aF R L S w {E with th:=aH E.th t (aS.close L.n (E.th t))} (W3.setCell ⟨L.g,t*28+16,none⟩ (.pointer (some ⟨wc.heap.size,0,none⟩)))
theorem tK:int.iG∧list.iG∧tree.iG:=by
 refine ⟨@mkK _ 0 ?_,@mkK _ 1 ?_,@mkK _ 2 ?_⟩<;>intro kk σ R L S E w t ht wc W3 gp pl pc bv bf a0 b0 v f hL cH hrow LW JL hrv YN SL hX hv hf
 all_goals
  have hLb:=aF.below hL.re cH
  have GI:L.g<wc.heap.size:=hL.re.lt _ (hL.re.ow _ kE)
  have hst:∀ k,(grown S w wc k∧¬L.own k)→k<wc.heap.size→(grown (grown S w wc) wc W3 k∧¬L.own k)∧W3.heap[k]?=wc.heap[k]?:=fun k hk hlt=>⟨⟨.inl hk.1,hk.2⟩,cH.block k hlt⟩
  have hI:∀ k,(grown S w wc k∧¬L.own k)→k<wc.heap.size:=fun k hk=>hL.re.lt k hk.1
  have vr:aV R (fun k=>grown (grown S w wc) wc W3 k∧¬L.own k) W3 {v with bs:=f.bs++[((E.th t).stamp+1,(E.th t).aI)]} ([a0]++[.pointer (some ⟨wc.heap.size,0,none⟩)]):=by
   refine ⟨[a0],wc.heap.size,rfl,R.stay hst hrv,?_⟩
   show cO _ W3 (f.bs++[((E.th t).stamp+1,(E.th t).aI)]).reverse wc.heap.size
   rw [List.reverse_append]
   first|(have _:Kn 0:=kk;exact ⟨_,bf,⟨.inr ⟨Nat.le_refl _,hrow.lt⟩,fun q=>by have:=hL.re.lt _ (hL.re.ow _ q);omega⟩,hrow,⟨gp,(hst gp LW (hI gp LW)).1,int.Sl.stay rfl JL (fun q=>(hst gp LW q).2),_,_,rfl⟩,int.cO.stay hst hI _ _ SL⟩)|(have _:Kn 1:=kk;exact ⟨_,bf,⟨.inr ⟨Nat.le_refl _,hrow.lt⟩,fun q=>by have:=hL.re.lt _ (hL.re.ow _ q);omega⟩,hrow,⟨gp,(hst gp LW (hI gp LW)).1,list.Sl.stay rfl JL (fun q=>(hst gp LW q).2),_,_,rfl⟩,list.cO.stay hst hI _ _ SL⟩)|(have _:Kn 2:=kk;exact ⟨_,bf,⟨.inr ⟨Nat.le_refl _,hrow.lt⟩,fun q=>by have:=hL.re.lt _ (hL.re.ow _ q);omega⟩,hrow,⟨gp,(hst gp LW (hI gp LW)).1,tree.Sl.stay rfl JL (fun q=>(hst gp LW q).2),_,_,rfl⟩,tree.cO.stay hst hI _ _ SL⟩)
  first|(have _:Kn 0:=kk;have fr:int.aV R (fun k=>grown (grown S w wc) wc W3 k∧¬L.own k) W3 f ([b0]++[.pointer (some ⟨bf,0,none⟩)]):=⟨[b0],bf,rfl,R.stay hst YN,int.cO.stay hst hI _ _ SL⟩)|(have _:Kn 1:=kk;have fr:list.aV R (fun k=>grown (grown S w wc) wc W3 k∧¬L.own k) W3 f ([b0]++[.pointer (some ⟨bf,0,none⟩)]):=⟨[b0],bf,rfl,R.stay hst YN,list.cO.stay hst hI _ _ SL⟩)|(have _:Kn 2:=kk;have fr:tree.aV R (fun k=>grown (grown S w wc) wc W3 k∧¬L.own k) W3 f ([b0]++[.pointer (some ⟨bf,0,none⟩)]):=⟨[b0],bf,rfl,R.stay hst YN,tree.cO.stay hst hI _ _ SL⟩)
  obtain ⟨r2,k2⟩:=hLb.re.jK ht [.pointer (some ⟨wc.heap.size,0,none⟩)] 1 (by simp) (by simp) vr fr (fun j hj=>by
   by_cases q:j=1
   ·subst q
    rfl
   ·rw [if_neg (by simp;omega),cH.cell (p:=⟨L.g,t*28+(15+j),none⟩) GI,hX j hj]
    rcases (by omega:j=0∨j=1∨j=2∨j=3) with q2|q2|q2|q2<;>subst q2<;>first|rfl|exact absurd rfl q) (aS.close L.n (E.th t)) (by
   simp only [aC]
   unfold aS.close
   rw [hv,hf]
   rfl)
  have:=hL.next (hLb.next (aF.of r2 k2 rfl))
  refine this.cast ?_
  simp only [bR]
theorem int.uF:iG:=tK.1
theorem list.uF:iG:=tK.2.1
theorem tree.uF:iG:=tK.2.2
theorem row.uF {σ:Type} {R:SR σ} {L:Lt} {S:Nat→Prop} {E:aK σ} {w:World} {t:Nat} (ht:t<L.n) {wc W3:World} {gp pl pc bv bf:Nat} {a0 a1 b0 b1:Value} {v f:cY σ}
  (hL:aF R L S w {E with th:=aH E.th t {E.th t with dw:=fun i=>if i<M.tw L.n then (E.th t).tg i else (E.th t).dw i}} wc) (cH:Below wc.heap.size wc W3)
  (hrow:Row W3 wc.heap.size 204 [.int .i64 (((E.th t).stamp+1:Nat):Int),.slice (some ⟨gp,0,none⟩) pl pc,.pointer (some ⟨bf,0,none⟩)]) (LW:grown S w wc gp∧¬L.own gp) (JL:Sl wc (.slice (some ⟨gp,0,none⟩) pl pc) (ints ((E.th t).aI.map Int.ofNat)))
  (hrv:R.rep (fun k=>grown S w wc k∧¬L.own k) wc v.st [a0,a1]) (YN:R.rep (fun k=>grown S w wc k∧¬L.own k) wc f.st [b0,b1]) (SL:cO (fun k=>grown S w wc k∧¬L.own k) wc f.bs.reverse bf)
  (hX:∀ j,j<2*(2+1)→wc.cell? ⟨L.g,t*30+(15+j),none⟩=(([a0,a1]++[.pointer (some ⟨bv,0,none⟩)])++([b0,b1]++[.pointer (some ⟨bf,0,none⟩)]))[j]?) (hv:(E.th t).now=some v) (hf:(E.th t).cC=some f) :
  aF R L S w {E with th:=aH E.th t (aS.close L.n (E.th t))} (W3.setCell ⟨L.g,t*30+17,none⟩ (.pointer (some ⟨wc.heap.size,0,none⟩))):=by
 have hLb:=aF.below hL.re cH
 have GI:L.g<wc.heap.size:=hL.re.lt _ (hL.re.ow _ kE)
 have hst:∀ k,(grown S w wc k∧¬L.own k)→k<wc.heap.size→(grown (grown S w wc) wc W3 k∧¬L.own k)∧W3.heap[k]?=wc.heap[k]?:=fun k hk hlt=>⟨⟨.inl hk.1,hk.2⟩,cH.block k hlt⟩
 have hI:∀ k,(grown S w wc k∧¬L.own k)→k<wc.heap.size:=fun k hk=>hL.re.lt k hk.1
 have vr:aV R (fun k=>grown (grown S w wc) wc W3 k∧¬L.own k) W3 {v with bs:=f.bs++[((E.th t).stamp+1,(E.th t).aI)]} ([a0,a1]++[.pointer (some ⟨wc.heap.size,0,none⟩)]):=by
  refine ⟨[a0,a1],wc.heap.size,rfl,R.stay hst hrv,?_⟩
  show cO _ W3 (f.bs++[((E.th t).stamp+1,(E.th t).aI)]).reverse wc.heap.size
  rw [List.reverse_append]
  exact ⟨_,bf,⟨.inr ⟨Nat.le_refl _,hrow.lt⟩,fun q=>by have:=hL.re.lt _ (hL.re.ow _ q);omega⟩,hrow,⟨gp,(hst gp LW (hI gp LW)).1,Sl.stay rfl JL (fun q=>(hst gp LW q).2),_,_,rfl⟩,cO.stay hst hI _ _ SL⟩
 have fr:aV R (fun k=>grown (grown S w wc) wc W3 k∧¬L.own k) W3 f ([b0,b1]++[.pointer (some ⟨bf,0,none⟩)]):=⟨[b0,b1],bf,rfl,R.stay hst YN,cO.stay hst hI _ _ SL⟩
 obtain ⟨r2,k2⟩:=hLb.re.jK ht [.pointer (some ⟨wc.heap.size,0,none⟩)] 2 (by simp) (by simp) vr fr (fun j hj=>by
  by_cases q:j=2
  ·subst q
   rfl
  ·rw [if_neg (by simp;omega),cH.cell (p:=⟨L.g,t*30+(15+j),none⟩) GI,hX j hj]
   rcases (by omega:j=0∨j=1∨j=2∨j=3∨j=4∨j=5) with q2|q2|q2|q2|q2|q2<;>subst q2<;>first|rfl|exact absurd rfl q) (aS.close L.n (E.th t)) (by
  simp only [aC]
  unfold aS.close
  rw [hv,hf]
  rfl)
 have:=hL.next (hLb.next (aF.of r2 k2 rfl))
 refine this.cast ?_
 simp only [bR]
def int.gU:Prop:=∀ {σ:Type} {R:SR σ} {L:Lt} {S:Nat→Prop} {E:aK σ} {w:World} {t:Nat} (_h:RE R L S E w) (_ht:t<L.n) (_hN:(E.th t).stamp≤1000000000) (_hr:(E.th t).aQ<129) {v f:cY σ} (_hv:(E.th t).now=some v) (_hf:(E.th t).cC=some f) (_hp:(E.th t).aI≠[]),Calls Tryz.prog 143 #[.pointer (some ⟨L.g,t*28,none⟩)] w fun e w'=>e = .returned (.tuple #[])∧aF R L S w {E with th:=aH E.th t (aS.close L.n (E.th t))} w'
def list.gU:Prop:=∀ {σ:Type} {R:SR σ} {L:Lt} {S:Nat→Prop} {E:aK σ} {w:World} {t:Nat} (_h:RE R L S E w) (_ht:t<L.n) (_hN:(E.th t).stamp≤1000000000) (_hr:(E.th t).aQ<129) {v f:cY σ} (_hv:(E.th t).now=some v) (_hf:(E.th t).cC=some f) (_hp:(E.th t).aI≠[]),Calls Tryz.prog 194 #[.pointer (some ⟨L.g,t*28,none⟩)] w fun e w'=>e = .returned (.tuple #[])∧aF R L S w {E with th:=aH E.th t (aS.close L.n (E.th t))} w'
def tree.gU:Prop:=∀ {σ:Type} {R:SR σ} {L:Lt} {S:Nat→Prop} {E:aK σ} {w:World} {t:Nat} (_h:RE R L S E w) (_ht:t<L.n) (_hN:(E.th t).stamp≤1000000000) (_hr:(E.th t).aQ<129) {v f:cY σ} (_hv:(E.th t).now=some v) (_hf:(E.th t).cC=some f) (_hp:(E.th t).aI≠[]),Calls Tryz.prog 268 #[.pointer (some ⟨L.g,t*28,none⟩)] w fun e w'=>e = .returned (.tuple #[])∧aF R L S w {E with th:=aH E.th t (aS.close L.n (E.th t))} w'
def row.gU:Prop:=∀ {σ:Type} {R:SR σ} {L:Lt} {S:Nat→Prop} {E:aK σ} {w:World} {t:Nat} (_h:RE R L S E w) (_ht:t<L.n) (_hN:(E.th t).stamp≤1000000000) (_hr:(E.th t).aQ<129) {v f:cY σ} (_hv:(E.th t).now=some v) (_hf:(E.th t).cC=some f) (_hp:(E.th t).aI≠[]),Calls Tryz.prog 231 #[.pointer (some ⟨L.g,t*30,none⟩)] w fun e w'=>e = .returned (.tuple #[])∧aF R L S w {E with th:=aH E.th t (aS.close L.n (E.th t))} w'
open row in
theorem uG:int.gU∧list.gU∧tree.gU∧row.gU:=by
 refine ⟨@mkK _ 0 ?_,@mkK _ 1 ?_,@mkK _ 2 ?_,@mkK _ 3 ?_⟩<;>intro kk σ R L S E w t h ht hN hr v f hv hf hp
 all_goals
  obtain ⟨cv,cf,pv,hc,hcv,eE,-,-⟩:=h.cells ht rfl
  first|(have _:Kn 0:=kk;obtain ⟨x0,x1,rfl⟩:=int.aD hcv.1)|(have _:Kn 1:=kk;obtain ⟨x0,x1,rfl⟩:=int.aD hcv.1)|(have _:Kn 2:=kk;obtain ⟨x0,x1,rfl⟩:=int.aD hcv.1)|(have _:Kn 3:=kk;obtain ⟨x0,x1,x2,rfl⟩:=row.aD hcv.1)
  first|(have _:Kn 0:=kk;obtain ⟨y0,y1,rfl⟩:=int.aD eE.1)|(have _:Kn 1:=kk;obtain ⟨y0,y1,rfl⟩:=int.aD eE.1)|(have _:Kn 2:=kk;obtain ⟨y0,y1,rfl⟩:=int.aD eE.1)|(have _:Kn 3:=kk;obtain ⟨y0,y1,y2,rfl⟩:=row.aD eE.1)
  have hn:=h.ok.n64
  have htw:M.tw L.n≤M.aR L.n:=by unfold M.aR;omega
  have PM:M.aR L.n≤200:=by unfold M.aR M.tw;omega
  have YJ:=hc 14 _ (by decide) rfl
  first|(have _:Kn 0:=kk;have cg:=hc 19 _ (by decide) rfl)|(have _:Kn 1:=kk;have cg:=hc 19 _ (by decide) rfl)|(have _:Kn 2:=kk;have cg:=hc 19 _ (by decide) rfl)|(have _:Kn 3:=kk;have cg:=hc 21 _ (by decide) rfl)
  have ngD:L.g≠L.gD t:=by obtain ⟨T,q,-⟩:=h.th;exact Row.apart q (h.gd t ht) (by decide)
  obtain ⟨SM,VE⟩:∃ SM,SM=(List.range (M.tw L.n)).map (E.th t).tg:=⟨_,rfl⟩
  have hlen:(ints SM).length=M.tw L.n:=by rw [VE];simp [ints]
  have aFP:=aA (show ∀ j u,(ints SM)[j]?=some u→w.cell? ((⟨L.gG t,0,none⟩:Addr).add j)=some u from fun j u hj=>by
   have hj2:j<M.tw L.n:=by rw [←hlen];exact (List.getElem?_eq_some_iff.1 hj).1
   rw [oJ,Nat.zero_add,(h.gg t ht).cell hj2]
   rw [VE,qI,List.getElem?_map,List.getElem?_range hj2] at hj
   simpa using hj)
  have aFQ:=aA (show ∀ j,j<(ints SM).length→(w.cell? ⟨L.gD t,0+j,none⟩).isSome=true from fun j hj=>by rw [Nat.zero_add,(h.gd t ht).cell (by omega)];rfl)
  have HFZ:=aA (show ∀ j,j<(ints SM).length→w.frozen? ⟨L.gD t,0+j,none⟩=false from fun j _=>(h.gd t ht).frozen _)
  have hdw:(fun i=>if 0≤i∧i<0+SM.length then SM.getD (i-0) 0 else (E.th t).dw i)=fun i=>if i<M.tw L.n then (E.th t).tg i else (E.th t).dw i:=by
   have hl2:SM.length=M.tw L.n:=by simpa [ints] using hlen
   funext i
   rw [hl2]
   by_cases q:i<M.tw L.n
   ·rw [if_pos ⟨Nat.zero_le _,by omega⟩,if_pos q,VE]
    simp [List.getD_eq_getElem?_getD,List.getElem?_range q]
   ·rw [if_neg (by omega),if_neg q]
  obtain ⟨r1,k1⟩:=RE.jM ht SM 0 E w.drew h.drew
  rw [hdw] at r1
  have H1:=aA (aF.of r1 (show Fr L.own w _ from ⟨k1.os,k1.tape,k1.output,k1.size,k1.block⟩) rfl)
  have HH:=aA h
  have HC:=aA (And.intro hv (And.intro hf hp))
  have HTG:=aA VE
  have HLN:=aA hlen
  clear h hc hcv eE hv hf hp r1 k1 hdw VE hlen
  first|(have _:Kn 0:=kk;go_enter Tryz.func143,Tryz.ntmps143)|(have _:Kn 1:=kk;go_enter Tryz.func194,Tryz.ntmps194)|(have _:Kn 2:=kk;go_enter Tryz.func268,Tryz.ntmps268)|(have _:Kn 3:=kk;go_enter Tryz.func231,Tryz.ntmps231)
  go_upto_region 0 with fail
  go_cut [11] (fun _ w'=>aF R L S w {E with th:=aH E.th t {E.th t with dw:=fun i=>if i<M.tw L.n then (E.th t).tg i else (E.th t).dw i}} w')
  case first =>
   first|(have _:Kn 0:=kk;refine fQ (S:=(fun w'=>w'.cell? ⟨L.g,t*28+14,none⟩=some (.slice (some ⟨L.gD t,0,none⟩) (M.aR L.n) (M.aR L.n))∧w'.cell? ⟨L.g,t*28+19,none⟩=some (.slice (some ⟨L.gG t,0,none⟩) (M.tw L.n) (M.tw L.n)))) 10 rfl (by kernel_rfl) ?_ (fun hHeld=>?_))|(have _:Kn 1:=kk;refine fQ (S:=(fun w'=>w'.cell? ⟨L.g,t*28+14,none⟩=some (.slice (some ⟨L.gD t,0,none⟩) (M.aR L.n) (M.aR L.n))∧w'.cell? ⟨L.g,t*28+19,none⟩=some (.slice (some ⟨L.gG t,0,none⟩) (M.tw L.n) (M.tw L.n)))) 10 rfl (by kernel_rfl) ?_ (fun hHeld=>?_))|(have _:Kn 2:=kk;refine fQ (S:=(fun w'=>w'.cell? ⟨L.g,t*28+14,none⟩=some (.slice (some ⟨L.gD t,0,none⟩) (M.aR L.n) (M.aR L.n))∧w'.cell? ⟨L.g,t*28+19,none⟩=some (.slice (some ⟨L.gG t,0,none⟩) (M.tw L.n) (M.tw L.n)))) 10 rfl (by kernel_rfl) ?_ (fun hHeld=>?_))|(have _:Kn 3:=kk;refine fQ (S:=(fun w'=>w'.cell? ⟨L.g,t*30+14,none⟩=some (.slice (some ⟨L.gD t,0,none⟩) (M.aR L.n) (M.aR L.n))∧w'.cell? ⟨L.g,t*30+21,none⟩=some (.slice (some ⟨L.gG t,0,none⟩) (M.tw L.n) (M.tw L.n)))) 10 rfl (by kernel_rfl) ?_ (fun hHeld=>?_))
   ·exact ⟨YJ,cg⟩
   iterate 9 (refine tk 9 (by rfl) (by kernel_rfl) (by exact fun _ _ _ h=>h) (.inl ⟨by rfl,fun w hS=>by (try dsimp only at hS);go_simp;(try with_reducible rfl)⟩) (by assumption) ?_;try go_frame)
   refine bK 9 (by rfl) (by kernel_rfl) (fun K hK=>?_)
   refine EC rfl (.tmp 6) (.tmp 10) 22 22 rfl 3 Tryz.underlying22 (by kernel_rfl) (L.gD t) 0 (M.aR L.n) (M.aR L.n) ⟨L.gG t,0,none⟩ (M.tw L.n) (M.tw L.n) rfl rfl (ints SM) (by rw [HLN.out];exact (Nat.min_eq_left htw).symm) aFP.out aFQ.out HFZ.out (JO SM) ?_
   refine hK.out _ _ ?_ (fun hHeld=>?_)
   ·exact ⟨(World.cell?_setCells_out _ _ _ _ _ (fun q _=>absurd q ngD)).trans hHeld.1,(World.cell?_setCells_out _ _ _ _ _ (fun q _=>absurd q ngD)).trans hHeld.2⟩
   clear hK K
   (try go_frame)
   refine wpAnyH_done (by kernel_rfl) ?_ _
   (try go_wp2_with fail)
   go_meet
   case rel=>exact H1.out
  case rest =>
   have hL:=hcut
   obtain ⟨cv,cf,pv1,hc,hcv,eE,SI,-⟩:=hL.re.cells ht (aC _ _ _)
   have sB:=hcv.2 v HC.out.1
   have hfr:=eE.2 f HC.out.2.1
   obtain ⟨scv,bv,rfl,hrv,hbv⟩:=sB
   obtain ⟨scf,bf,rfl,YN,SL⟩:=hfr
   have lv:=R.len hrv
   have lf:=R.len YN
   first|(have _:Kn 0:=kk;obtain ⟨a0,rfl⟩:=oR lv)|(have _:Kn 1:=kk;obtain ⟨a0,rfl⟩:=oR lv)|(have _:Kn 2:=kk;obtain ⟨a0,rfl⟩:=oR lv)|(have _:Kn 3:=kk;obtain ⟨a0,a1,rfl⟩:=BS lv)
   first|(have _:Kn 0:=kk;obtain ⟨b0,rfl⟩:=oR lf)|(have _:Kn 1:=kk;obtain ⟨b0,rfl⟩:=oR lf)|(have _:Kn 2:=kk;obtain ⟨b0,rfl⟩:=oR lf)|(have _:Kn 3:=kk;obtain ⟨b0,b1,rfl⟩:=BS lf)
   have e13:=hc 13 _ (by decide) rfl
   first|(have _:Kn 0:=kk;have epv:=hc 20 _ (by decide) rfl)|(have _:Kn 1:=kk;have epv:=hc 20 _ (by decide) rfl)|(have _:Kn 2:=kk;have epv:=hc 20 _ (by decide) rfl)|(have _:Kn 3:=kk;have epv:=hc 22 _ (by decide) rfl)
   first|(have _:Kn 0:=kk;have efl:=hc 18 _ (by decide) rfl)|(have _:Kn 1:=kk;have efl:=hc 18 _ (by decide) rfl)|(have _:Kn 2:=kk;have efl:=hc 18 _ (by decide) rfl)|(have _:Kn 3:=kk;have efl:=hc 20 _ (by decide) rfl)
   first|(have _:Kn 0:=kk;have eth:wc.there L.g (t*28+16) 1:=by obtain ⟨T,q,-⟩:=hL.re.th;exact q.there (Nat.lt_of_lt_of_le ht hL.re.ok.gn) (by decide))|(have _:Kn 1:=kk;have eth:wc.there L.g (t*28+16) 1:=by obtain ⟨T,q,-⟩:=hL.re.th;exact q.there (Nat.lt_of_lt_of_le ht hL.re.ok.gn) (by decide))|(have _:Kn 2:=kk;have eth:wc.there L.g (t*28+16) 1:=by obtain ⟨T,q,-⟩:=hL.re.th;exact q.there (Nat.lt_of_lt_of_le ht hL.re.ok.gn) (by decide))|(have _:Kn 3:=kk;have eth:wc.there L.g (t*30+17) 1:=by obtain ⟨T,q,-⟩:=hL.re.th;exact q.there (Nat.lt_of_lt_of_le ht hL.re.ok.gn) (by decide))
   have XZ:(((E.th t).stamp:Int)*129+((E.th t).aQ:Int)) / 129=((E.th t).stamp:Int):=by omega
   obtain ⟨gp,pl,pc,LW,rfl,aC4⟩:∃ gp pl pc,(grown S w wc gp∧¬L.own gp)∧pv1 = .slice (some ⟨gp,0,none⟩) pl pc∧Sl wc (.slice (some ⟨gp,0,none⟩) pl pc) (ints ((E.th t).aI.map Int.ofNat)):=by
    rcases SI with ⟨-,q⟩|⟨gp,pl,pc,q1,q2,q3⟩
    ·exact absurd q HC.out.2.2
    ·exact ⟨gp,pl,pc,q1,q2,by rw [←q2];exact q3⟩
   have hwp:=aA (show IntKind.i64.wrap (((E.th t).stamp:Int)+1)=(((E.th t).stamp+1:Nat):Int) by rw [dR _ (by omega) (by omega)];omega)
   have HP:=aA (And.intro LW aC4)
   have HL:=aA hL
   have HRV:=aA (And.intro hrv (And.intro YN SL))
   first
    |have _:Kn 0:=kk
     have HX:=aA (show ∀ j,j<2*(1+1)→wc.cell? ⟨L.g,t*28+(15+j),none⟩=(([a0]++[.pointer (some ⟨bv,0,none⟩)])++([b0]++[.pointer (some ⟨bf,0,none⟩)]))[j]? from fun j hj=>by
      rcases (by omega:j=0∨j=1∨j=2∨j=3) with q|q|q|q<;>subst q
      all_goals exact hc _ _ (by decide) rfl)
    |have _:Kn 1:=kk
     have HX:=aA (show ∀ j,j<2*(1+1)→wc.cell? ⟨L.g,t*28+(15+j),none⟩=(([a0]++[.pointer (some ⟨bv,0,none⟩)])++([b0]++[.pointer (some ⟨bf,0,none⟩)]))[j]? from fun j hj=>by
      rcases (by omega:j=0∨j=1∨j=2∨j=3) with q|q|q|q<;>subst q
      all_goals exact hc _ _ (by decide) rfl)
    |have _:Kn 2:=kk
     have HX:=aA (show ∀ j,j<2*(1+1)→wc.cell? ⟨L.g,t*28+(15+j),none⟩=(([a0]++[.pointer (some ⟨bv,0,none⟩)])++([b0]++[.pointer (some ⟨bf,0,none⟩)]))[j]? from fun j hj=>by
      rcases (by omega:j=0∨j=1∨j=2∨j=3) with q|q|q|q<;>subst q
      all_goals exact hc _ _ (by decide) rfl)
    |have _:Kn 3:=kk
     have HX:=aA (show ∀ j,j<2*(2+1)→wc.cell? ⟨L.g,t*30+(15+j),none⟩=(([a0,a1]++[.pointer (some ⟨bv,0,none⟩)])++([b0,b1]++[.pointer (some ⟨bf,0,none⟩)]))[j]? from fun j hj=>by
      rcases (by omega:j=0∨j=1∨j=2∨j=3∨j=4∨j=5) with q|q|q|q|q|q<;>subst q
      all_goals exact hc _ _ (by decide) rfl)
   have aC5:L.g<wc.heap.size:=hL.re.lt _ (hL.re.ow _ kE)
   clear hcut hL hc hcv eE SI hrv YN hbv SL LW aC4 YJ cg
   go_upto_region 1 with fail
   first|(have _:Kn 0:=kk;refine fQ (S:=(fun w'=>w'.cell? ⟨L.g,t*28+13,none⟩=some (.int .i64 (((E.th t).stamp:Int)*129+((E.th t).aQ:Int)))∧w'.cell? ⟨L.g,t*28+20,none⟩=some (.slice (some ⟨gp,0,none⟩) pl pc)∧w'.cell? ⟨L.g,t*28+18,none⟩=some (.pointer (some ⟨bf,0,none⟩))∧w'.there (L.g) (t*28+16) 1)) 26 rfl (by kernel_rfl) ?_ (fun hHeld=>?_))|(have _:Kn 1:=kk;refine fQ (S:=(fun w'=>w'.cell? ⟨L.g,t*28+13,none⟩=some (.int .i64 (((E.th t).stamp:Int)*129+((E.th t).aQ:Int)))∧w'.cell? ⟨L.g,t*28+20,none⟩=some (.slice (some ⟨gp,0,none⟩) pl pc)∧w'.cell? ⟨L.g,t*28+18,none⟩=some (.pointer (some ⟨bf,0,none⟩))∧w'.there (L.g) (t*28+16) 1)) 26 rfl (by kernel_rfl) ?_ (fun hHeld=>?_))|(have _:Kn 2:=kk;refine fQ (S:=(fun w'=>w'.cell? ⟨L.g,t*28+13,none⟩=some (.int .i64 (((E.th t).stamp:Int)*129+((E.th t).aQ:Int)))∧w'.cell? ⟨L.g,t*28+20,none⟩=some (.slice (some ⟨gp,0,none⟩) pl pc)∧w'.cell? ⟨L.g,t*28+18,none⟩=some (.pointer (some ⟨bf,0,none⟩))∧w'.there (L.g) (t*28+16) 1)) 26 rfl (by kernel_rfl) ?_ (fun hHeld=>?_))|(have _:Kn 3:=kk;refine fQ (S:=(fun w'=>w'.cell? ⟨L.g,t*30+13,none⟩=some (.int .i64 (((E.th t).stamp:Int)*129+((E.th t).aQ:Int)))∧w'.cell? ⟨L.g,t*30+22,none⟩=some (.slice (some ⟨gp,0,none⟩) pl pc)∧w'.cell? ⟨L.g,t*30+20,none⟩=some (.pointer (some ⟨bf,0,none⟩))∧w'.there (L.g) (t*30+17) 1)) 26 rfl (by kernel_rfl) ?_ (fun hHeld=>?_))
   ·exact ⟨e13,epv,efl,eth⟩
   iterate 5 (refine tk 25 (by rfl) (by kernel_rfl) (by exact fun _ _ _ h=>h) (.inl ⟨by rfl,fun w hS=>by (try dsimp only at hS);go_simp;(try with_reducible rfl)⟩) (by assumption) ?_;try go_frame)
   iterate 11 (refine tk 27 (by rfl) (by kernel_rfl) (by exact fun _ _ _ h=>h) (.inl ⟨by rfl,fun w hS=>by (try dsimp only at hS);go_simp;(try with_reducible rfl)⟩) (by assumption) ?_;try go_frame)
   refine bK 5 (by rfl) (by kernel_rfl) (fun K hK=>?_)
   go_simp
   refine (rC _ _ (by omega) (by omega)).mono ?_
   rintro e w3 ⟨rfl,rfl⟩
   rw [XZ]
   go_wp2_with fail
   refine hK.out _ _ ?_ (fun hHeld=>?_)
   ·exact hHeld
   clear hK K
   (try go_frame)
   iterate 1 (refine tk 14 (by rfl) (by kernel_rfl) (by exact fun _ _ _ h=>h) (.inl ⟨by rfl,fun w hS=>by (try dsimp only at hS);go_simp;(try with_reducible rfl)⟩) (by assumption) ?_;try go_frame)
   iterate 1 (refine tk 25 (by rfl) (by kernel_rfl) (by exact fun _ _ _ h=>h) (.inl ⟨by rfl,fun w hS=>by (try dsimp only at hS);go_simp;(try with_reducible rfl)⟩) (by assumption) ?_;try go_frame)
   refine bK 19 (by rfl) (by kernel_rfl) (fun K hK=>?_)
   go_simp
   refine hK.out _ _ ?_ (fun hHeld=>?_)
   ·exact ⟨cell_later (aB _ _) hHeld.1,cell_later (aB _ _) hHeld.2.1,cell_later (aB _ _) hHeld.2.2.1,aU (aB _ _) hHeld.2.2.2⟩
   clear hK K
   (try go_frame)
   iterate 5 (refine tk 25 (by rfl) (by kernel_rfl) (by exact fun _ _ _ h=>h) (.inl ⟨by rfl,fun w hS=>by (try dsimp only at hS);go_simp;(try with_reducible rfl)⟩) (by assumption) ?_;try go_frame)
   refine bK 25 (by rfl) (by kernel_rfl) (fun K hK=>?_)
   rw [if_pos (by rfl)]
   first|(have _:Kn 0:=kk;refine aP _ _ _ rfl L.g (t*28+16) (.pointer (some ⟨wc.heap.size,0,none⟩)) rfl rfl rfl rfl hHeld.2.2.2 (by kernel_rfl) ?_)|(have _:Kn 1:=kk;refine aP _ _ _ rfl L.g (t*28+16) (.pointer (some ⟨wc.heap.size,0,none⟩)) rfl rfl rfl rfl hHeld.2.2.2 (by kernel_rfl) ?_)|(have _:Kn 2:=kk;refine aP _ _ _ rfl L.g (t*28+16) (.pointer (some ⟨wc.heap.size,0,none⟩)) rfl rfl rfl rfl hHeld.2.2.2 (by kernel_rfl) ?_)|(have _:Kn 3:=kk;refine aP _ _ _ rfl L.g (t*30+17) (.pointer (some ⟨wc.heap.size,0,none⟩)) rfl rfl rfl rfl hHeld.2.2.2 (by kernel_rfl) ?_)
   refine hK.out _ _ ?_ (fun hHeld=>?_)
   ·exact ⟨aJ hHeld.1 (by first|exact .inr (by dsimp only;omega)|exact .inl (by assumption)|exact .inl (Ne.symm (by assumption))),aJ hHeld.2.1 (by first|exact .inr (by dsimp only;omega)|exact .inl (by assumption)|exact .inl (Ne.symm (by assumption))),aJ hHeld.2.2.1 (by first|exact .inr (by dsimp only;omega)|exact .inl (by assumption)|exact .inl (Ne.symm (by assumption))),bM hHeld.2.2.2 _ rfl _⟩
   clear hK K
   (try go_frame)
   refine wpAnyH_done (by kernel_rfl) ?_ _
   clear hHeld
   rw [hwp.out]
   generalize nT:World.drew _=W3
   have cH:Below wc.heap.size wc W3:=by rw [←nT];exact Below.drew (aB _ _)
   have hrow:Row W3 wc.heap.size 204 [.int .i64 (((E.th t).stamp+1:Nat):Int),.slice (some ⟨gp,0,none⟩) pl pc,.pointer (some ⟨bf,0,none⟩)]:=by rw [←nT];exact Row.new wc [_,_,_] _
   have HF:=aA (And.intro cH hrow)
   clear nT cH hrow
   go_wp2
   exact bodyPost_end (v:=.tuple #[]) (by simp [results,Tryz.results143,Tryz.results194,Tryz.results268,Tryz.results231,go_sem]) rfl ⟨rfl,uF ht HL.out HF.out.1 HF.out.2 HP.out.1 HP.out.2 HRV.out.1 HRV.out.2.1 HRV.out.2.2 HX.out HC.out.1 HC.out.2.1⟩
theorem int.wS:gU:=uG.1
theorem list.wS:gU:=uG.2.1
theorem tree.wS:gU:=uG.2.2.1
theorem row.wS:gU:=uG.2.2.2
end Go.Proofs.YtefjhnhdagolhabGreat
