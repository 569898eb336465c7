import Derived.Test.YtefjhnhdagolhaaGreatQ17
import Derived.Test.YtefjhnhdagolhaaGreatQ26
import Derived.Test.YtefjhnhdagolhaaGreatQ27
namespace Go.Proofs.YtefjhnhdagolhaaGreat.tree
open Go.RowKit
open M (upd upd_same upd_other Op Ver ETh ESt wds statusAt valueAt)
attribute [local go_sem ↓] Go.wp_at_zero Go.wp_at_succ
section
variable {σ : Type} {R : SR σ} {L : Lt} {S : Nat → Prop} {E E' : ESt σ} {w : World} {t : Nat}
theorem RE.set_drafts (ht : t < L.n) : ∀ (vs : List Int) (o : Nat) (E : ESt σ) (w : World), RE R L S E w → RE R L S { E with th := upd E.th t { E.th t with dw := fun i => if o ≤ i ∧ i < o + vs.length then vs.getD (i - o) 0 else (E.th t).dw i } } (w.setCells (L.gD t) o (ints vs)) ∧ Fr L.own w (w.setCells (L.gD t) o (ints vs))
  | [], o, E, w, h => by
    refine ⟨h.cast ?_, Fr.refl _ w⟩
    have e : (fun i => if o ≤ i ∧ i < o + ([] : List Int).length then ([] : List Int).getD (i - o) 0 else (E.th t).dw i) = (E.th t).dw := by
      funext i
      rw [if_neg (by simp)]
    rw [e]
    have u : upd E.th t (E.th t) = E.th := by funext k; unfold upd; split <;> simp_all
    rw [u]
  | v :: vs, o, E, w, h => by
    have r1 := h.set_draft t ht o v
    obtain ⟨r2, k2⟩ := RE.set_drafts ht vs (o + 1) _ _ r1
    refine ⟨r2.cast ?_, (Fr.set w (own_gD ht) _).trans k2⟩
    simp only [upd_upd, upd_same]
    congr 2
    have e : (fun i => if o + 1 ≤ i ∧ i < o + 1 + vs.length then vs.getD (i - (o + 1)) 0 else upd (E.th t).dw o v i) = fun i => if o ≤ i ∧ i < o + (v :: vs).length then (v :: vs).getD (i - o) 0 else (E.th t).dw i := by
      funext i
      simp only [List.length_cons]
      by_cases q : i = o
      · subst q
        rw [if_neg (by omega), if_pos (by omega), upd_same]
        simp
      · rw [upd_other _ _ q]
        by_cases q2 : o + 1 ≤ i ∧ i < o + 1 + vs.length
        · rw [if_pos q2, if_pos (by omega), show i - o = (i - (o + 1)) + 1 by omega]
          simp
        · rw [if_neg q2, if_neg (by omega)]
    rw [e]
theorem close_fin (ht : t < L.n) {wc W3 : World} {gp pl pc bv bf : Nat} {a0 b0 : Value} {v f : Ver σ}
    (hL : Left R L S w { E with th := upd E.th t { E.th t with dw := fun i => if i < M.tw L.n then (E.th t).tg i else (E.th t).dw i } } wc) (hb3 : Below wc.heap.size wc W3)
    (hrow : Row W3 wc.heap.size 306 [.int .i64 (((E.th t).stamp + 1 : Nat) : Int), .slice (some ⟨gp, 0, none⟩) pl pc, .pointer (some ⟨bf, 0, none⟩)]) (hIp : grown S w wc gp ∧ ¬ L.own gp) (hsl : Sl wc (.slice (some ⟨gp, 0, none⟩) pl pc) (ints ((E.th t).pend.map Int.ofNat)))
    (hrv : R.rep (fun k => grown S w wc k ∧ ¬ L.own k) wc v.st [a0]) (hrf : R.rep (fun k => grown S w wc k ∧ ¬ L.own k) wc f.st [b0]) (hbf : BRep (fun k => grown S w wc k ∧ ¬ L.own k) wc f.bs.reverse bf)
    (hX : ∀ j, j < 2 * (1 + 1) → wc.cell? ⟨L.g, t * 28 + (15 + j), none⟩ = (([a0] ++ [.pointer (some ⟨bv, 0, none⟩)]) ++ ([b0] ++ [.pointer (some ⟨bf, 0, none⟩)]))[j]?) (hv : (E.th t).now = some v) (hf : (E.th t).frm = some f) :
    Left R L S w { E with th := upd E.th t (ETh.close L.n (E.th t)) } (W3.setCell ⟨L.g, t * 28 + 16, none⟩ (.pointer (some ⟨wc.heap.size, 0, none⟩))) := by
  have hLb := Left.below hL.re hb3
  have hgl : L.g < wc.heap.size := hL.re.lt _ (hL.re.ow _ own_g)
  have hst : ∀ k, (grown S w wc k ∧ ¬ L.own k) → k < wc.heap.size → (grown (grown S w wc) wc W3 k ∧ ¬ L.own k) ∧ W3.heap[k]? = wc.heap[k]? := fun k hk hlt => ⟨⟨.inl hk.1, hk.2⟩, hb3.block k hlt⟩
  have hI : ∀ k, (grown S w wc k ∧ ¬ L.own k) → k < wc.heap.size := fun k hk => hL.re.lt k hk.1
  have vr : VRep R (fun k => grown (grown S w wc) wc W3 k ∧ ¬ L.own k) W3 { v with bs := f.bs ++ [((E.th t).stamp + 1, (E.th t).pend)] } ([a0] ++ [.pointer (some ⟨wc.heap.size, 0, none⟩)]) := by
    refine ⟨[a0], wc.heap.size, rfl, R.stay hst hrv, ?_⟩
    show BRep _ W3 (f.bs ++ [((E.th t).stamp + 1, (E.th t).pend)]).reverse wc.heap.size
    rw [List.reverse_append]
    exact ⟨_, bf, ⟨.inr ⟨Nat.le_refl _, hrow.lt⟩, fun q => by have := hL.re.lt _ (hL.re.ow _ q); omega⟩, hrow, ⟨gp, (hst gp hIp (hI gp hIp)).1, Sl.stay rfl hsl (fun q => (hst gp hIp q).2), _, _, rfl⟩, BRep.stay hst hI _ _ hbf⟩
  have fr : VRep R (fun k => grown (grown S w wc) wc W3 k ∧ ¬ L.own k) W3 f ([b0] ++ [.pointer (some ⟨bf, 0, none⟩)]) := ⟨[b0], bf, rfl, R.stay hst hrf, BRep.stay hst hI _ _ hbf⟩
  obtain ⟨r2, k2⟩ := hLb.re.set_vers ht [.pointer (some ⟨wc.heap.size, 0, none⟩)] 1 (by simp) (by simp) vr fr (fun j hj => by
    by_cases q : j = 1
    · subst q
      rfl
    · rw [if_neg (by simp; omega), hb3.cell (p := ⟨L.g, t * 28 + (15 + j), none⟩) hgl, hX j hj]
      rcases (by omega : j = 0 ∨ j = 1 ∨ j = 2 ∨ j = 3) with q2 | q2 | q2 | q2 <;> subst q2 <;> first | rfl | exact absurd rfl q) (ETh.close L.n (E.th t)) (by
    simp only [upd_same]
    unfold ETh.close
    rw [hv, hf]
    rfl)
  have := hL.next (hLb.next (Left.of r2 k2 rfl))
  refine this.cast ?_
  simp only [upd_upd]
set_option maxRecDepth 20000 in
set_option maxHeartbeats 4000000 in
theorem close_w (h : RE R L S E w) (ht : t < L.n) (hN : (E.th t).stamp ≤ 1000000000) (hr : (E.th t).srec < 129) {v f : Ver σ} (hv : (E.th t).now = some v) (hf : (E.th t).frm = some f) (hp : (E.th t).pend ≠ []) :
    Calls Tryz.prog 356 #[.pointer (some ⟨L.g, t * 28, none⟩)] w fun e w' => e = .returned (.tuple #[]) ∧ Left R L S w { E with th := upd E.th t (ETh.close L.n (E.th t)) } w' := by
  obtain ⟨cv, cf, pv, hc, hcv, hcf, -, -⟩ := h.cells ht rfl
  obtain ⟨x0, x1, rfl⟩ := list_cells hcv.1
  obtain ⟨y0, y1, rfl⟩ := list_cells hcf.1
  have hn := h.ok.n64
  have htw : M.tw L.n ≤ M.wds L.n := by unfold M.wds; omega
  have hwd : M.wds L.n ≤ 200 := by unfold M.wds M.tw; omega
  have c14 := hc 14 _ (by decide) rfl
  have cg := hc 19 _ (by decide) rfl
  have ngD : L.g ≠ L.gD t := by obtain ⟨T, q, -⟩ := h.th; exact Row.apart q (h.gd t ht) (by decide)
  obtain ⟨tgs, htgs⟩ : ∃ tgs, tgs = (List.range (M.tw L.n)).map (E.th t).tg := ⟨_, rfl⟩
  have hlen : (ints tgs).length = M.tw L.n := by rw [htgs]; simp [ints]
  have HSRC := hide (show ∀ j u, (ints tgs)[j]? = some u → w.cell? ((⟨L.gG t, 0, none⟩ : Addr).add j) = some u from fun j u hj => by
    have hj2 : j < M.tw L.n := by rw [← hlen]; exact (List.getElem?_eq_some_iff.1 hj).1
    rw [addr_add, Nat.zero_add, (h.gg t ht).cell hj2]
    rw [htgs, getElem?_ints, List.getElem?_map, List.getElem?_range hj2] at hj
    simpa using hj)
  have HDST := hide (show ∀ j, j < (ints tgs).length → (w.cell? ⟨L.gD t, 0 + j, none⟩).isSome = true from fun j hj => by rw [Nat.zero_add, (h.gd t ht).cell (by omega)]; rfl)
  have HFZ := hide (show ∀ j, j < (ints tgs).length → w.frozen? ⟨L.gD t, 0 + j, none⟩ = false from fun j _ => (h.gd t ht).frozen _)
  have hdw : (fun i => if 0 ≤ i ∧ i < 0 + tgs.length then tgs.getD (i - 0) 0 else (E.th t).dw i) = fun i => if i < M.tw L.n then (E.th t).tg i else (E.th t).dw i := by
    have hl2 : tgs.length = M.tw L.n := by simpa [ints] using hlen
    funext i
    rw [hl2]
    by_cases q : i < M.tw L.n
    · rw [if_pos ⟨Nat.zero_le _, by omega⟩, if_pos q, htgs]
      simp [List.getD_eq_getElem?_getD, List.getElem?_range q]
    · rw [if_neg (by omega), if_neg q]
  obtain ⟨r1, k1⟩ := RE.set_drafts ht tgs 0 E w.drew h.drew
  rw [hdw] at r1
  have H1 := hide (Left.of r1 (show Fr L.own w _ from ⟨k1.os, k1.tape, k1.output, k1.size, k1.block⟩) rfl)
  have HH := hide h
  have HC := hide (And.intro hv (And.intro hf hp))
  have HTG := hide htgs
  have HLN := hide hlen
  clear h hc hcv hcf hv hf hp r1 k1 hdw htgs hlen
  go_enter Tryz.func356, Tryz.ntmps356
  go_upto_region 0 with fail
  go_cut [11] (fun _ w' => Left R L S w { E with th := upd E.th t { E.th t with dw := fun i => if i < M.tw L.n then (E.th t).tg i else (E.th t).dw i } } w')
  case first =>
    refine rg0 (S := (fun w' => w'.cell? ⟨L.g, t * 28 + 14, none⟩ = some (.slice (some ⟨L.gD t, 0, none⟩) (M.wds L.n) (M.wds L.n)) ∧ w'.cell? ⟨L.g, t * 28 + 19, none⟩ = some (.slice (some ⟨L.gG t, 0, none⟩) (M.tw L.n) (M.tw L.n)))) 10 rfl (by kernel_rfl) ?_ (fun hHeld => ?_)
    · exact ⟨c14, cg⟩
    iterate 9 (refine tk 9 (by rfl) (by kernel_rfl) (by exact fun _ _ _ h => h) (.inl ⟨by rfl, fun w hS => by (try dsimp only at hS); go_simp; (try with_reducible rfl)⟩) (by assumption) ?_; try go_frame)
    refine rd1 9 (by rfl) (by kernel_rfl) (fun K hK => ?_)
    refine step_copy_set rfl (.tmp 6) (.tmp 10) 22 22 rfl 3 Tryz.underlying22 (by kernel_rfl) (L.gD t) 0 (M.wds L.n) (M.wds L.n) ⟨L.gG t, 0, none⟩ (M.tw L.n) (M.tw L.n) rfl rfl (ints tgs) (by rw [HLN.out]; exact (Nat.min_eq_left htw).symm) HSRC.out HDST.out HFZ.out (one_ints tgs) ?_
    refine hK.out _ _ ?_ (fun hHeld => ?_)
    · exact ⟨(World.cell?_setCells_out _ _ _ _ _ (fun q _ => absurd q ngD)).trans hHeld.1, (World.cell?_setCells_out _ _ _ _ _ (fun q _ => absurd q ngD)).trans hHeld.2⟩
    clear hK K
    (try go_frame)
    refine wpAnyH_done (by kernel_rfl) ?_ _
    (try go_wp2_with fail)
    go_meet
    case rel => exact H1.out
  case rest =>
    have hL := hcut
    obtain ⟨cv, cf, pv1, hc, hcv, hcf, hpd, -⟩ := hL.re.cells ht (upd_same _ _ _)
    have hvr := hcv.2 v HC.out.1
    have hfr := hcf.2 f HC.out.2.1
    obtain ⟨scv, bv, rfl, hrv, hbv⟩ := hvr
    obtain ⟨scf, bf, rfl, hrf, hbf⟩ := hfr
    have lv := R.len hrv
    have lf := R.len hrf
    obtain ⟨a0, rfl⟩ := list_one lv
    obtain ⟨b0, rfl⟩ := list_one lf
    have e13 := hc 13 _ (by decide) rfl
    have epv := hc 20 _ (by decide) rfl
    have efl := hc 18 _ (by decide) rfl
    have eth : wc.there L.g (t * 28 + 16) 1 := by obtain ⟨T, q, -⟩ := hL.re.th; exact q.there (Nat.lt_of_lt_of_le ht hL.re.ok.gn) (by decide)
    have hq2 : (((E.th t).stamp : Int) * 129 + ((E.th t).srec : Int)) / 129 = ((E.th t).stamp : Int) := by omega
    obtain ⟨gp, pl, pc, hIp, rfl, hslp⟩ : ∃ gp pl pc, (grown S w wc gp ∧ ¬ L.own gp) ∧ pv1 = .slice (some ⟨gp, 0, none⟩) pl pc ∧ Sl wc (.slice (some ⟨gp, 0, none⟩) pl pc) (ints ((E.th t).pend.map Int.ofNat)) := by
      rcases hpd with ⟨-, q⟩ | ⟨gp, pl, pc, q1, q2, q3⟩
      · exact absurd q HC.out.2.2
      · exact ⟨gp, pl, pc, q1, q2, by rw [← q2]; exact q3⟩
    have hwp := hide (show IntKind.i64.wrap (((E.th t).stamp : Int) + 1) = (((E.th t).stamp + 1 : Nat) : Int) by rw [wrapi _ (by omega) (by omega)]; omega)
    have HP := hide (And.intro hIp hslp)
    have HL := hide hL
    have HRV := hide (And.intro hrv (And.intro hrf hbf))
    have HX := hide (show ∀ j, j < 2 * (1 + 1) → wc.cell? ⟨L.g, t * 28 + (15 + j), none⟩ = (([a0] ++ [.pointer (some ⟨bv, 0, none⟩)]) ++ ([b0] ++ [.pointer (some ⟨bf, 0, none⟩)]))[j]? from fun j hj => by
      rcases (by omega : j = 0 ∨ j = 1 ∨ j = 2 ∨ j = 3) with q | q | q | q <;> subst q
      all_goals exact hc _ _ (by decide) rfl)
    have hne1 : L.g < wc.heap.size := hL.re.lt _ (hL.re.ow _ own_g)
    clear hcut hL hc hcv hcf hpd hrv hrf hbv hbf hIp hslp c14 cg
    go_upto_region 1 with fail
    refine rg0 (S := (fun w' => w'.cell? ⟨L.g, t * 28 + 13, none⟩ = some (.int .i64 (((E.th t).stamp : Int) * 129 + ((E.th t).srec : Int))) ∧ w'.cell? ⟨L.g, t * 28 + 20, none⟩ = some (.slice (some ⟨gp, 0, none⟩) pl pc) ∧ w'.cell? ⟨L.g, t * 28 + 18, none⟩ = some (.pointer (some ⟨bf, 0, none⟩)) ∧ w'.there (L.g) (t * 28 + 16) 1)) 26 rfl (by kernel_rfl) ?_ (fun hHeld => ?_)
    · exact ⟨e13, epv, efl, eth⟩
    iterate 5 (refine tk 25 (by rfl) (by kernel_rfl) (by exact fun _ _ _ h => h) (.inl ⟨by rfl, fun w hS => by (try dsimp only at hS); go_simp; (try with_reducible rfl)⟩) (by assumption) ?_; try go_frame)
    iterate 11 (refine tk 27 (by rfl) (by kernel_rfl) (by exact fun _ _ _ h => h) (.inl ⟨by rfl, fun w hS => by (try dsimp only at hS); go_simp; (try with_reducible rfl)⟩) (by assumption) ?_; try go_frame)
    refine rd1 5 (by rfl) (by kernel_rfl) (fun K hK => ?_)
    go_simp
    refine (pubStamp _ _ (by omega) (by omega)).mono ?_
    rintro e w3 ⟨rfl, rfl⟩
    rw [hq2]
    go_wp2_with fail
    refine hK.out _ _ ?_ (fun hHeld => ?_)
    · exact hHeld
    clear hK K
    (try go_frame)
    iterate 1 (refine tk 14 (by rfl) (by kernel_rfl) (by exact fun _ _ _ h => h) (.inl ⟨by rfl, fun w hS => by (try dsimp only at hS); go_simp; (try with_reducible rfl)⟩) (by assumption) ?_; try go_frame)
    iterate 1 (refine tk 25 (by rfl) (by kernel_rfl) (by exact fun _ _ _ h => h) (.inl ⟨by rfl, fun w hS => by (try dsimp only at hS); go_simp; (try with_reducible rfl)⟩) (by assumption) ?_; try go_frame)
    refine rd1 19 (by rfl) (by kernel_rfl) (fun K hK => ?_)
    go_simp
    refine hK.out _ _ ?_ (fun hHeld => ?_)
    · exact ⟨cell_later (below_alloc _ _) hHeld.1, cell_later (below_alloc _ _) hHeld.2.1, cell_later (below_alloc _ _) hHeld.2.2.1, there_later (below_alloc _ _) hHeld.2.2.2⟩
    clear hK K
    (try go_frame)
    iterate 5 (refine tk 25 (by rfl) (by kernel_rfl) (by exact fun _ _ _ h => h) (.inl ⟨by rfl, fun w hS => by (try dsimp only at hS); go_simp; (try with_reducible rfl)⟩) (by assumption) ?_; try go_frame)
    refine rd1 25 (by rfl) (by kernel_rfl) (fun K hK => ?_)
    rw [if_pos (by rfl)]
    refine wp_store_one _ _ _ rfl L.g (t * 28 + 16) (.pointer (some ⟨wc.heap.size, 0, none⟩)) rfl rfl rfl rfl hHeld.2.2.2 (by kernel_rfl) ?_
    refine hK.out _ _ ?_ (fun hHeld => ?_)
    · exact ⟨cell_kept hHeld.1 (by first | exact .inr (by dsimp only; omega) | exact .inl (by assumption) | exact .inl (Ne.symm (by assumption))), cell_kept hHeld.2.1 (by first | exact .inr (by dsimp only; omega) | exact .inl (by assumption) | exact .inl (Ne.symm (by assumption))), cell_kept hHeld.2.2.1 (by first | exact .inr (by dsimp only; omega) | exact .inl (by assumption) | exact .inl (Ne.symm (by assumption))), there_set hHeld.2.2.2 _ rfl _⟩
    clear hK K
    (try go_frame)
    refine wpAnyH_done (by kernel_rfl) ?_ _
    clear hHeld
    rw [hwp.out]
    generalize hW3 : World.drew _ = W3
    have hb3 : Below wc.heap.size wc W3 := by rw [← hW3]; exact Below.drew (below_alloc _ _)
    have hrow : Row W3 wc.heap.size 306 [.int .i64 (((E.th t).stamp + 1 : Nat) : Int), .slice (some ⟨gp, 0, none⟩) pl pc, .pointer (some ⟨bf, 0, none⟩)] := by rw [← hW3]; exact Row.new wc [_, _, _] _
    have HF := hide (And.intro hb3 hrow)
    clear hW3 hb3 hrow
    go_wp2
    exact bodyPost_end (v := .tuple #[]) (by simp [results, Tryz.results356, go_sem]) rfl ⟨rfl, close_fin ht HL.out HF.out.1 HF.out.2 HP.out.1 HP.out.2 HRV.out.1 HRV.out.2.1 HRV.out.2.2 HX.out HC.out.1 HC.out.2.1⟩
end
end Go.Proofs.YtefjhnhdagolhaaGreat.tree
namespace Go.Proofs.YtefjhnhdagolhaaGreat.tree
open Go.RowKit
open M (upd upd_same upd_other Op Ver ETh ESt wds statusAt valueAt)
attribute [local go_sem ↓] Go.wp_at_zero Go.wp_at_succ
section
variable {σ : Type} {R : SR σ} {L : Lt} {S : Nat → Prop} {E E' : ESt σ} {w : World} {t : Nat}
theorem RE.set_heard (h : RE R L S E w) (ht : t < L.n) {j : Nat} (hj : j < 3) (x : Int) : RE R L S { E with th := upd E.th t { E.th t with heard := upd (E.th t).heard j x } } (w.setCell ⟨L.g, t * 28 + 21 + j, none⟩ (.int .i64 x)) := by
  rcases (by omega : j = 0 ∨ j = 1 ∨ j = 2) with q | q | q <;> subst q
  · exact (h.cell1 ht 21 (by decide) (.int .i64 x) { E.th t with heard := upd (E.th t).heard 0 x } rfl rfl rfl rfl rfl (by intros; rfl)).1
  · exact (h.cell1 ht 22 (by decide) (.int .i64 x) { E.th t with heard := upd (E.th t).heard 1 x } rfl rfl rfl rfl rfl (by intros; rfl)).1
  · exact (h.cell1 ht 23 (by decide) (.int .i64 x) { E.th t with heard := upd (E.th t).heard 2 x } rfl rfl rfl rfl rfl (by intros; rfl)).1
def heard1 (E : ESt σ) (t : Nat) : ETh σ := { E.th t with heard := upd (E.th t).heard ((E.th t).past % 3) (E.ann ((E.th t).pend.getD ((E.th t).past / 3) 0) ((E.th t).past % 3)) }
def heard2 (P : M.Plain σ) (n : Nat) (E : ESt σ) (t : Nat) : ETh σ := if (E.th t).past % 3 = 2 then (heard1 E t).apply P n ((E.th t).pend.getD ((E.th t).past / 3) 0) else heard1 E t
def heard3 (P : M.Plain σ) (n : Nat) (E : ESt σ) (t : Nat) : ETh σ := if (E.th t).past + 1 = 3 * (E.th t).pend.length then (heard2 P n E t).close n else heard2 P n E t
theorem apply_same (P : M.Plain σ) (n k : Nat) (e : ETh σ) : (ETh.apply P n e k).past = e.past ∧ (ETh.apply P n e k).pend = e.pend ∧ (ETh.apply P n e k).stamp = e.stamp ∧ (ETh.apply P n e k).srec = e.srec ∧ (ETh.apply P n e k).frm = e.frm ∧ (e.now.isSome → (ETh.apply P n e k).now.isSome) := by
  unfold ETh.apply
  cases hq : e.now with
  | none => exact ⟨rfl, rfl, rfl, rfl, rfl, fun q => by cases q⟩
  | some v => exact ⟨rfl, rfl, rfl, rfl, rfl, fun _ => rfl⟩
theorem heard2_same (P : M.Plain σ) (n : Nat) (E : ESt σ) (t : Nat) : (heard2 P n E t).past = (E.th t).past ∧ (heard2 P n E t).pend = (E.th t).pend ∧ (heard2 P n E t).stamp = (E.th t).stamp ∧ (heard2 P n E t).srec = (E.th t).srec ∧ (heard2 P n E t).frm = (E.th t).frm ∧ ((E.th t).now.isSome → (heard2 P n E t).now.isSome) := by
  unfold heard2
  split
  · exact apply_same P n _ (heard1 E t)
  · exact ⟨rfl, rfl, rfl, rfl, rfl, fun q => q⟩
theorem heard3_past (P : M.Plain σ) (n : Nat) (E : ESt σ) (t : Nat) : (heard3 P n E t).past = (E.th t).past := by
  unfold heard3
  split
  · exact (heard2_same P n E t).1
  · exact (heard2_same P n E t).1
theorem RE.pendc (h : RE R L S E w) (ht : t < L.n) {e : ETh σ} (he : E.th t = e) (hne : e.pend ≠ []) : ∃ gp pc, w.cell? ⟨L.g, t * 28 + 20, none⟩ = some (.slice (some ⟨gp, 0, none⟩) e.pend.length pc) := by
  obtain ⟨cv, cf, pv, hc, hcv, hcf, hpd, -⟩ := h.cells ht he
  obtain ⟨x0, x1, rfl⟩ := list_cells hcv.1
  obtain ⟨y0, y1, rfl⟩ := list_cells hcf.1
  have := hc 20 _ (by decide) rfl
  rcases hpd with ⟨-, q⟩ | ⟨gp, pl, pc, -, q2, q3⟩
  · exact absurd q hne
  · obtain ⟨a, cap, e1, -, -, -⟩ := q3
    rw [q2] at e1
    injection e1 with e5 e6 e7
    have el : pl = e.pend.length := by rw [e6]; simp [ints]
    exact ⟨gp, pc, by rw [this, q2, el]⟩
set_option maxRecDepth 20000 in
set_option maxHeartbeats 4000000 in
theorem help_w {P : M.Plain σ} {fA : Nat} {rv : Value} (hA : ApOk R P L fA rv) (h : RE R L S E w) (ht : t < L.n) (hN : (E.th t).stamp ≤ 1000000000) (hr : (E.th t).srec < 129) {v f : Ver σ} (hv : (E.th t).now = some v) (hf : (E.th t).frm = some f) (hsz : R.sz v.st ≤ 1000000000000)
    (hp : (E.th t).past < 3 * (E.th t).pend.length) (hl : (E.th t).pend.length ≤ 64) (hk : (E.th t).pend.getD ((E.th t).past / 3) 0 < L.n) :
    Calls Tryz.prog 344 #[.pointer (some ⟨L.g, t * 28, none⟩)] w fun e w' => e = .returned (.tuple #[]) ∧ Left R L S w { E with th := upd E.th t ((heard3 P L.n E t).pass (3 * (E.th t).pend.length) 9) } w' := by
  obtain ⟨cv, cf, pv, hc, hcv, hcf, hpd, -⟩ := h.cells ht rfl
  obtain ⟨x0, x1, rfl⟩ := list_cells hcv.1
  obtain ⟨y0, y1, rfl⟩ := list_cells hcf.1
  have hn := h.ok.n64
  have c0 : w.cell? ⟨L.g, t * 28, none⟩ = some (.pointer (some ⟨L.bS, 0, none⟩)) := hc 0 _ (by decide) rfl
  have c4 := hc 4 _ (by decide) rfl
  have cpv := hc 20 _ (by decide) rfl
  have s3 : w.cell? ⟨L.bS, 3, none⟩ = some (.slice (some ⟨L.bAn, 0, none⟩) L.n L.n) := h.sh.cell_of rfl
  have hp0 : (E.th t).pend ≠ [] := by intro q; rw [q] at hp; simp at hp
  obtain ⟨i, hi⟩ : ∃ i, i = (E.th t).past / 3 := ⟨_, rfl⟩
  obtain ⟨j, hj⟩ : ∃ j, j = (E.th t).past % 3 := ⟨_, rfl⟩
  obtain ⟨k, hkk⟩ : ∃ k, k = (E.th t).pend.getD ((E.th t).past / 3) 0 := ⟨_, rfl⟩
  rw [← hkk] at hk
  have hil : i < (E.th t).pend.length := by omega
  have hj3 : j < 3 := by omega
  obtain ⟨gp, pc, rfl, cpk⟩ : ∃ gp pc, pv = .slice (some ⟨gp, 0, none⟩) (E.th t).pend.length pc ∧ w.cell? ⟨gp, i, none⟩ = some (.int .i64 (k : Int)) := by
    rcases hpd with ⟨-, q⟩ | ⟨gp, pl, pc, -, q2, q3⟩
    · exact absurd q hp0
    · obtain ⟨a, cap, e1, -, -, e4⟩ := q3
      rw [q2] at e1
      injection e1 with e5 e6 e7
      have el : pl = (E.th t).pend.length := by rw [e6]; simp [ints]
      refine ⟨gp, pc, by rw [q2, el], ?_⟩
      rcases e4 with e4 | ⟨g', off, e8, e9⟩
      · have : (ints ((E.th t).pend.map Int.ofNat)).length = 0 := by rw [e4]; rfl
        simp [ints] at this
        exact absurd this hp0
      · rw [e8] at e5
        injection e5 with e5
        injection e5 with e10 e11
        subst e10
        subst e11
        have := e9 i (.int .i64 (k : Int)) (by
          rw [getElem?_ints, List.getElem?_map, List.getElem?_eq_getElem hil, hkk, ← hi, List.getD_eq_getElem?_getD, List.getElem?_eq_getElem hil]
          rfl)
        rwa [Nat.zero_add] at this
  have hdiv : ((E.th t).past : Int) / 3 = (i : Int) := by omega
  have hmod : ((E.th t).past : Int) % 3 = (j : Int) := by omega
  have hil' : (i : Int) < ((E.th t).pend.length : Int) := by omega
  have hkn' : (k : Int) < (L.n : Int) := by omega
  have hj3' : (j : Int) < 3 := by omega
  have a0 : w.cell? ⟨L.bAn, k * 3 + j, none⟩ = some (.int .i64 (E.ann k j)) := h.an.cell hk hj3
  have th : w.there L.g (t * 28 + 21 + j) 1 := by obtain ⟨T, q, -⟩ := h.th; have := q.there (Nat.lt_of_lt_of_le ht h.ok.gn) (show 21 + j < 28 by omega); rwa [← Nat.add_assoc] at this
  obtain ⟨nSg, -, nAg, -⟩ := h.th_ne
  have HE := hide (show heard1 E t = { E.th t with heard := upd (E.th t).heard j (E.ann k j) } by unfold heard1; rw [← hi, ← hj] at *; rw [hkk, ← hi])
  have HH := hide h
  have HC := hide (And.intro hv (And.intro hf hp0))
  have HI := hide (And.intro hi (And.intro hj hkk))
  clear h hc hcv hcf hpd hv hf hp0 hi hj hkk
  go_enter Tryz.func344, Tryz.ntmps344
  go_upto_region 0 with fail
  go_quiet (fail)
  rw [hmod]
  generalize hW0 : World.drewN w nq = W0
  obtain ⟨d0, d3, da, dth, r0, k0, d4, dpv⟩ : W0.cell? ⟨L.g, t * 28, none⟩ = some (.pointer (some ⟨L.bS, 0, none⟩)) ∧ W0.cell? ⟨L.bS, 3, none⟩ = some (.slice (some ⟨L.bAn, 0, none⟩) L.n L.n) ∧ W0.cell? ⟨L.bAn, k * 3 + j, none⟩ = some (.int .i64 (E.ann k j)) ∧ W0.there L.g (t * 28 + 21 + j) 1 ∧ RE R L S E W0 ∧ Fr L.own w W0 ∧ W0.cell? ⟨L.g, t * 28 + 4, none⟩ = some (.int .i64 ((E.th t).past : Int)) ∧ W0.cell? ⟨L.g, t * 28 + 20, none⟩ = some (.slice (some ⟨gp, 0, none⟩) (E.th t).pend.length pc) := by
    rw [← hW0]
    exact ⟨c0, s3, a0, th, HH.out.drewN nq, (Fr.refl _ w).drewN nq, c4, cpv⟩
  have H1 := hide (r0.drew.set_heard ht hj3 (E.ann k j))
  have K0 := hide k0
  clear hW0 r0 k0 c0 s3 a0 th c4 cpv cpk hdiv hmod hil hil'
  go_upto_region 1 with fail
  refine rg0 (S := (fun w' => w'.cell? ⟨L.g, t * 28, none⟩ = some (.pointer (some ⟨L.bS, 0, none⟩)) ∧ w'.cell? ⟨L.g, t * 28 + 4, none⟩ = some (.int .i64 ((E.th t).past : Int)) ∧ w'.cell? ⟨L.g, t * 28 + 20, none⟩ = some (.slice (some ⟨gp, 0, none⟩) (E.th t).pend.length pc) ∧ w'.cell? ⟨L.bS, 3, none⟩ = some (.slice (some ⟨L.bAn, 0, none⟩) L.n L.n) ∧ w'.cell? ⟨L.bAn, k * 3 + j, none⟩ = some (.int .i64 (E.ann k j)) ∧ w'.there (L.g) (t * 28 + 21 + j) 1)) 18 rfl (by kernel_rfl) ?_ (fun hHeld => ?_)
  · exact ⟨d0, d4, dpv, d3, da, dth⟩
  iterate 13 (refine tk 17 (by rfl) (by kernel_rfl) (by exact fun _ _ _ h => h) (.inl ⟨by rfl, fun w hS => by (try dsimp only at hS); go_simp; (try with_reducible rfl)⟩) (by assumption) ?_; try go_frame)
  iterate 2 (refine tk 18 (by rfl) (by kernel_rfl) (by exact fun _ _ _ h => h) (.inl ⟨by rfl, fun w hS => by (try dsimp only at hS); go_simp; (try with_reducible rfl)⟩) (by assumption) ?_; try go_frame)
  refine rd1 13 (by rfl) (by kernel_rfl) (fun K hK => ?_)
  go_simp
  refine (wordRead L.bAn (k * 3 + j) _ _ hHeld.2.2.2.2.1).mono ?_
  rintro e w3 ⟨rfl, rfl⟩
  go_wp2_with fail
  refine hK.out _ _ ?_ (fun hHeld => ?_)
  · exact hHeld
  clear hK K
  (try go_frame)
  iterate 1 (refine tk 17 (by rfl) (by kernel_rfl) (by exact fun _ _ _ h => h) (.inl ⟨by rfl, fun w hS => by (try dsimp only at hS); go_simp; (try with_reducible rfl)⟩) (by assumption) ?_; try go_frame)
  refine rd1 17 (by rfl) (by kernel_rfl) (fun K hK => ?_)
  rw [if_pos (by rfl)]
  refine wp_store_one _ _ _ rfl L.g (t * 28 + 21 + j) (.int .i64 (E.ann k j)) rfl rfl rfl rfl hHeld.2.2.2.2.2 (by kernel_rfl) ?_
  refine hK.out _ _ ?_ (fun hHeld => ?_)
  · exact ⟨cell_kept hHeld.1 (by first | exact .inr (by dsimp only; omega) | exact .inl (by assumption) | exact .inl (Ne.symm (by assumption))), cell_kept hHeld.2.1 (by first | exact .inr (by dsimp only; omega) | exact .inl (by assumption) | exact .inl (Ne.symm (by assumption))), cell_kept hHeld.2.2.1 (by first | exact .inr (by dsimp only; omega) | exact .inl (by assumption) | exact .inl (Ne.symm (by assumption))), cell_kept hHeld.2.2.2.1 (by first | exact .inr (by dsimp only; omega) | exact .inl (by assumption) | exact .inl (Ne.symm (by assumption))), cell_kept hHeld.2.2.2.2.1 (by first | exact .inr (by dsimp only; omega) | exact .inl (by assumption) | exact .inl (Ne.symm (by assumption))), there_set hHeld.2.2.2.2.2 _ rfl _⟩
  clear hK K
  (try go_frame)
  refine wpAnyH_done (by kernel_rfl) ?_ _
  have f4 := hHeld.2.1
  have fpv := hHeld.2.2.1
  clear hHeld
  generalize hW2 : World.setCell _ _ _ = W2
  have hL2 : Left R L S w { E with th := upd E.th t (heard1 E t) } W2 := by
    rw [← hW2, HE.out]
    exact Left.of H1.out (K0.out.drew.trans (Fr.set _ own_g _)) rfl
  have g4 : W2.cell? ⟨L.g, t * 28 + 4, none⟩ = some (.int .i64 ((E.th t).past : Int)) := by rw [← hW2]; exact f4
  have gpv : W2.cell? ⟨L.g, t * 28 + 20, none⟩ = some (.slice (some ⟨gp, 0, none⟩) (E.th t).pend.length pc) := by rw [← hW2]; exact fpv
  have HL2 := hide hL2
  clear hW2 hL2 f4 fpv d0 d3 da dth d4 dpv
  by_cases hj2 : j = 2
  · have q1 : (2 : Int) ≤ (j : Int) := by omega
    have q2 : (j : Int) ≤ 2 := by omega
    have HJ := hide (show heard2 P L.n E t = ETh.apply P L.n (heard1 E t) k by unfold heard2; rw [if_pos (by rw [← HI.out.2.1]; exact hj2), ← HI.out.2.2])
    clear hj2
    go_wp2_with fail
    refine (apply_w hA HL2.out.re ht hk (v := v) (f := f) (by simp only [upd_same]; exact HC.out.1) (by simp only [upd_same]; exact HC.out.2.1) hsz).mono ?_
    rintro e w3 ⟨rfl, L3⟩
    have HL3 := hide (show Left R L S w { E with th := upd E.th t (heard2 P L.n E t) } w3 from (HL2.out.next L3).cast (by rw [HJ.out]; simp only [upd_upd, upd_same]))
    clear L3
    obtain ⟨y1, y2, y3, y4, y5, y6⟩ := heard2_same P L.n E t
    obtain ⟨cv7, cf7, pv7, hc7, -, -, -, -⟩ := HL3.out.re.cells ht (upd_same _ _ _)
    have z4 := hc7 4 _ (by decide) rfl
    rw [y1] at z4
    obtain ⟨gp7, pc7, zpv⟩ := HL3.out.re.pendc ht (upd_same _ _ _) (by rw [y2]; exact HC.out.2.2)
    rw [y2] at zpv
    have HY := hide (And.intro y1 (And.intro y2 (And.intro y3 (And.intro y4 (And.intro y5 y6)))))
    clear hc7 y1 y2 y3 y4 y5 y6 g4 gpv
    by_cases hlast : (E.th t).past + 1 = 3 * (E.th t).pend.length
    · have l1 : ((E.th t).past : Int) ≤ 3 * ((E.th t).pend.length : Int) - 1 := by omega
      have l2 : 3 * ((E.th t).pend.length : Int) - 1 ≤ ((E.th t).past : Int) := by omega
      have HLA := hide (show heard3 P L.n E t = (heard2 P L.n E t).close L.n by unfold heard3; rw [if_pos hlast])
      clear hlast
      obtain ⟨v7, hv7⟩ := Option.isSome_iff_exists.1 (HY.out.2.2.2.2.2 (by rw [HC.out.1]; rfl))
      have HV7 := hide hv7
      clear hv7
      go_wp2_with fail
      refine (close_w HL3.out.re ht (by simp only [upd_same]; rw [HY.out.2.2.1]; exact hN) (by simp only [upd_same]; rw [HY.out.2.2.2.1]; exact hr) (v := v7) (f := f) (by simp only [upd_same]; exact HV7.out) (by simp only [upd_same]; rw [HY.out.2.2.2.2.1]; exact HC.out.2.1) (by simp only [upd_same]; rw [HY.out.2.1]; exact HC.out.2.2)).mono ?_
      rintro e w5 ⟨rfl, L5⟩
      have HL5 := hide (show Left R L S w { E with th := upd E.th t (heard3 P L.n E t) } w5 from (HL3.out.next L5).cast (by rw [HLA.out]; simp only [upd_upd, upd_same]))
      have hps := pass_w HL5.out.re ht (3 * (E.th t).pend.length) 9 (by omega) (by simp only [upd_same]; rw [heard3_past]; omega)
      rw [show ((3 * (E.th t).pend.length : Nat) : Int) = 3 * ((E.th t).pend.length : Int) by omega] at hps
      have HPS := hide hps
      clear hps L5
      go_wp2_with fail
      refine HPS.out.mono ?_
      rintro e w6 ⟨rfl, r6, k6⟩
      have HR := hide (And.intro r6 k6)
      clear r6 k6
      go_wp2
      refine bodyPost_end (v := .tuple #[]) (by simp [results, Tryz.results344, go_sem]) rfl ⟨rfl, HL5.out.next (Left.of (HR.out.1.cast ?_) HR.out.2 rfl)⟩
      simp only [upd_upd, upd_same]
    · have l1 : ¬ ((E.th t).past : Int) = 3 * ((E.th t).pend.length : Int) - 1 := by omega
      have HLA := hide (show heard3 P L.n E t = heard2 P L.n E t by unfold heard3; rw [if_neg hlast])
      clear hlast
      have HL5 := hide (show Left R L S w { E with th := upd E.th t (heard3 P L.n E t) } w3 from HL3.out.cast (by rw [HLA.out]))
      have hps := pass_w HL5.out.re ht (3 * (E.th t).pend.length) 9 (by omega) (by simp only [upd_same]; rw [heard3_past]; omega)
      rw [show ((3 * (E.th t).pend.length : Nat) : Int) = 3 * ((E.th t).pend.length : Int) by omega] at hps
      have HPS := hide hps
      clear hps
      go_wp2_with fail
      refine HPS.out.mono ?_
      rintro e w6 ⟨rfl, r6, k6⟩
      have HR := hide (And.intro r6 k6)
      clear r6 k6
      go_wp2
      refine bodyPost_end (v := .tuple #[]) (by simp [results, Tryz.results344, go_sem]) rfl ⟨rfl, HL5.out.next (Left.of (HR.out.1.cast ?_) HR.out.2 rfl)⟩
      simp only [upd_upd, upd_same]
  · have q1 : ¬ (j : Int) = 2 := by omega
    have HJ := hide (show heard2 P L.n E t = heard1 E t by unfold heard2; rw [if_neg (by rw [← HI.out.2.1]; exact hj2)])
    clear hj2
    have HL3 := hide (show Left R L S w { E with th := upd E.th t (heard2 P L.n E t) } W2 from HL2.out.cast (by rw [HJ.out]))
    obtain ⟨y1, y2, y3, y4, y5, y6⟩ := heard2_same P L.n E t
    obtain ⟨cv7, cf7, pv7, hc7, -, -, -, -⟩ := HL3.out.re.cells ht (upd_same _ _ _)
    have z4 := hc7 4 _ (by decide) rfl
    rw [y1] at z4
    obtain ⟨gp7, pc7, zpv⟩ := HL3.out.re.pendc ht (upd_same _ _ _) (by rw [y2]; exact HC.out.2.2)
    rw [y2] at zpv
    have HY := hide (And.intro y1 (And.intro y2 (And.intro y3 (And.intro y4 (And.intro y5 y6)))))
    clear hc7 y1 y2 y3 y4 y5 y6 g4 gpv
    by_cases hlast : (E.th t).past + 1 = 3 * (E.th t).pend.length
    · have l1 : ((E.th t).past : Int) ≤ 3 * ((E.th t).pend.length : Int) - 1 := by omega
      have l2 : 3 * ((E.th t).pend.length : Int) - 1 ≤ ((E.th t).past : Int) := by omega
      have HLA := hide (show heard3 P L.n E t = (heard2 P L.n E t).close L.n by unfold heard3; rw [if_pos hlast])
      clear hlast
      obtain ⟨v7, hv7⟩ := Option.isSome_iff_exists.1 (HY.out.2.2.2.2.2 (by rw [HC.out.1]; rfl))
      have HV7 := hide hv7
      clear hv7
      go_wp2_with fail
      refine (close_w HL3.out.re ht (by simp only [upd_same]; rw [HY.out.2.2.1]; exact hN) (by simp only [upd_same]; rw [HY.out.2.2.2.1]; exact hr) (v := v7) (f := f) (by simp only [upd_same]; exact HV7.out) (by simp only [upd_same]; rw [HY.out.2.2.2.2.1]; exact HC.out.2.1) (by simp only [upd_same]; rw [HY.out.2.1]; exact HC.out.2.2)).mono ?_
      rintro e w5 ⟨rfl, L5⟩
      have HL5 := hide (show Left R L S w { E with th := upd E.th t (heard3 P L.n E t) } w5 from (HL3.out.next L5).cast (by rw [HLA.out]; simp only [upd_upd, upd_same]))
      have hps := pass_w HL5.out.re ht (3 * (E.th t).pend.length) 9 (by omega) (by simp only [upd_same]; rw [heard3_past]; omega)
      rw [show ((3 * (E.th t).pend.length : Nat) : Int) = 3 * ((E.th t).pend.length : Int) by omega] at hps
      have HPS := hide hps
      clear hps L5
      go_wp2_with fail
      refine HPS.out.mono ?_
      rintro e w6 ⟨rfl, r6, k6⟩
      have HR := hide (And.intro r6 k6)
      clear r6 k6
      go_wp2
      refine bodyPost_end (v := .tuple #[]) (by simp [results, Tryz.results344, go_sem]) rfl ⟨rfl, HL5.out.next (Left.of (HR.out.1.cast ?_) HR.out.2 rfl)⟩
      simp only [upd_upd, upd_same]
    · have l1 : ¬ ((E.th t).past : Int) = 3 * ((E.th t).pend.length : Int) - 1 := by omega
      have HLA := hide (show heard3 P L.n E t = heard2 P L.n E t by unfold heard3; rw [if_neg hlast])
      clear hlast
      have HL5 := hide (show Left R L S w { E with th := upd E.th t (heard3 P L.n E t) } W2 from HL3.out.cast (by rw [HLA.out]))
      have hps := pass_w HL5.out.re ht (3 * (E.th t).pend.length) 9 (by omega) (by simp only [upd_same]; rw [heard3_past]; omega)
      rw [show ((3 * (E.th t).pend.length : Nat) : Int) = 3 * ((E.th t).pend.length : Int) by omega] at hps
      have HPS := hide hps
      clear hps
      go_wp2_with fail
      refine HPS.out.mono ?_
      rintro e w6 ⟨rfl, r6, k6⟩
      have HR := hide (And.intro r6 k6)
      clear r6 k6
      go_wp2
      refine bodyPost_end (v := .tuple #[]) (by simp [results, Tryz.results344, go_sem]) rfl ⟨rfl, HL5.out.next (Left.of (HR.out.1.cast ?_) HR.out.2 rfl)⟩
      simp only [upd_upd, upd_same]
end
end Go.Proofs.YtefjhnhdagolhaaGreat.tree
