import Derived.Test.YtefjhnhdagolhaaGreatQ02
import Derived.Test.YtefjhnhdagolhaaGreatQ00
import Derived.Deep.DeepAppendRoom
import Derived.Test.YtefjhnhdagolhaaGreatProg
import Derived.Laws.LoneSync
namespace Go.Proofs.YtefjhnhdagolhaaGreat
open Go.RowKit
attribute [local go_sem ↓] Go.wp_at_zero Go.wp_at_succ
theorem owns_later {w w' : World} {base : Nat} {e : TypeId} {size : Nat} {v : Value} {n : Nat} {xs : List Value} (h : w.ownsRow base e size v n xs) (hb : Below w.heap.size w w') : w'.ownsRow base e size v n xs :=
  h.kept (row := none) ⟨hb.os, hb.tape, hb.output, hb.size, fun k hk _ => hb.block k hk⟩ (by cases v.ownBlock <;> simp)
theorem owns_base {w : World} {base base' : Nat} {e : TypeId} {size : Nat} {v : Value} {n : Nat} {xs : List Value} (h : w.ownsRow base e size v n xs) (hb : base' ≤ base) : w.ownsRow base' e size v n xs := by
  obtain ⟨h1, h2⟩ := h
  refine ⟨h1, ?_⟩
  rcases h2 with h2 | ⟨g, cap, cur, hv, hg, r⟩
  · exact .inl h2
  · exact .inr ⟨g, cap, cur, hv, Nat.le_trans hb hg, r⟩
set_option maxRecDepth 20000 in
set_option maxHeartbeats 2000000 in
theorem newTable_any (st co : Int) (nx ou : List Int) (vn vo : Value) (w : World) (hn : Sl w vn (ints nx)) (ho : Sl w vo (ints ou)) (n1 : nx.length ≤ 1048576) (n2 : 0 < nx.length) (n3 : ou.length ≤ 1048576) (n4 : 0 < ou.length) :
    Calls Tryz.prog 81 #[.agg #[.int .i64 st, .int .i64 co, vn, vo]] w fun e w' => ∃ g1 k1 g2 k2, e = .returned (.agg #[.int .i64 st, .int .i64 co, .slice (some ⟨g1, 0, none⟩) nx.length k1, .slice (some ⟨g2, 0, none⟩) ou.length k2]) ∧ w'.ownsRow w.heap.size 3 1 (.slice (some ⟨g1, 0, none⟩) nx.length k1) nx.length (ints nx) ∧ w'.ownsRow w.heap.size 3 1 (.slice (some ⟨g2, 0, none⟩) ou.length k2) ou.length (ints ou) ∧ Below w.heap.size w w' := by
  have hsz : (Tryz.prog.info? 22).map (·.size) = some 1 := by kernel_rfl
  have HN := hide hn
  have HO := hide ho
  obtain ⟨a1, c1, e1, -⟩ := hn.open_ints
  obtain ⟨a2, c2, e2, -⟩ := ho.open_ints
  clear hn ho
  subst e1
  subst e2
  go_enter Tryz.func81, Tryz.ntmps81
  go_wp2
  generalize hW0 : World.alloc (World.alloc w _) _ = W0
  have hb0 : Below w.heap.size w W0 := by rw [← hW0]; exact ((Below.refl _ _).alloc (Nat.le_refl _) _).alloc (by simp) _
  have hs0 : W0.heap.size = w.heap.size + 2 := by rw [← hW0]; simp
  have hN : Row W0 w.heap.size 24 [.int .i64 st, .int .i64 co, .slice a1 nx.length c1, .slice a2 ou.length c2] := by rw [← hW0]; exact (Row.new' rfl).alloc _
  have hR : Row W0 (w.heap.size + 1) 152 [.int .i64 0, .int .i64 0, .slice none 0 0, .slice none 0 0] := by rw [← hW0]; exact Row.new' (by simp)
  have HB0 := hide hb0
  have HRN := hide hN
  have HRR := hide hR
  have hth : W0.there w.heap.size 2 2 := hN.there (by simp)
  clear hW0 hb0 hN hR
  refine rg0 (S := (fun w' => w'.there w.heap.size 2 2)) 10 rfl (by kernel_rfl) ?_ (fun hHeld => ?_)
  · exact hth
  iterate 1 (refine tk 9 (by rfl) (by kernel_rfl) (by exact fun _ _ _ h => h) (.inl ⟨by rfl, fun w hS => by (try dsimp only at hS); go_simp; (try with_reducible rfl)⟩) (by assumption) ?_; try go_frame)
  iterate 1 (refine tk 11 (by rfl) (by kernel_rfl) (by exact fun _ _ _ h => h) (.inl ⟨by rfl, fun w hS => by (try dsimp only at hS); go_simp; (try with_reducible rfl)⟩) (by assumption) ?_; try go_frame)
  refine wpAnyH_ready (rs := [1, 4]) (by kernel_rfl) (by simp) (rc (by rfl) (fun K hK => ?_) (rc (by rfl) (fun K hK => ?_) AllReadyH.nil))
  · rw [if_pos (by rfl)]
    refine wp_load_one _ _ rfl _ _ (.slice a1 nx.length c1) rfl (by kernel_rfl) (by first | exact HRN.out.cell_of rfl | exact cell_later hb2 (HRN.out.cell_of rfl) | exact cell_later hb5 (HRN.out.cell_of rfl)) ?_
    refine hK.out _ _ ?_ (fun hHeld => ?_)
    · exact hHeld
    clear hK K
    (try go_frame)
    refine wpAnyH_ready (rs := [2, 4]) (by kernel_rfl) (by simp) (rc (by rfl) (fun K hK => ?_) (rc (by rfl) (fun K hK => ?_) AllReadyH.nil))
    · go_simp
      refine (clone_any nx _ _ (by first | exact HN.out.below HB0.out.drew | exact (HN.out.below HB0.out.drew).below hb5) n1 n2).mono ?_
      rintro e w2 ⟨g2, k2, rfl, ho2, hb2⟩
      have HO2 := hide ho2
      clear ho2
      go_wp2_with fail
      refine hK.out _ _ ?_ (fun hHeld => ?_)
      · exact there_later (by assumption) hHeld
      clear hK K
      (try go_frame)
      refine rd1 4 (by rfl) (by kernel_rfl) (fun K hK => ?_)
      rw [if_pos (by rfl)]
      refine wp_load_one _ _ rfl _ _ (.slice a2 ou.length c2) rfl (by kernel_rfl) (by first | exact HRN.out.cell_of rfl | exact cell_later hb2 (HRN.out.cell_of rfl) | exact cell_later hb5 (HRN.out.cell_of rfl)) ?_
      refine hK.out _ _ ?_ (fun hHeld => ?_)
      · exact hHeld
      clear hK K
      (try go_frame)
      iterate 1 (refine tk 10 (by rfl) (by kernel_rfl) (by exact fun _ _ _ h => h) (.inl ⟨by rfl, fun w hS => by (try dsimp only at hS); go_simp; (try with_reducible rfl)⟩) (by assumption) ?_; try go_frame)
      refine rd1 5 (by rfl) (by kernel_rfl) (fun K hK => ?_)
      go_simp
      refine (clone_any ou _ _ (by first | exact HO.out.below HB0.out.drew | exact (HO.out.below HB0.out.drew).below hb2) n3 n4).mono ?_
      rintro e w5 ⟨g5, k5, rfl, ho5, hb5⟩
      have HO5 := hide ho5
      clear ho5
      go_wp2_with fail
      refine hK.out _ _ ?_ (fun hHeld => ?_)
      · exact there_later (by assumption) hHeld
      clear hK K
      (try go_frame)
      refine rd1 7 (by rfl) (by kernel_rfl) (fun K hK => ?_)
      rw [if_pos (by rfl)]
      refine wp_store_one _ _ _ rfl w.heap.size 2 (.slice (some ⟨g2, 0, none⟩) nx.length k2) rfl rfl rfl rfl (fun j hj => hHeld j (by omega)) hsz ?_
      refine hK.out _ _ ?_ (fun hHeld => ?_)
      · exact there_set hHeld _ rfl _
      clear hK K
      (try go_frame)
      iterate 1 (refine tk 9 (by rfl) (by kernel_rfl) (by exact fun _ _ _ h => h) (.inl ⟨by rfl, fun w hS => by (try dsimp only at hS); go_simp; (try with_reducible rfl)⟩) (by assumption) ?_; try go_frame)
      refine rd1 9 (by rfl) (by kernel_rfl) (fun K hK => ?_)
      rw [if_pos (by rfl)]
      refine wp_store_one _ _ _ rfl w.heap.size 3 (.slice (some ⟨g5, 0, none⟩) ou.length k5) rfl rfl rfl rfl (fun j hj => by have := hHeld (j + 1) (by omega); rwa [show 2 + (j + 1) = 3 + j from by omega] at this) hsz ?_
      refine hK.out _ _ ?_ (fun hHeld => ?_)
      · exact there_set hHeld _ rfl _
      clear hK K
      (try go_frame)
      refine wpAnyH_done (by kernel_rfl) ?_ _
      have hB5 : Below W0.heap.size W0 w5 := Below.next (Below.undrew hb2) hb5 (Below.undrew hb2).size
      have q0 : w5.cell? ⟨w.heap.size, 0, none⟩ = some (.int .i64 st) := cell_later hB5 (HRN.out.cell_of rfl)
      have q1 : w5.cell? ⟨w.heap.size, 1, none⟩ = some (.int .i64 co) := cell_later hB5 (HRN.out.cell_of rfl)
      have q2 : w5.cell? ⟨w.heap.size, 2, none⟩ = some (.slice a1 nx.length c1) := cell_later hB5 (HRN.out.cell_of rfl)
      have q3 : w5.cell? ⟨w.heap.size, 3, none⟩ = some (.slice a2 ou.length c2) := cell_later hB5 (HRN.out.cell_of rfl)
      have r0 : w5.cell? ⟨w.heap.size + 1, 0, none⟩ = some (.int .i64 0) := cell_later hB5 (HRR.out.cell_of rfl)
      have r1 : w5.cell? ⟨w.heap.size + 1, 1, none⟩ = some (.int .i64 0) := cell_later hB5 (HRR.out.cell_of rfl)
      have r2 : w5.cell? ⟨w.heap.size + 1, 2, none⟩ = some (.slice none 0 0) := cell_later hB5 (HRR.out.cell_of rfl)
      have r3 : w5.cell? ⟨w.heap.size + 1, 3, none⟩ = some (.slice none 0 0) := cell_later hB5 (HRR.out.cell_of rfl)
      have rf := (HRR.out.old hB5).frozen
      have hz2 : W0.heap.size ≤ w2.heap.size := (Below.undrew hb2).size
      have o2 := hide (owns_later HO2.out hb5)
      have o5 := hide (owns_base HO5.out hz2)
      have HB5 := hide hB5
      clear hB5 hb2 hb5
      (try go_wp2_with fail)
      refine bodyPost_ret (v := .agg #[.int .i64 st, .int .i64 co, .slice (some ⟨g2, 0, none⟩) nx.length k2, .slice (some ⟨g5, 0, none⟩) ou.length k5]) (by simp [results, Tryz.results81, go_sem, r0, r1, r2, r3]) rfl ⟨g2, k2, g5, k5, rfl, ?_, ?_, ?_⟩
      · refine owns_base (base := W0.heap.size) ?_ (by omega)
        repeat (refine ownsRow_setCell_below ?_ (by simp; omega) _)
        exact o2.out
      · refine owns_base (base := W0.heap.size) ?_ (by omega)
        repeat (refine ownsRow_setCell_below ?_ (by simp; omega) _)
        exact o5.out
      · repeat (refine Below.setCell ?_ (by simp) _)
        exact Below.next HB0.out HB5.out HB0.out.size
    · rw [if_pos (by rfl)]
      refine wp_load_one _ _ rfl _ _ (.slice a2 ou.length c2) rfl (by kernel_rfl) (by first | exact HRN.out.cell_of rfl | exact cell_later hb2 (HRN.out.cell_of rfl) | exact cell_later hb5 (HRN.out.cell_of rfl)) ?_
      refine hK.out _ _ ?_ (fun hHeld => ?_)
      · exact hHeld
      clear hK K
      (try go_frame)
      refine rd1 2 (by rfl) (by kernel_rfl) (fun K hK => ?_)
      go_simp
      refine (clone_any nx _ _ (by first | exact HN.out.below HB0.out.drew | exact (HN.out.below HB0.out.drew).below hb5) n1 n2).mono ?_
      rintro e w2 ⟨g2, k2, rfl, ho2, hb2⟩
      have HO2 := hide ho2
      clear ho2
      go_wp2_with fail
      refine hK.out _ _ ?_ (fun hHeld => ?_)
      · exact there_later (by assumption) hHeld
      clear hK K
      (try go_frame)
      iterate 1 (refine tk 10 (by rfl) (by kernel_rfl) (by exact fun _ _ _ h => h) (.inl ⟨by rfl, fun w hS => by (try dsimp only at hS); go_simp; (try with_reducible rfl)⟩) (by assumption) ?_; try go_frame)
      refine rd1 5 (by rfl) (by kernel_rfl) (fun K hK => ?_)
      go_simp
      refine (clone_any ou _ _ (by first | exact HO.out.below HB0.out.drew | exact (HO.out.below HB0.out.drew).below hb2) n3 n4).mono ?_
      rintro e w5 ⟨g5, k5, rfl, ho5, hb5⟩
      have HO5 := hide ho5
      clear ho5
      go_wp2_with fail
      refine hK.out _ _ ?_ (fun hHeld => ?_)
      · exact there_later (by assumption) hHeld
      clear hK K
      (try go_frame)
      refine rd1 7 (by rfl) (by kernel_rfl) (fun K hK => ?_)
      rw [if_pos (by rfl)]
      refine wp_store_one _ _ _ rfl w.heap.size 2 (.slice (some ⟨g2, 0, none⟩) nx.length k2) rfl rfl rfl rfl (fun j hj => hHeld j (by omega)) hsz ?_
      refine hK.out _ _ ?_ (fun hHeld => ?_)
      · exact there_set hHeld _ rfl _
      clear hK K
      (try go_frame)
      iterate 1 (refine tk 9 (by rfl) (by kernel_rfl) (by exact fun _ _ _ h => h) (.inl ⟨by rfl, fun w hS => by (try dsimp only at hS); go_simp; (try with_reducible rfl)⟩) (by assumption) ?_; try go_frame)
      refine rd1 9 (by rfl) (by kernel_rfl) (fun K hK => ?_)
      rw [if_pos (by rfl)]
      refine wp_store_one _ _ _ rfl w.heap.size 3 (.slice (some ⟨g5, 0, none⟩) ou.length k5) rfl rfl rfl rfl (fun j hj => by have := hHeld (j + 1) (by omega); rwa [show 2 + (j + 1) = 3 + j from by omega] at this) hsz ?_
      refine hK.out _ _ ?_ (fun hHeld => ?_)
      · exact there_set hHeld _ rfl _
      clear hK K
      (try go_frame)
      refine wpAnyH_done (by kernel_rfl) ?_ _
      have hB5 : Below W0.heap.size W0 w5 := Below.next (Below.undrew hb2) hb5 (Below.undrew hb2).size
      have q0 : w5.cell? ⟨w.heap.size, 0, none⟩ = some (.int .i64 st) := cell_later hB5 (HRN.out.cell_of rfl)
      have q1 : w5.cell? ⟨w.heap.size, 1, none⟩ = some (.int .i64 co) := cell_later hB5 (HRN.out.cell_of rfl)
      have q2 : w5.cell? ⟨w.heap.size, 2, none⟩ = some (.slice a1 nx.length c1) := cell_later hB5 (HRN.out.cell_of rfl)
      have q3 : w5.cell? ⟨w.heap.size, 3, none⟩ = some (.slice a2 ou.length c2) := cell_later hB5 (HRN.out.cell_of rfl)
      have r0 : w5.cell? ⟨w.heap.size + 1, 0, none⟩ = some (.int .i64 0) := cell_later hB5 (HRR.out.cell_of rfl)
      have r1 : w5.cell? ⟨w.heap.size + 1, 1, none⟩ = some (.int .i64 0) := cell_later hB5 (HRR.out.cell_of rfl)
      have r2 : w5.cell? ⟨w.heap.size + 1, 2, none⟩ = some (.slice none 0 0) := cell_later hB5 (HRR.out.cell_of rfl)
      have r3 : w5.cell? ⟨w.heap.size + 1, 3, none⟩ = some (.slice none 0 0) := cell_later hB5 (HRR.out.cell_of rfl)
      have rf := (HRR.out.old hB5).frozen
      have hz2 : W0.heap.size ≤ w2.heap.size := (Below.undrew hb2).size
      have o2 := hide (owns_later HO2.out hb5)
      have o5 := hide (owns_base HO5.out hz2)
      have HB5 := hide hB5
      clear hB5 hb2 hb5
      (try go_wp2_with fail)
      refine bodyPost_ret (v := .agg #[.int .i64 st, .int .i64 co, .slice (some ⟨g2, 0, none⟩) nx.length k2, .slice (some ⟨g5, 0, none⟩) ou.length k5]) (by simp [results, Tryz.results81, go_sem, r0, r1, r2, r3]) rfl ⟨g2, k2, g5, k5, rfl, ?_, ?_, ?_⟩
      · refine owns_base (base := W0.heap.size) ?_ (by omega)
        repeat (refine ownsRow_setCell_below ?_ (by simp; omega) _)
        exact o2.out
      · refine owns_base (base := W0.heap.size) ?_ (by omega)
        repeat (refine ownsRow_setCell_below ?_ (by simp; omega) _)
        exact o5.out
      · repeat (refine Below.setCell ?_ (by simp) _)
        exact Below.next HB0.out HB5.out HB0.out.size
  · rw [if_pos (by rfl)]
    refine wp_load_one _ _ rfl _ _ (.slice a2 ou.length c2) rfl (by kernel_rfl) (by first | exact HRN.out.cell_of rfl | exact cell_later hb2 (HRN.out.cell_of rfl) | exact cell_later hb5 (HRN.out.cell_of rfl)) ?_
    refine hK.out _ _ ?_ (fun hHeld => ?_)
    · exact hHeld
    clear hK K
    (try go_frame)
    refine rd1 1 (by rfl) (by kernel_rfl) (fun K hK => ?_)
    rw [if_pos (by rfl)]
    refine wp_load_one _ _ rfl _ _ (.slice a1 nx.length c1) rfl (by kernel_rfl) (by first | exact HRN.out.cell_of rfl | exact cell_later hb2 (HRN.out.cell_of rfl) | exact cell_later hb5 (HRN.out.cell_of rfl)) ?_
    refine hK.out _ _ ?_ (fun hHeld => ?_)
    · exact hHeld
    clear hK K
    (try go_frame)
    refine rd1 2 (by rfl) (by kernel_rfl) (fun K hK => ?_)
    go_simp
    refine (clone_any nx _ _ (by first | exact HN.out.below HB0.out.drew | exact (HN.out.below HB0.out.drew).below hb5) n1 n2).mono ?_
    rintro e w2 ⟨g2, k2, rfl, ho2, hb2⟩
    have HO2 := hide ho2
    clear ho2
    go_wp2_with fail
    refine hK.out _ _ ?_ (fun hHeld => ?_)
    · exact there_later (by assumption) hHeld
    clear hK K
    (try go_frame)
    iterate 1 (refine tk 10 (by rfl) (by kernel_rfl) (by exact fun _ _ _ h => h) (.inl ⟨by rfl, fun w hS => by (try dsimp only at hS); go_simp; (try with_reducible rfl)⟩) (by assumption) ?_; try go_frame)
    refine rd1 5 (by rfl) (by kernel_rfl) (fun K hK => ?_)
    go_simp
    refine (clone_any ou _ _ (by first | exact HO.out.below HB0.out.drew | exact (HO.out.below HB0.out.drew).below hb2) n3 n4).mono ?_
    rintro e w5 ⟨g5, k5, rfl, ho5, hb5⟩
    have HO5 := hide ho5
    clear ho5
    go_wp2_with fail
    refine hK.out _ _ ?_ (fun hHeld => ?_)
    · exact there_later (by assumption) hHeld
    clear hK K
    (try go_frame)
    refine rd1 7 (by rfl) (by kernel_rfl) (fun K hK => ?_)
    rw [if_pos (by rfl)]
    refine wp_store_one _ _ _ rfl w.heap.size 2 (.slice (some ⟨g2, 0, none⟩) nx.length k2) rfl rfl rfl rfl (fun j hj => hHeld j (by omega)) hsz ?_
    refine hK.out _ _ ?_ (fun hHeld => ?_)
    · exact there_set hHeld _ rfl _
    clear hK K
    (try go_frame)
    iterate 1 (refine tk 9 (by rfl) (by kernel_rfl) (by exact fun _ _ _ h => h) (.inl ⟨by rfl, fun w hS => by (try dsimp only at hS); go_simp; (try with_reducible rfl)⟩) (by assumption) ?_; try go_frame)
    refine rd1 9 (by rfl) (by kernel_rfl) (fun K hK => ?_)
    rw [if_pos (by rfl)]
    refine wp_store_one _ _ _ rfl w.heap.size 3 (.slice (some ⟨g5, 0, none⟩) ou.length k5) rfl rfl rfl rfl (fun j hj => by have := hHeld (j + 1) (by omega); rwa [show 2 + (j + 1) = 3 + j from by omega] at this) hsz ?_
    refine hK.out _ _ ?_ (fun hHeld => ?_)
    · exact there_set hHeld _ rfl _
    clear hK K
    (try go_frame)
    refine wpAnyH_done (by kernel_rfl) ?_ _
    have hB5 : Below W0.heap.size W0 w5 := Below.next (Below.undrew hb2) hb5 (Below.undrew hb2).size
    have q0 : w5.cell? ⟨w.heap.size, 0, none⟩ = some (.int .i64 st) := cell_later hB5 (HRN.out.cell_of rfl)
    have q1 : w5.cell? ⟨w.heap.size, 1, none⟩ = some (.int .i64 co) := cell_later hB5 (HRN.out.cell_of rfl)
    have q2 : w5.cell? ⟨w.heap.size, 2, none⟩ = some (.slice a1 nx.length c1) := cell_later hB5 (HRN.out.cell_of rfl)
    have q3 : w5.cell? ⟨w.heap.size, 3, none⟩ = some (.slice a2 ou.length c2) := cell_later hB5 (HRN.out.cell_of rfl)
    have r0 : w5.cell? ⟨w.heap.size + 1, 0, none⟩ = some (.int .i64 0) := cell_later hB5 (HRR.out.cell_of rfl)
    have r1 : w5.cell? ⟨w.heap.size + 1, 1, none⟩ = some (.int .i64 0) := cell_later hB5 (HRR.out.cell_of rfl)
    have r2 : w5.cell? ⟨w.heap.size + 1, 2, none⟩ = some (.slice none 0 0) := cell_later hB5 (HRR.out.cell_of rfl)
    have r3 : w5.cell? ⟨w.heap.size + 1, 3, none⟩ = some (.slice none 0 0) := cell_later hB5 (HRR.out.cell_of rfl)
    have rf := (HRR.out.old hB5).frozen
    have hz2 : W0.heap.size ≤ w2.heap.size := (Below.undrew hb2).size
    have o2 := hide (owns_later HO2.out hb5)
    have o5 := hide (owns_base HO5.out hz2)
    have HB5 := hide hB5
    clear hB5 hb2 hb5
    (try go_wp2_with fail)
    refine bodyPost_ret (v := .agg #[.int .i64 st, .int .i64 co, .slice (some ⟨g2, 0, none⟩) nx.length k2, .slice (some ⟨g5, 0, none⟩) ou.length k5]) (by simp [results, Tryz.results81, go_sem, r0, r1, r2, r3]) rfl ⟨g2, k2, g5, k5, rfl, ?_, ?_, ?_⟩
    · refine owns_base (base := W0.heap.size) ?_ (by omega)
      repeat (refine ownsRow_setCell_below ?_ (by simp; omega) _)
      exact o2.out
    · refine owns_base (base := W0.heap.size) ?_ (by omega)
      repeat (refine ownsRow_setCell_below ?_ (by simp; omega) _)
      exact o5.out
    · repeat (refine Below.setCell ?_ (by simp) _)
      exact Below.next HB0.out HB5.out HB0.out.size
end Go.Proofs.YtefjhnhdagolhaaGreat
namespace Go.Proofs.YtefjhnhdagolhaaGreat
open Go.RowKit
section
variable {P : Program} (w : World)
theorem run_append_keep (t ty : TypeId) (base : Nat) (e : TypeId) (i : TypeInfo) (z : Value) (size bytes : Nat) (ht : P.underlying t = some (.slice e)) (hi : P.info? e = some i) (hz : i.zero = some z)
    (hsize : i.size = size) (hby : i.bytes = bytes) (hzs : z.cells.size = size) (hsz : 0 < size)
    (v : Value) (n : Nat) (xs : List Value) (hown : w.ownsRow base e size v n xs)
    (ad : Addr) (m c : Nat) (news : List Value) (hl : news.length = m * size) (hnews : ∀ j u, news[j]? = some u → w.cell? (ad.add j) = some u) (h1 : ∀ u ∈ news, u.oneCell' = true)
    (hm : 0 < m) (h63 : n + m ≤ maxLen) (hbytes : (n + m) * bytes ≤ 140737488355328) (hbase : base ≤ w.heap.size) :
    ∃ g cap w', (Builtin.append_ #[t, t] ty #[v, .slice (some ad) m c]).run P w = .ok (.slice (some ⟨g, 0, none⟩) (n + m) cap) w' ∧
      w'.ownsRow base e size (.slice (some ⟨g, 0, none⟩) (n + m) cap) (n + m) (xs ++ news) ∧ w.grownBy w' v.ownBlock ∧ g < w'.heap.size ∧
      (v.ownBlock = some g ∨ (g = w.heap.size ∧ ∀ k, k < w.heap.size → w'.heap[k]? = w.heap[k]?)) := by
  obtain ⟨g, cap, w', hr, h2, h3, h4, h5⟩ := run_append_lies (P := P) w t ty base e i z size bytes ht hi hz hsize hby hzs hsz v n xs hown ad m c news hl hnews h1 hm h63 hbytes hbase w.heap.size rfl
  refine ⟨g, cap, w', hr, h2, h3, h5, ?_⟩
  have h63' : ((n + m : Nat) : Int) ≤ 9223372036854775807 := by unfold maxLen at h63; omega
  have alloc_old : ∀ (o : Obj) (k : Nat), k < w.heap.size → (w.drew.alloc o).heap[k]? = w.heap[k]? := fun o k hk => (below_alloc w.drew o).block k hk
  rcases hown.2 with ⟨rfl, rfl⟩ | ⟨g0, cap0, cur, rfl, hb, hg, hnc, hcm, hcs, htk⟩
  · have hq := run_append_nil (P := P) w t ty e i z ht hi hz ad m c news (by rw [hsize]; exact hl) hnews hm (by omega) (by rw [hby]; rw [Nat.zero_add] at hbytes; omega)
    rw [hr] at hq
    injection hq with q1 q2
    injection q1 with q3 q4
    injection q3 with q5
    injection q5 with q6
    subst q2
    exact .inr ⟨q6, alloc_old _⟩
  · by_cases hroom : n + m ≤ cap0
    · obtain ⟨w2, hq, -⟩ := run_append_own_spare (P := P) w base t ty e i size ht hi hsize g0 n cap0 xs hown ad m c news hl hnews h1 hroom
      rw [hr] at hq
      injection hq with q1 q2
      injection q1 with q3 q4
      injection q3 with q5
      injection q5 with q6
      exact .inl (by rw [q6]; rfl)
    · have hc : ∀ j u, xs[j]? = some u → w.cell? ((⟨g0, 0, none⟩ : Addr).add j) = some u := fun j u hj => by
        have := hown.cells (g := g0) rfl j u hj
        simpa [Addr.add] using this
      have hq := run_append_grow (P := P) w t ty e i z ht hi hz ⟨g0, 0, none⟩ n cap0 xs (by rw [hsize]; exact hown.1) hc ad m c news (by rw [hsize]; exact hl) hnews (by omega) h63' (by rw [hby]; exact growslice_fits (by omega) hbytes)
      rw [hr] at hq
      injection hq with q1 q2
      injection q1 with q3 q4
      injection q3 with q5
      injection q5 with q6
      subst q2
      exact .inr ⟨q6, alloc_old _⟩
theorem wpList_append_keep {ops : Array Oper} {rest : List Oper} {o : Oper} {a : Act} {Q : Exit → Act → World → Prop} (hgd : o.guard = none) (s x : Operand) (t : TypeId)
    (ho : o.op = .call { callee := .builtin .append, args := #[s, x], argTypes := #[t, t] })
    (base : Nat) (e : TypeId) (i : TypeInfo) (z : Value) (size bytes : Nat) (ht : P.underlying t = some (.slice e)) (hi : P.info? e = some i) (hz : i.zero = some z)
    (hsize : i.size = size) (hby : i.bytes = bytes) (hzs : z.cells.size = size) (hsz : 0 < size)
    (v : Value) (n : Nat) (xs : List Value) (hs : a.eval s = v) (hown : w.ownsRow base e size v n xs)
    (ad : Addr) (m c : Nat) (news : List Value) (hx : a.eval x = .slice (some ad) m c) (hl : news.length = m * size) (hnews : ∀ j u, news[j]? = some u → w.cell? (ad.add j) = some u) (h1 : ∀ u ∈ news, u.oneCell' = true)
    (hm : 0 < m) (h63 : n + m ≤ maxLen) (hbytes : (n + m) * bytes ≤ 140737488355328) (hbase : base ≤ w.heap.size)
    (h : ∀ g cap w', w'.ownsRow base e size (.slice (some ⟨g, 0, none⟩) (n + m) cap) (n + m) (xs ++ news) → w.grownBy w' v.ownBlock → g < w'.heap.size → (v.ownBlock = some g ∨ (g = w.heap.size ∧ ∀ k, k < w.heap.size → w'.heap[k]? = w.heap[k]?)) → wpList P ops Q rest (a.put o.dst (.slice (some ⟨g, 0, none⟩) (n + m) cap)) w') : wpList P ops Q (o :: rest) a w :=
  wpList_plain hgd fun _ hK => by
    obtain ⟨g, cap, w', hr, h2, h3, h4, h5⟩ := run_append_keep (P := P) w t o.type base e i z size bytes ht hi hz hsize hby hzs hsz v n xs hown ad m c news hl hnews h1 hm h63 hbytes hbase
    unfold Oper.wp execOp
    simp only [ho, resolve, invoke, builtin, Sem.run_bind, Sem.run_pure, Result.andThen_ok, List.map_toArray, List.map_cons, List.map_nil, hs, hx, hr]
    exact hK _ _ (h g cap w' h2 h3 h4 h5)
end
end Go.Proofs.YtefjhnhdagolhaaGreat
namespace Go.Proofs.YtefjhnhdagolhaaGreat
open Go.RowKit
theorem grown_below {w w' : World} (h : Below w.heap.size w w') : w.grownBy w' none := ⟨h.os, h.tape, h.output, h.size, fun k hk _ => h.block k hk⟩
section
variable {w : World} {bL : Nat} {tW tO tL : TypeId} {sz : Nat} {u mk : Value} {cs : Value → List Value} {i k : Nat} {l : Value} {gm cm : Nat} {ss : List Value} {W W' : World}
end
end Go.Proofs.YtefjhnhdagolhaaGreat
namespace Go.Proofs.YtefjhnhdagolhaaGreat
open Go.RowKit
set_option maxHeartbeats 400000 in
theorem tableFirst (a b c d : Value) (w : World) : Calls Tryz.prog 188 #[.agg #[a, b, c, d]] w fun e w' => e = .returned (.int .i64 0) ∧ Below w.heap.size w w' := by
  go_enter Tryz.func188, Tryz.ntmps188
  go_wp2
  go_ret
  exact ⟨rfl, (by repeat (first | exact Below.refl _ _ | assumption | refine Below.drewN ?_ _ | refine Below.alloc ?_ (by simp) _))⟩
theorem tableFirst_m (a b c d : Value) (w : World) : (method 553 152 (.agg #[a, b, c, d]) "First").run Tryz.prog w = .ok (188, .agg #[a, b, c, d]) w := by kernel_rfl
theorem tableFirst_c (a b c d : Value) (w : World) : (callFunc 188 #[.agg #[a, b, c, d]]).run Tryz.prog w = .ok (.enter 188 #[.agg #[a, b, c, d]]) w := by kernel_rfl
end Go.Proofs.YtefjhnhdagolhaaGreat
namespace Go.Proofs.YtefjhnhdagolhaaGreat
open Go.RowKit
attribute [local go_sem ↓] Go.wp_at_zero Go.wp_at_succ
set_option maxHeartbeats 400000 in
theorem toggleWords_any (n : Int) (w : World) (h0 : 1 ≤ n) (h1 : n ≤ 64) :
    Calls Tryz.prog 156 #[.agg #[.int .i64 n]] w fun e w' => e = .returned (.int .i64 ((n + 15) / 16)) ∧ Below w.heap.size w w' := by
  go_enter Tryz.func156, Tryz.ntmps156
  go_wp2
  go_ret
  exact ⟨ret_int (by show (n + 16 - 1) / 16 = _; rw [show n + 16 - 1 = n + 15 by omega]), (by repeat (first | exact Below.refl _ _ | assumption | refine Below.drewN ?_ _ | refine Below.alloc ?_ (by simp) _))⟩
set_option maxHeartbeats 800000 in
theorem recordWords_any (n : Int) (w : World) (h0 : 1 ≤ n) (h1 : n ≤ 64) :
    Calls Tryz.prog 157 #[.agg #[.int .i64 n]] w fun e w' => e = .returned (.int .i64 ((n + 15) / 16 + 2 * n)) ∧ Below w.heap.size w w' := by
  go_enter Tryz.func157, Tryz.ntmps157
  go_wp2
  go_region_with (first | (go_at_call 156; refine (toggleWords_any n _ h0 h1).mono ?_; rintro e w' ⟨rfl, hb⟩; obtain ⟨hc, hf⟩ := bcell hb; have hz := hb.size; simp at hz))
  all_goals go_wp2
  all_goals go_ret
  all_goals exact ⟨ret_int (by show IntKind.i64.wrap ((n + 15) / 16 + IntKind.i64.wrap (2 * n)) = _; rw [wrapi (2 * n) (by omega) (by omega), wrapi _ (by omega) (by omega)]), (by repeat (first | exact Below.refl _ _ | refine Below.drewN ?_ _ | refine Below.drew ?_ | refine Below.alloc ?_ (by first | (simp; done) | (simp; omega)) _ | refine Below.next ?_ (by assumption) (by first | (simp; done) | (simp; omega))))⟩
end Go.Proofs.YtefjhnhdagolhaaGreat
namespace Go.Proofs.YtefjhnhdagolhaaGreat
open Go.RowKit
section
variable {P : Program} {f : FuncId} {fn : Func}
theorem run_call_storeP (hf : P.funcs[f]? = some fn) (hname : (fn.name == "runtime.NumGoroutine") = false) (hb : fn.body.isNone = true) (hn : Extern.findNext fn = none)
    (he : Extern.find fn = some Extern.Atomic.storeT) {a : Addr} {y : Option Addr} {u : Value} {w : World} (hc : w.cell? a = some u) (hz : w.frozen? a = false) :
    (callFunc f #[.pointer (some a), .pointer y]).run P w = .ok (.value (.tuple #[])) (w.setCell a (.pointer y)) := by
  rw [run_callFunc_extern hf hname hb hn he]
  change (Sem.run P (do
    store (← asAddr (.pointer (some a))) (.pointer y) .atomic
    pure Extern.Atomic.none_) w).andThen _ = _
  simp [asAddr, hc, hz, run_store P w a (.pointer y) .atomic rfl, Result.andThen, Extern.Atomic.none_]
theorem run_call_loadP (hf : P.funcs[f]? = some fn) (hname : (fn.name == "runtime.NumGoroutine") = false) (hb : fn.body.isNone = true) (hn : Extern.findNext fn = none)
    (he : Extern.find fn = some (Extern.Atomic.loadT .ptr)) {a : Addr} {x : Option Addr} {w : World} (hc : w.cell? a = some (.pointer x)) :
    (callFunc f #[.pointer (some a)]).run P w = .ok (.value (.pointer x)) w := by
  rw [run_callFunc_extern hf hname hb hn he]
  change (Sem.run P (do Extern.Atomic.read .ptr (← asAddr (.pointer (some a)))) w).andThen _ = _
  simp [Extern.Atomic.read, asAddr, hc, Result.andThen]
end
section
variable {P : Program}
theorem run_from_unsafe {src dst u : TypeId} (hs : P.underlying src = some .unsafePointer) (hd : P.underlying dst = some (.pointer u)) {b : Nat} {e : TypeId} {xs : List Value} {w : World}
    (hb : Row w b e xs) (hu : (P.info? u).map (fun i => decide (i.size = 0)) = some false) (hlies : liesAt P P.depth e (xs.length / P.cellsOf e) 0 u 1 = true) :
    (convert src dst (.pointer (some ⟨b, 0, none⟩))).run P w = .ok (.pointer (some ⟨b, 0, none⟩)) w := by
  have hsh : w.shape? b = some (e, xs.length) := by
    have h' : w.heap[b]? = some (.cells xs.toArray e (0, 0)) := hb
    simp [World.shape?, h']
  obtain ⟨i, hi, hz0⟩ := Option.map_eq_some_iff.1 hu
  have hz : i.size ≠ 0 := by simpa using hz0
  simp [convert, run_underlying hs, run_underlying hd, Conv.unsafePointer, Conv.seenAt, viewAt, hsh, variablesAt, hlies, sizeOf, typeInfo, hi, hz]
end
end Go.Proofs.YtefjhnhdagolhaaGreat
