import Derived.Test.YtefjhnhdagolhaaGreatPA
namespace Go.Proofs.YtefjhnhdagolhaaGreat
open Go.RowKit
attribute [local go_sem ↓] Go.wp_at_zero Go.wp_at_succ

theorem owns_later {w w' : World} {base : Nat} {e : TypeId} {size : Nat} {v : Value} {n : Nat} {xs : List Value} (h : w.ownsRow base e size v n xs) (hb : Below w.heap.size w w') : w'.ownsRow base e size v n xs :=
  h.kept (row := none) ⟨hb.os, hb.tape, hb.output, hb.size, fun k hk _ => hb.block k hk⟩ (by cases v.ownBlock <;> simp)
theorem owns_base {w : World} {base base' : Nat} {e : TypeId} {size : Nat} {v : Value} {n : Nat} {xs : List Value} (h : w.ownsRow base e size v n xs) (hb : base' ≤ base) : w.ownsRow base' e size v n xs := by
  obtain ⟨h1, h2⟩ := h
  refine ⟨h1, ?_⟩
  rcases h2 with h2 | ⟨g, cap, cur, hv, hg, r⟩
  · exact .inl h2
  · exact .inr ⟨g, cap, cur, hv, Nat.le_trans hb hg, r⟩

set_option maxRecDepth 20000 in
set_option maxHeartbeats 2000000 in
theorem newTable_any (st co : Int) (nx ou : List Int) (vn vo : Value) (w : World) (hn : Sl w vn (ints nx)) (ho : Sl w vo (ints ou)) (n1 : nx.length ≤ 1048576) (n2 : 0 < nx.length) (n3 : ou.length ≤ 1048576) (n4 : 0 < ou.length) :
    Calls Tryz.prog 81 #[.agg #[.int .i64 st, .int .i64 co, vn, vo]] w fun e w' => ∃ g1 k1 g2 k2, e = .returned (.agg #[.int .i64 st, .int .i64 co, .slice (some ⟨g1, 0, none⟩) nx.length k1, .slice (some ⟨g2, 0, none⟩) ou.length k2]) ∧ w'.ownsRow w.heap.size 3 1 (.slice (some ⟨g1, 0, none⟩) nx.length k1) nx.length (ints nx) ∧ w'.ownsRow w.heap.size 3 1 (.slice (some ⟨g2, 0, none⟩) ou.length k2) ou.length (ints ou) ∧ Below w.heap.size w w' := by
  have hsz : (Tryz.prog.info? 22).map (·.size) = some 1 := by kernel_rfl
  have HN := hide hn
  have HO := hide ho
  obtain ⟨a1, c1, e1, -⟩ := hn.open_ints
  obtain ⟨a2, c2, e2, -⟩ := ho.open_ints
  clear hn ho
  subst e1
  subst e2
  go_enter Tryz.func81, Tryz.ntmps81
  go_wp2
  generalize hW0 : World.alloc (World.alloc w _) _ = W0
  have hb0 : Below w.heap.size w W0 := by rw [← hW0]; exact ((Below.refl _ _).alloc (Nat.le_refl _) _).alloc (by simp) _
  have hs0 : W0.heap.size = w.heap.size + 2 := by rw [← hW0]; simp
  have hN : Row W0 w.heap.size 24 [.int .i64 st, .int .i64 co, .slice a1 nx.length c1, .slice a2 ou.length c2] := by rw [← hW0]; exact (Row.new' rfl).alloc _
  have hR : Row W0 (w.heap.size + 1) 152 [.int .i64 0, .int .i64 0, .slice none 0 0, .slice none 0 0] := by rw [← hW0]; exact Row.new' (by simp)
  have HB0 := hide hb0
  have HRN := hide hN
  have HRR := hide hR
  have hth : W0.there w.heap.size 2 2 := hN.there (by simp)
  clear hW0 hb0 hN hR
  refine wp_region_held_drew (S := (fun w' => w'.there w.heap.size 2 2)) (by kernel_rfl) ?_ (fun hHeld => ?_)
  · exact hth
  refine wpAnyH_take (i := 0) (oi := { dst := some 3, op := Go.Op.fieldAddr 24 (Go.Operand.tmp 1) 2, type := 0, pos := "table.go:14", after := #[], guard := none }) (v := ?v353) rfl (by kernel_rfl) (by kernel_rfl) (by kernel_rfl) (fun _ _ _ h => h) (Or.inl ⟨by rfl, ?hy353⟩) (by assumption) ?rest353
  case hy353 => (intro w hSw; (try dsimp only at hSw); go_simp; (try with_reducible rfl))
  (try go_frame)
  refine wpAnyH_take (i := 3) (oi := { dst := some 6, op := Go.Op.fieldAddr 24 (Go.Operand.tmp 1) 3, type := 0, pos := "table.go:14", after := #[], guard := none }) (v := ?v354) rfl (by kernel_rfl) (by kernel_rfl) (by kernel_rfl) (fun _ _ _ h => h) (Or.inl ⟨by rfl, ?hy354⟩) (by assumption) ?rest354
  case hy354 => (intro w hSw; (try dsimp only at hSw); go_simp; (try with_reducible rfl))
  (try go_frame)
  refine wpAnyH_ready (rs := [1, 4]) (by kernel_rfl) (by simp) ?_
  refine AllReadyH.cons (o := { dst := some 4, op := Go.Op.load 22 (Go.Operand.tmp 3), type := 22, pos := "table.go:14", after := #[{ on := 0, ground := Go.Ground.data }], guard := none }) (by rfl) (fun K hK => ?_) (AllReadyH.cons (o := { dst := some 7, op := Go.Op.load 22 (Go.Operand.tmp 6), type := 22, pos := "table.go:14", after := #[{ on := 3, ground := Go.Ground.data }], guard := none }) (by rfl) (fun K hK => ?_) AllReadyH.nil)
  · rw [if_pos (by rfl)]
    refine wp_load_one _ _ rfl _ _ (.slice a1 nx.length c1) rfl (by kernel_rfl) (by first | exact HRN.out.cell_of rfl | exact cell_later hb2 (HRN.out.cell_of rfl) | exact cell_later hb5 (HRN.out.cell_of rfl)) ?_
    refine hK.out _ _ ?_ (fun hHeld => ?_)
    · exact hHeld
    clear hK K
    (try go_frame)
    refine wpAnyH_ready (rs := [2, 4]) (by kernel_rfl) (by simp) ?_
    refine AllReadyH.cons (o := { dst := some 5, op := Go.Op.call { callee := Go.Callee.value (Go.Operand.func 108), args := #[Go.Operand.tmp 4], argTypes := #[22] }, type := 22, pos := "table.go:14", after := #[{ on := 1, ground := Go.Ground.data }], guard := none }) (by rfl) (fun K hK => ?_) (AllReadyH.cons (o := { dst := some 7, op := Go.Op.load 22 (Go.Operand.tmp 6), type := 22, pos := "table.go:14", after := #[{ on := 3, ground := Go.Ground.data }], guard := none }) (by rfl) (fun K hK => ?_) AllReadyH.nil)
    · go_simp
      refine (clone_any nx _ _ (by first | exact HN.out.below HB0.out.drew | exact (HN.out.below HB0.out.drew).below hb5) n1 n2).mono ?_
      rintro e w2 ⟨g2, k2, rfl, ho2, hb2⟩
      have HO2 := hide ho2
      clear ho2
      go_wp2_with fail
      refine hK.out _ _ ?_ (fun hHeld => ?_)
      · exact there_later (by assumption) hHeld
      clear hK K
      (try go_frame)
      refine wpAnyH_ready (rs := [4]) (by kernel_rfl) (by simp) ?_
      refine AllReadyH.cons (o := { dst := some 7, op := Go.Op.load 22 (Go.Operand.tmp 6), type := 22, pos := "table.go:14", after := #[{ on := 3, ground := Go.Ground.data }], guard := none }) (by rfl) (fun K hK => ?_) AllReadyH.nil
      rw [if_pos (by rfl)]
      refine wp_load_one _ _ rfl _ _ (.slice a2 ou.length c2) rfl (by kernel_rfl) (by first | exact HRN.out.cell_of rfl | exact cell_later hb2 (HRN.out.cell_of rfl) | exact cell_later hb5 (HRN.out.cell_of rfl)) ?_
      refine hK.out _ _ ?_ (fun hHeld => ?_)
      · exact hHeld
      clear hK K
      (try go_frame)
      refine wpAnyH_take (i := 6) (oi := { dst := some 9, op := Go.Op.fieldAddr 24 (Go.Operand.tmp 1) 2, type := 0, pos := "table.go:14", after := #[{ on := 0, ground := Go.Ground.phase }, { on := 1, ground := Go.Ground.phase }, { on := 2, ground := Go.Ground.phase }, { on := 3, ground := Go.Ground.phase }, { on := 4, ground := Go.Ground.phase }, { on := 5, ground := Go.Ground.textOnly Go.Departure.lateStoresUnsure }], guard := none }) (v := ?v355) rfl (by kernel_rfl) (by kernel_rfl) (by kernel_rfl) (fun _ _ _ h => h) (Or.inl ⟨by rfl, ?hy355⟩) (by assumption) ?rest355
      case hy355 => (intro w hSw; (try dsimp only at hSw); go_simp; (try with_reducible rfl))
      (try go_frame)
      refine wpAnyH_ready (rs := [5]) (by kernel_rfl) (by simp) ?_
      refine AllReadyH.cons (o := { dst := some 8, op := Go.Op.call { callee := Go.Callee.value (Go.Operand.func 108), args := #[Go.Operand.tmp 7], argTypes := #[22] }, type := 22, pos := "table.go:14", after := #[{ on := 4, ground := Go.Ground.data }, { on := 2, ground := Go.Ground.chain }], guard := none }) (by rfl) (fun K hK => ?_) AllReadyH.nil
      go_simp
      refine (clone_any ou _ _ (by first | exact HO.out.below HB0.out.drew | exact (HO.out.below HB0.out.drew).below hb2) n3 n4).mono ?_
      rintro e w5 ⟨g5, k5, rfl, ho5, hb5⟩
      have HO5 := hide ho5
      clear ho5
      go_wp2_with fail
      refine hK.out _ _ ?_ (fun hHeld => ?_)
      · exact there_later (by assumption) hHeld
      clear hK K
      (try go_frame)
      refine wpAnyH_ready (rs := [7]) (by kernel_rfl) (by simp) ?_
      refine AllReadyH.cons (o := { dst := none, op := Go.Op.store 22 (Go.Operand.tmp 9) (Go.Operand.tmp 5), type := 0, pos := "table.go:14", after := #[{ on := 6, ground := Go.Ground.data }, { on := 2, ground := Go.Ground.data }, { on := 5, ground := Go.Ground.chain }, { on := 0, ground := Go.Ground.phase }, { on := 1, ground := Go.Ground.phase }, { on := 2, ground := Go.Ground.phase }, { on := 3, ground := Go.Ground.phase }, { on := 4, ground := Go.Ground.phase }, { on := 5, ground := Go.Ground.textOnly Go.Departure.lateStoresUnsure }], guard := none }) (by rfl) (fun K hK => ?_) AllReadyH.nil
      rw [if_pos (by rfl)]
      refine wp_store_one _ _ _ rfl w.heap.size 2 (.slice (some ⟨g2, 0, none⟩) nx.length k2) rfl rfl rfl rfl (fun j hj => hHeld j (by omega)) hsz ?_
      refine hK.out _ _ ?_ (fun hHeld => ?_)
      · exact there_set hHeld _ rfl _
      clear hK K
      (try go_frame)
      refine wpAnyH_take (i := 8) (oi := { dst := some 10, op := Go.Op.fieldAddr 24 (Go.Operand.tmp 1) 3, type := 0, pos := "table.go:14", after := #[{ on := 0, ground := Go.Ground.phase }, { on := 1, ground := Go.Ground.phase }, { on := 2, ground := Go.Ground.phase }, { on := 3, ground := Go.Ground.phase }, { on := 4, ground := Go.Ground.phase }, { on := 5, ground := Go.Ground.phase }, { on := 6, ground := Go.Ground.phase }, { on := 7, ground := Go.Ground.phase }], guard := none }) (v := ?v356) rfl (by kernel_rfl) (by kernel_rfl) (by kernel_rfl) (fun _ _ _ h => h) (Or.inl ⟨by rfl, ?hy356⟩) (by assumption) ?rest356
      case hy356 => (intro w hSw; (try dsimp only at hSw); go_simp; (try with_reducible rfl))
      (try go_frame)
      refine wpAnyH_ready (rs := [9]) (by kernel_rfl) (by simp) ?_
      refine AllReadyH.cons (o := { dst := none, op := Go.Op.store 22 (Go.Operand.tmp 10) (Go.Operand.tmp 8), type := 0, pos := "table.go:14", after := #[{ on := 8, ground := Go.Ground.data }, { on := 5, ground := Go.Ground.data }, { on := 7, ground := Go.Ground.chain }, { on := 0, ground := Go.Ground.phase }, { on := 1, ground := Go.Ground.phase }, { on := 2, ground := Go.Ground.phase }, { on := 3, ground := Go.Ground.phase }, { on := 4, ground := Go.Ground.phase }, { on := 5, ground := Go.Ground.phase }, { on := 6, ground := Go.Ground.phase }, { on := 7, ground := Go.Ground.phase }], guard := none }) (by rfl) (fun K hK => ?_) AllReadyH.nil
      rw [if_pos (by rfl)]
      refine wp_store_one _ _ _ rfl w.heap.size 3 (.slice (some ⟨g5, 0, none⟩) ou.length k5) rfl rfl rfl rfl (fun j hj => by have := hHeld (j + 1) (by omega); rwa [show 2 + (j + 1) = 3 + j from by omega] at this) hsz ?_
      refine hK.out _ _ ?_ (fun hHeld => ?_)
      · exact there_set hHeld _ rfl _
      clear hK K
      (try go_frame)
      refine wpAnyH_done (by kernel_rfl) ?_ _
      have hB5 : Below W0.heap.size W0 w5 := Below.next (Below.undrew hb2) hb5 (Below.undrew hb2).size
      have q0 : w5.cell? ⟨w.heap.size, 0, none⟩ = some (.int .i64 st) := cell_later hB5 (HRN.out.cell_of rfl)
      have q1 : w5.cell? ⟨w.heap.size, 1, none⟩ = some (.int .i64 co) := cell_later hB5 (HRN.out.cell_of rfl)
      have q2 : w5.cell? ⟨w.heap.size, 2, none⟩ = some (.slice a1 nx.length c1) := cell_later hB5 (HRN.out.cell_of rfl)
      have q3 : w5.cell? ⟨w.heap.size, 3, none⟩ = some (.slice a2 ou.length c2) := cell_later hB5 (HRN.out.cell_of rfl)
      have r0 : w5.cell? ⟨w.heap.size + 1, 0, none⟩ = some (.int .i64 0) := cell_later hB5 (HRR.out.cell_of rfl)
      have r1 : w5.cell? ⟨w.heap.size + 1, 1, none⟩ = some (.int .i64 0) := cell_later hB5 (HRR.out.cell_of rfl)
      have r2 : w5.cell? ⟨w.heap.size + 1, 2, none⟩ = some (.slice none 0 0) := cell_later hB5 (HRR.out.cell_of rfl)
      have r3 : w5.cell? ⟨w.heap.size + 1, 3, none⟩ = some (.slice none 0 0) := cell_later hB5 (HRR.out.cell_of rfl)
      have rf := (HRR.out.old hB5).frozen
      have hz2 : W0.heap.size ≤ w2.heap.size := (Below.undrew hb2).size
      have o2 := hide (owns_later HO2.out hb5)
      have o5 := hide (owns_base HO5.out hz2)
      have HB5 := hide hB5
      clear hB5 hb2 hb5
      (try go_wp2_with fail)
      refine bodyPost_ret (v := .agg #[.int .i64 st, .int .i64 co, .slice (some ⟨g2, 0, none⟩) nx.length k2, .slice (some ⟨g5, 0, none⟩) ou.length k5]) (by simp [results, Tryz.results81, go_sem, r0, r1, r2, r3]) rfl ⟨g2, k2, g5, k5, rfl, ?_, ?_, ?_⟩
      · refine owns_base (base := W0.heap.size) ?_ (by omega)
        repeat (refine ownsRow_setCell_below ?_ (by simp; omega) _)
        exact o2.out
      · refine owns_base (base := W0.heap.size) ?_ (by omega)
        repeat (refine ownsRow_setCell_below ?_ (by simp; omega) _)
        exact o5.out
      · repeat (refine Below.setCell ?_ (by simp) _)
        exact Below.next HB0.out HB5.out HB0.out.size
    · rw [if_pos (by rfl)]
      refine wp_load_one _ _ rfl _ _ (.slice a2 ou.length c2) rfl (by kernel_rfl) (by first | exact HRN.out.cell_of rfl | exact cell_later hb2 (HRN.out.cell_of rfl) | exact cell_later hb5 (HRN.out.cell_of rfl)) ?_
      refine hK.out _ _ ?_ (fun hHeld => ?_)
      · exact hHeld
      clear hK K
      (try go_frame)
      refine wpAnyH_ready (rs := [2]) (by kernel_rfl) (by simp) ?_
      refine AllReadyH.cons (o := { dst := some 5, op := Go.Op.call { callee := Go.Callee.value (Go.Operand.func 108), args := #[Go.Operand.tmp 4], argTypes := #[22] }, type := 22, pos := "table.go:14", after := #[{ on := 1, ground := Go.Ground.data }], guard := none }) (by rfl) (fun K hK => ?_) AllReadyH.nil
      go_simp
      refine (clone_any nx _ _ (by first | exact HN.out.below HB0.out.drew | exact (HN.out.below HB0.out.drew).below hb5) n1 n2).mono ?_
      rintro e w2 ⟨g2, k2, rfl, ho2, hb2⟩
      have HO2 := hide ho2
      clear ho2
      go_wp2_with fail
      refine hK.out _ _ ?_ (fun hHeld => ?_)
      · exact there_later (by assumption) hHeld
      clear hK K
      (try go_frame)
      refine wpAnyH_take (i := 6) (oi := { dst := some 9, op := Go.Op.fieldAddr 24 (Go.Operand.tmp 1) 2, type := 0, pos := "table.go:14", after := #[{ on := 0, ground := Go.Ground.phase }, { on := 1, ground := Go.Ground.phase }, { on := 2, ground := Go.Ground.phase }, { on := 3, ground := Go.Ground.phase }, { on := 4, ground := Go.Ground.phase }, { on := 5, ground := Go.Ground.textOnly Go.Departure.lateStoresUnsure }], guard := none }) (v := ?v357) rfl (by kernel_rfl) (by kernel_rfl) (by kernel_rfl) (fun _ _ _ h => h) (Or.inl ⟨by rfl, ?hy357⟩) (by assumption) ?rest357
      case hy357 => (intro w hSw; (try dsimp only at hSw); go_simp; (try with_reducible rfl))
      (try go_frame)
      refine wpAnyH_ready (rs := [5]) (by kernel_rfl) (by simp) ?_
      refine AllReadyH.cons (o := { dst := some 8, op := Go.Op.call { callee := Go.Callee.value (Go.Operand.func 108), args := #[Go.Operand.tmp 7], argTypes := #[22] }, type := 22, pos := "table.go:14", after := #[{ on := 4, ground := Go.Ground.data }, { on := 2, ground := Go.Ground.chain }], guard := none }) (by rfl) (fun K hK => ?_) AllReadyH.nil
      go_simp
      refine (clone_any ou _ _ (by first | exact HO.out.below HB0.out.drew | exact (HO.out.below HB0.out.drew).below hb2) n3 n4).mono ?_
      rintro e w5 ⟨g5, k5, rfl, ho5, hb5⟩
      have HO5 := hide ho5
      clear ho5
      go_wp2_with fail
      refine hK.out _ _ ?_ (fun hHeld => ?_)
      · exact there_later (by assumption) hHeld
      clear hK K
      (try go_frame)
      refine wpAnyH_ready (rs := [7]) (by kernel_rfl) (by simp) ?_
      refine AllReadyH.cons (o := { dst := none, op := Go.Op.store 22 (Go.Operand.tmp 9) (Go.Operand.tmp 5), type := 0, pos := "table.go:14", after := #[{ on := 6, ground := Go.Ground.data }, { on := 2, ground := Go.Ground.data }, { on := 5, ground := Go.Ground.chain }, { on := 0, ground := Go.Ground.phase }, { on := 1, ground := Go.Ground.phase }, { on := 2, ground := Go.Ground.phase }, { on := 3, ground := Go.Ground.phase }, { on := 4, ground := Go.Ground.phase }, { on := 5, ground := Go.Ground.textOnly Go.Departure.lateStoresUnsure }], guard := none }) (by rfl) (fun K hK => ?_) AllReadyH.nil
      rw [if_pos (by rfl)]
      refine wp_store_one _ _ _ rfl w.heap.size 2 (.slice (some ⟨g2, 0, none⟩) nx.length k2) rfl rfl rfl rfl (fun j hj => hHeld j (by omega)) hsz ?_
      refine hK.out _ _ ?_ (fun hHeld => ?_)
      · exact there_set hHeld _ rfl _
      clear hK K
      (try go_frame)
      refine wpAnyH_take (i := 8) (oi := { dst := some 10, op := Go.Op.fieldAddr 24 (Go.Operand.tmp 1) 3, type := 0, pos := "table.go:14", after := #[{ on := 0, ground := Go.Ground.phase }, { on := 1, ground := Go.Ground.phase }, { on := 2, ground := Go.Ground.phase }, { on := 3, ground := Go.Ground.phase }, { on := 4, ground := Go.Ground.phase }, { on := 5, ground := Go.Ground.phase }, { on := 6, ground := Go.Ground.phase }, { on := 7, ground := Go.Ground.phase }], guard := none }) (v := ?v358) rfl (by kernel_rfl) (by kernel_rfl) (by kernel_rfl) (fun _ _ _ h => h) (Or.inl ⟨by rfl, ?hy358⟩) (by assumption) ?rest358
      case hy358 => (intro w hSw; (try dsimp only at hSw); go_simp; (try with_reducible rfl))
      (try go_frame)
      refine wpAnyH_ready (rs := [9]) (by kernel_rfl) (by simp) ?_
      refine AllReadyH.cons (o := { dst := none, op := Go.Op.store 22 (Go.Operand.tmp 10) (Go.Operand.tmp 8), type := 0, pos := "table.go:14", after := #[{ on := 8, ground := Go.Ground.data }, { on := 5, ground := Go.Ground.data }, { on := 7, ground := Go.Ground.chain }, { on := 0, ground := Go.Ground.phase }, { on := 1, ground := Go.Ground.phase }, { on := 2, ground := Go.Ground.phase }, { on := 3, ground := Go.Ground.phase }, { on := 4, ground := Go.Ground.phase }, { on := 5, ground := Go.Ground.phase }, { on := 6, ground := Go.Ground.phase }, { on := 7, ground := Go.Ground.phase }], guard := none }) (by rfl) (fun K hK => ?_) AllReadyH.nil
      rw [if_pos (by rfl)]
      refine wp_store_one _ _ _ rfl w.heap.size 3 (.slice (some ⟨g5, 0, none⟩) ou.length k5) rfl rfl rfl rfl (fun j hj => by have := hHeld (j + 1) (by omega); rwa [show 2 + (j + 1) = 3 + j from by omega] at this) hsz ?_
      refine hK.out _ _ ?_ (fun hHeld => ?_)
      · exact there_set hHeld _ rfl _
      clear hK K
      (try go_frame)
      refine wpAnyH_done (by kernel_rfl) ?_ _
      have hB5 : Below W0.heap.size W0 w5 := Below.next (Below.undrew hb2) hb5 (Below.undrew hb2).size
      have q0 : w5.cell? ⟨w.heap.size, 0, none⟩ = some (.int .i64 st) := cell_later hB5 (HRN.out.cell_of rfl)
      have q1 : w5.cell? ⟨w.heap.size, 1, none⟩ = some (.int .i64 co) := cell_later hB5 (HRN.out.cell_of rfl)
      have q2 : w5.cell? ⟨w.heap.size, 2, none⟩ = some (.slice a1 nx.length c1) := cell_later hB5 (HRN.out.cell_of rfl)
      have q3 : w5.cell? ⟨w.heap.size, 3, none⟩ = some (.slice a2 ou.length c2) := cell_later hB5 (HRN.out.cell_of rfl)
      have r0 : w5.cell? ⟨w.heap.size + 1, 0, none⟩ = some (.int .i64 0) := cell_later hB5 (HRR.out.cell_of rfl)
      have r1 : w5.cell? ⟨w.heap.size + 1, 1, none⟩ = some (.int .i64 0) := cell_later hB5 (HRR.out.cell_of rfl)
      have r2 : w5.cell? ⟨w.heap.size + 1, 2, none⟩ = some (.slice none 0 0) := cell_later hB5 (HRR.out.cell_of rfl)
      have r3 : w5.cell? ⟨w.heap.size + 1, 3, none⟩ = some (.slice none 0 0) := cell_later hB5 (HRR.out.cell_of rfl)
      have rf := (HRR.out.old hB5).frozen
      have hz2 : W0.heap.size ≤ w2.heap.size := (Below.undrew hb2).size
      have o2 := hide (owns_later HO2.out hb5)
      have o5 := hide (owns_base HO5.out hz2)
      have HB5 := hide hB5
      clear hB5 hb2 hb5
      (try go_wp2_with fail)
      refine bodyPost_ret (v := .agg #[.int .i64 st, .int .i64 co, .slice (some ⟨g2, 0, none⟩) nx.length k2, .slice (some ⟨g5, 0, none⟩) ou.length k5]) (by simp [results, Tryz.results81, go_sem, r0, r1, r2, r3]) rfl ⟨g2, k2, g5, k5, rfl, ?_, ?_, ?_⟩
      · refine owns_base (base := W0.heap.size) ?_ (by omega)
        repeat (refine ownsRow_setCell_below ?_ (by simp; omega) _)
        exact o2.out
      · refine owns_base (base := W0.heap.size) ?_ (by omega)
        repeat (refine ownsRow_setCell_below ?_ (by simp; omega) _)
        exact o5.out
      · repeat (refine Below.setCell ?_ (by simp) _)
        exact Below.next HB0.out HB5.out HB0.out.size
  · rw [if_pos (by rfl)]
    refine wp_load_one _ _ rfl _ _ (.slice a2 ou.length c2) rfl (by kernel_rfl) (by first | exact HRN.out.cell_of rfl | exact cell_later hb2 (HRN.out.cell_of rfl) | exact cell_later hb5 (HRN.out.cell_of rfl)) ?_
    refine hK.out _ _ ?_ (fun hHeld => ?_)
    · exact hHeld
    clear hK K
    (try go_frame)
    refine wpAnyH_ready (rs := [1]) (by kernel_rfl) (by simp) ?_
    refine AllReadyH.cons (o := { dst := some 4, op := Go.Op.load 22 (Go.Operand.tmp 3), type := 22, pos := "table.go:14", after := #[{ on := 0, ground := Go.Ground.data }], guard := none }) (by rfl) (fun K hK => ?_) AllReadyH.nil
    rw [if_pos (by rfl)]
    refine wp_load_one _ _ rfl _ _ (.slice a1 nx.length c1) rfl (by kernel_rfl) (by first | exact HRN.out.cell_of rfl | exact cell_later hb2 (HRN.out.cell_of rfl) | exact cell_later hb5 (HRN.out.cell_of rfl)) ?_
    refine hK.out _ _ ?_ (fun hHeld => ?_)
    · exact hHeld
    clear hK K
    (try go_frame)
    refine wpAnyH_ready (rs := [2]) (by kernel_rfl) (by simp) ?_
    refine AllReadyH.cons (o := { dst := some 5, op := Go.Op.call { callee := Go.Callee.value (Go.Operand.func 108), args := #[Go.Operand.tmp 4], argTypes := #[22] }, type := 22, pos := "table.go:14", after := #[{ on := 1, ground := Go.Ground.data }], guard := none }) (by rfl) (fun K hK => ?_) AllReadyH.nil
    go_simp
    refine (clone_any nx _ _ (by first | exact HN.out.below HB0.out.drew | exact (HN.out.below HB0.out.drew).below hb5) n1 n2).mono ?_
    rintro e w2 ⟨g2, k2, rfl, ho2, hb2⟩
    have HO2 := hide ho2
    clear ho2
    go_wp2_with fail
    refine hK.out _ _ ?_ (fun hHeld => ?_)
    · exact there_later (by assumption) hHeld
    clear hK K
    (try go_frame)
    refine wpAnyH_take (i := 6) (oi := { dst := some 9, op := Go.Op.fieldAddr 24 (Go.Operand.tmp 1) 2, type := 0, pos := "table.go:14", after := #[{ on := 0, ground := Go.Ground.phase }, { on := 1, ground := Go.Ground.phase }, { on := 2, ground := Go.Ground.phase }, { on := 3, ground := Go.Ground.phase }, { on := 4, ground := Go.Ground.phase }, { on := 5, ground := Go.Ground.textOnly Go.Departure.lateStoresUnsure }], guard := none }) (v := ?v359) rfl (by kernel_rfl) (by kernel_rfl) (by kernel_rfl) (fun _ _ _ h => h) (Or.inl ⟨by rfl, ?hy359⟩) (by assumption) ?rest359
    case hy359 => (intro w hSw; (try dsimp only at hSw); go_simp; (try with_reducible rfl))
    (try go_frame)
    refine wpAnyH_ready (rs := [5]) (by kernel_rfl) (by simp) ?_
    refine AllReadyH.cons (o := { dst := some 8, op := Go.Op.call { callee := Go.Callee.value (Go.Operand.func 108), args := #[Go.Operand.tmp 7], argTypes := #[22] }, type := 22, pos := "table.go:14", after := #[{ on := 4, ground := Go.Ground.data }, { on := 2, ground := Go.Ground.chain }], guard := none }) (by rfl) (fun K hK => ?_) AllReadyH.nil
    go_simp
    refine (clone_any ou _ _ (by first | exact HO.out.below HB0.out.drew | exact (HO.out.below HB0.out.drew).below hb2) n3 n4).mono ?_
    rintro e w5 ⟨g5, k5, rfl, ho5, hb5⟩
    have HO5 := hide ho5
    clear ho5
    go_wp2_with fail
    refine hK.out _ _ ?_ (fun hHeld => ?_)
    · exact there_later (by assumption) hHeld
    clear hK K
    (try go_frame)
    refine wpAnyH_ready (rs := [7]) (by kernel_rfl) (by simp) ?_
    refine AllReadyH.cons (o := { dst := none, op := Go.Op.store 22 (Go.Operand.tmp 9) (Go.Operand.tmp 5), type := 0, pos := "table.go:14", after := #[{ on := 6, ground := Go.Ground.data }, { on := 2, ground := Go.Ground.data }, { on := 5, ground := Go.Ground.chain }, { on := 0, ground := Go.Ground.phase }, { on := 1, ground := Go.Ground.phase }, { on := 2, ground := Go.Ground.phase }, { on := 3, ground := Go.Ground.phase }, { on := 4, ground := Go.Ground.phase }, { on := 5, ground := Go.Ground.textOnly Go.Departure.lateStoresUnsure }], guard := none }) (by rfl) (fun K hK => ?_) AllReadyH.nil
    rw [if_pos (by rfl)]
    refine wp_store_one _ _ _ rfl w.heap.size 2 (.slice (some ⟨g2, 0, none⟩) nx.length k2) rfl rfl rfl rfl (fun j hj => hHeld j (by omega)) hsz ?_
    refine hK.out _ _ ?_ (fun hHeld => ?_)
    · exact there_set hHeld _ rfl _
    clear hK K
    (try go_frame)
    refine wpAnyH_take (i := 8) (oi := { dst := some 10, op := Go.Op.fieldAddr 24 (Go.Operand.tmp 1) 3, type := 0, pos := "table.go:14", after := #[{ on := 0, ground := Go.Ground.phase }, { on := 1, ground := Go.Ground.phase }, { on := 2, ground := Go.Ground.phase }, { on := 3, ground := Go.Ground.phase }, { on := 4, ground := Go.Ground.phase }, { on := 5, ground := Go.Ground.phase }, { on := 6, ground := Go.Ground.phase }, { on := 7, ground := Go.Ground.phase }], guard := none }) (v := ?v360) rfl (by kernel_rfl) (by kernel_rfl) (by kernel_rfl) (fun _ _ _ h => h) (Or.inl ⟨by rfl, ?hy360⟩) (by assumption) ?rest360
    case hy360 => (intro w hSw; (try dsimp only at hSw); go_simp; (try with_reducible rfl))
    (try go_frame)
    refine wpAnyH_ready (rs := [9]) (by kernel_rfl) (by simp) ?_
    refine AllReadyH.cons (o := { dst := none, op := Go.Op.store 22 (Go.Operand.tmp 10) (Go.Operand.tmp 8), type := 0, pos := "table.go:14", after := #[{ on := 8, ground := Go.Ground.data }, { on := 5, ground := Go.Ground.data }, { on := 7, ground := Go.Ground.chain }, { on := 0, ground := Go.Ground.phase }, { on := 1, ground := Go.Ground.phase }, { on := 2, ground := Go.Ground.phase }, { on := 3, ground := Go.Ground.phase }, { on := 4, ground := Go.Ground.phase }, { on := 5, ground := Go.Ground.phase }, { on := 6, ground := Go.Ground.phase }, { on := 7, ground := Go.Ground.phase }], guard := none }) (by rfl) (fun K hK => ?_) AllReadyH.nil
    rw [if_pos (by rfl)]
    refine wp_store_one _ _ _ rfl w.heap.size 3 (.slice (some ⟨g5, 0, none⟩) ou.length k5) rfl rfl rfl rfl (fun j hj => by have := hHeld (j + 1) (by omega); rwa [show 2 + (j + 1) = 3 + j from by omega] at this) hsz ?_
    refine hK.out _ _ ?_ (fun hHeld => ?_)
    · exact there_set hHeld _ rfl _
    clear hK K
    (try go_frame)
    refine wpAnyH_done (by kernel_rfl) ?_ _
    have hB5 : Below W0.heap.size W0 w5 := Below.next (Below.undrew hb2) hb5 (Below.undrew hb2).size
    have q0 : w5.cell? ⟨w.heap.size, 0, none⟩ = some (.int .i64 st) := cell_later hB5 (HRN.out.cell_of rfl)
    have q1 : w5.cell? ⟨w.heap.size, 1, none⟩ = some (.int .i64 co) := cell_later hB5 (HRN.out.cell_of rfl)
    have q2 : w5.cell? ⟨w.heap.size, 2, none⟩ = some (.slice a1 nx.length c1) := cell_later hB5 (HRN.out.cell_of rfl)
    have q3 : w5.cell? ⟨w.heap.size, 3, none⟩ = some (.slice a2 ou.length c2) := cell_later hB5 (HRN.out.cell_of rfl)
    have r0 : w5.cell? ⟨w.heap.size + 1, 0, none⟩ = some (.int .i64 0) := cell_later hB5 (HRR.out.cell_of rfl)
    have r1 : w5.cell? ⟨w.heap.size + 1, 1, none⟩ = some (.int .i64 0) := cell_later hB5 (HRR.out.cell_of rfl)
    have r2 : w5.cell? ⟨w.heap.size + 1, 2, none⟩ = some (.slice none 0 0) := cell_later hB5 (HRR.out.cell_of rfl)
    have r3 : w5.cell? ⟨w.heap.size + 1, 3, none⟩ = some (.slice none 0 0) := cell_later hB5 (HRR.out.cell_of rfl)
    have rf := (HRR.out.old hB5).frozen
    have hz2 : W0.heap.size ≤ w2.heap.size := (Below.undrew hb2).size
    have o2 := hide (owns_later HO2.out hb5)
    have o5 := hide (owns_base HO5.out hz2)
    have HB5 := hide hB5
    clear hB5 hb2 hb5
    (try go_wp2_with fail)
    refine bodyPost_ret (v := .agg #[.int .i64 st, .int .i64 co, .slice (some ⟨g2, 0, none⟩) nx.length k2, .slice (some ⟨g5, 0, none⟩) ou.length k5]) (by simp [results, Tryz.results81, go_sem, r0, r1, r2, r3]) rfl ⟨g2, k2, g5, k5, rfl, ?_, ?_, ?_⟩
    · refine owns_base (base := W0.heap.size) ?_ (by omega)
      repeat (refine ownsRow_setCell_below ?_ (by simp; omega) _)
      exact o2.out
    · refine owns_base (base := W0.heap.size) ?_ (by omega)
      repeat (refine ownsRow_setCell_below ?_ (by simp; omega) _)
      exact o5.out
    · repeat (refine Below.setCell ?_ (by simp) _)
      exact Below.next HB0.out HB5.out HB0.out.size

end Go.Proofs.YtefjhnhdagolhaaGreat
