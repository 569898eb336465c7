import Derived.Test.YtefjhnhdagolhaaGreatQ02
import Derived.Test.YtefjhnhdagolhaaGreatQ03
import Derived.Test.YtefjhnhdagolhaaGreatProg
namespace Go.Proofs.YtefjhnhdagolhaaGreat.int
open Go.RowKit
attribute [local go_sem ↓] Go.wp_at_zero Go.wp_at_succ
def thNew (bS : Nat) (i most : Int) (gD nD gG nG : Nat) : List Value :=
  [.pointer (some ⟨bS, 0, none⟩), .int .i64 i, .int .i64 most, .int .i64 0, .int .i64 0, .int .i64 0, .int .i64 0, .int .i64 0, .bool false, .int .i64 0, .bool false, .int .i64 (2 * i + 1), .int .i64 (2 * i + 2), .int .i64 0,
    .slice (some ⟨gD, 0, none⟩) nD nD] ++ [.int .i64 0] ++ [.pointer none] ++ [.int .i64 0] ++ [.pointer none, .slice (some ⟨gG, 0, none⟩) nG nG, .slice none 0 0, .int .i64 0, .int .i64 0, .int .i64 0, .int .i64 0, .int .i64 0, .int .i64 0, .bool false]
set_option maxRecDepth 20000 in
set_option maxHeartbeats 4000000 in
theorem newThread_any (bS : Nat) (n i most : Int) (w : World) (hc : w.cell? ⟨bS, 0, none⟩ = some (.int .i64 n)) (h0 : 1 ≤ n) (h1 : n ≤ 64) (h2 : 0 ≤ i) (h3 : i ≤ 64) :
    Calls Tryz.prog 134 #[.pointer (some ⟨bS, 0, none⟩), .int .i64 i, .int .i64 most] w fun e w' => ∃ gD gG, e = .returned (.agg (thNew bS i most gD ((n + 15) / 16 + 2 * n).toNat gG ((n + 15) / 16).toNat).toArray) ∧ w.heap.size ≤ gD ∧ w.heap.size ≤ gG ∧ gD ≠ gG ∧
      Row w' gD 3 (zeros (.int .i64 0) ((n + 15) / 16 + 2 * n).toNat) ∧ Row w' gG 3 (zeros (.int .i64 0) ((n + 15) / 16).toNat) ∧ Below w.heap.size w w' := by
  have hmk1 := run_make_zeros (P := Tryz.prog) 22 3 (.int .i64 0) 8 Tryz.underlying22 info_int rfl ((n + 15) / 16 + 2 * n) ((n + 15) / 16 + 2 * n).toNat (by omega) (by omega) (by omega)
  have hmk2 := run_make_zeros (P := Tryz.prog) 22 3 (.int .i64 0) 8 Tryz.underlying22 info_int rfl ((n + 15) / 16) ((n + 15) / 16).toNat (by omega) (by omega) (by omega)
  have hi : (Tryz.prog.info? 231).map (·.size) = some 28 := by kernel_rfl
  have hw1 : IntKind.i64.wrap (2 * i) = 2 * i := wrapi _ (by omega) (by omega)
  have hw2 : IntKind.i64.wrap (2 * i + 1) = 2 * i + 1 := wrapi _ (by omega) (by omega)
  have hw3 : IntKind.i64.wrap (2 * i + 2) = 2 * i + 2 := wrapi _ (by omega) (by omega)
  have hlt : bS < w.heap.size := World.block_lt_of_cell? w _ hc
  go_enter Tryz.func134, Tryz.ntmps134
  go_wp2
  generalize hW0 : World.alloc w _ = W0
  have hb0 : Below w.heap.size w W0 := by rw [← hW0]; exact below_alloc w _
  have hs0 : w.heap.size < W0.heap.size := by rw [← hW0]; simp
  have hth : W0.there w.heap.size 0 28 := by rw [← hW0]; exact Row.there (t := 231) (Row.new w _ 231) (by simp)
  clear hW0
  refine rg0 (S := (fun w' => Below w.heap.size w w' ∧ w'.cell? ⟨bS, 0, none⟩ = some (.int .i64 n) ∧ w'.there w.heap.size 0 28)) 24 rfl (by kernel_rfl) ?_ (fun hHeld => ?_)
  · exact keepI hb0 hc hth
  iterate 13 (refine tk 23 (by rfl) (by kernel_rfl) (by exact fun _ _ _ h => h) (.inl ⟨by rfl, fun w hS => by (try dsimp only at hS); go_simp; (try with_reducible rfl)⟩) (by assumption) ?_; try go_frame)
  iterate 4 (refine tk 26 (by rfl) (by kernel_rfl) (by exact fun _ _ _ h => h) (.inl ⟨by rfl, fun w hS => by (try dsimp only at hS); go_simp; (try with_reducible rfl)⟩) (by assumption) ?_; try go_frame)
  refine rd1 13 (by rfl) (by kernel_rfl) (fun K hK => ?_)
  go_simp
  refine (recordWords_any n _ h0 h1).mono ?_
  rintro e w3 ⟨rfl, hb3⟩
  have hz3 := hb3.size
  (try simp at hz3)
  go_wp2_with fail
  refine hK.out _ _ ?_ (fun hHeld => ?_)
  · exact keepC hHeld hb3
  clear hK K
  (try go_frame)
  refine wpAnyH_ready (rs := [14, 20]) (by kernel_rfl) (by simp) (rc (by rfl) (fun K hK => ?_) (rc (by rfl) (fun K hK => ?_) AllReadyH.nil))
  · go_simp
    refine hK.out _ _ ?_ (fun hHeld => ?_)
    · exact keepA hHeld _
    clear hK K
    (try go_frame)
    iterate 1 (refine tk 19 (by rfl) (by kernel_rfl) (by exact fun _ _ _ h => h) (.inl ⟨by rfl, fun w hS => by (try dsimp only at hS); go_simp; (try with_reducible rfl)⟩) (by assumption) ?_; try go_frame)
    refine rd1 20 (by rfl) (by kernel_rfl) (fun K hK => ?_)
    go_simp
    refine (toggleWords_any n _ h0 h1).mono ?_
    rintro e w2 ⟨rfl, hb2⟩
    have hz2 := hb2.size
    (try simp at hz2)
    go_wp2_with fail
    refine hK.out _ _ ?_ (fun hHeld => ?_)
    · exact keepC hHeld hb2
    clear hK K
    (try go_frame)
    refine rd1 21 (by rfl) (by kernel_rfl) (fun K hK => ?_)
    go_simp
    refine hK.out _ _ ?_ (fun hHeld => ?_)
    · exact keepA hHeld _
    clear hK K
    (try go_frame)
    iterate 1 (refine tk 23 (by rfl) (by kernel_rfl) (by exact fun _ _ _ h => h) (.inl ⟨by rfl, fun w hS => by (try dsimp only at hS); go_simp; (try with_reducible rfl)⟩) (by assumption) ?_; try go_frame)
    refine rd1 23 (by rfl) (by kernel_rfl) (fun K hK => ?_)
    rw [if_pos (by rfl)]
    refine wp_store_mid _ _ _ rfl _ _ (List.toArray _) rfl rfl ?_ ?_ ?_ ?_
    · exact hHeld.2.2
    · exact hi
    · exact all_oneCell_toArray (by simp [Value.oneCell'])
    have hthz := hHeld.2.2
    refine hK.out _ _ ?_ (fun hHeld => ?_)
    · exact keepS hHeld hlt _
    clear hK K
    (try go_frame)
    refine wpAnyH_done (by kernel_rfl) ?_ _
    go_wp2
    refine bodyPost_ret (v := .agg (List.toArray _)) (results_agg rfl rfl (World.rangeAt_setCells_same _ _ _ _ hthz) Tryz.underlying231 rfl hi) rfl ?_
    refine ⟨_, _, rfl, ?_, ?_, ?_, ?_, ?_, hHeld.1⟩
    · omega
    · omega
    · omega
    · refine Row.setCells' (by omega) _ _ ?_
      repeat (first | exact Row.new' (by simp) | refine Row.alloc ?_ _ | refine Row.old ?_ hb2)
    · refine Row.setCells' (by omega) _ _ ?_
      repeat (first | exact Row.new' (by simp) | refine Row.alloc ?_ _ | refine Row.old ?_ hb2)
  · go_simp
    refine (toggleWords_any n _ h0 h1).mono ?_
    rintro e w2 ⟨rfl, hb2⟩
    have hz2 := hb2.size
    (try simp at hz2)
    go_wp2_with fail
    refine hK.out _ _ ?_ (fun hHeld => ?_)
    · exact keepC hHeld hb2
    clear hK K
    (try go_frame)
    refine wpAnyH_ready (rs := [14, 21]) (by kernel_rfl) (by simp) (rc (by rfl) (fun K hK => ?_) (rc (by rfl) (fun K hK => ?_) AllReadyH.nil))
    · go_simp
      refine hK.out _ _ ?_ (fun hHeld => ?_)
      · exact keepA hHeld _
      clear hK K
      (try go_frame)
      iterate 1 (refine tk 18 (by rfl) (by kernel_rfl) (by exact fun _ _ _ h => h) (.inl ⟨by rfl, fun w hS => by (try dsimp only at hS); go_simp; (try with_reducible rfl)⟩) (by assumption) ?_; try go_frame)
      refine rd1 21 (by rfl) (by kernel_rfl) (fun K hK => ?_)
      go_simp
      refine hK.out _ _ ?_ (fun hHeld => ?_)
      · exact keepA hHeld _
      clear hK K
      (try go_frame)
      iterate 1 (refine tk 23 (by rfl) (by kernel_rfl) (by exact fun _ _ _ h => h) (.inl ⟨by rfl, fun w hS => by (try dsimp only at hS); go_simp; (try with_reducible rfl)⟩) (by assumption) ?_; try go_frame)
      refine rd1 23 (by rfl) (by kernel_rfl) (fun K hK => ?_)
      rw [if_pos (by rfl)]
      refine wp_store_mid _ _ _ rfl _ _ (List.toArray _) rfl rfl ?_ ?_ ?_ ?_
      · exact hHeld.2.2
      · exact hi
      · exact all_oneCell_toArray (by simp [Value.oneCell'])
      have hthz := hHeld.2.2
      refine hK.out _ _ ?_ (fun hHeld => ?_)
      · exact keepS hHeld hlt _
      clear hK K
      (try go_frame)
      refine wpAnyH_done (by kernel_rfl) ?_ _
      go_wp2
      refine bodyPost_ret (v := .agg (List.toArray _)) (results_agg rfl rfl (World.rangeAt_setCells_same _ _ _ _ hthz) Tryz.underlying231 rfl hi) rfl ?_
      refine ⟨_, _, rfl, ?_, ?_, ?_, ?_, ?_, hHeld.1⟩
      · omega
      · omega
      · omega
      · refine Row.setCells' (by omega) _ _ ?_
        repeat (first | exact Row.new' (by simp) | refine Row.alloc ?_ _ | refine Row.old ?_ hb2)
      · refine Row.setCells' (by omega) _ _ ?_
        repeat (first | exact Row.new' (by simp) | refine Row.alloc ?_ _ | refine Row.old ?_ hb2)
    · go_simp
      refine hK.out _ _ ?_ (fun hHeld => ?_)
      · exact keepA hHeld _
      clear hK K
      (try go_frame)
      refine rd1 14 (by rfl) (by kernel_rfl) (fun K hK => ?_)
      go_simp
      refine hK.out _ _ ?_ (fun hHeld => ?_)
      · exact keepA hHeld _
      clear hK K
      (try go_frame)
      iterate 1 (refine tk 17 (by rfl) (by kernel_rfl) (by exact fun _ _ _ h => h) (.inl ⟨by rfl, fun w hS => by (try dsimp only at hS); go_simp; (try with_reducible rfl)⟩) (by assumption) ?_; try go_frame)
      iterate 1 (refine tk 23 (by rfl) (by kernel_rfl) (by exact fun _ _ _ h => h) (.inl ⟨by rfl, fun w hS => by (try dsimp only at hS); go_simp; (try with_reducible rfl)⟩) (by assumption) ?_; try go_frame)
      refine rd1 23 (by rfl) (by kernel_rfl) (fun K hK => ?_)
      rw [if_pos (by rfl)]
      refine wp_store_mid _ _ _ rfl _ _ (List.toArray _) rfl rfl ?_ ?_ ?_ ?_
      · exact hHeld.2.2
      · exact hi
      · exact all_oneCell_toArray (by simp [Value.oneCell'])
      have hthz := hHeld.2.2
      refine hK.out _ _ ?_ (fun hHeld => ?_)
      · exact keepS hHeld hlt _
      clear hK K
      (try go_frame)
      refine wpAnyH_done (by kernel_rfl) ?_ _
      go_wp2
      refine bodyPost_ret (v := .agg (List.toArray _)) (results_agg rfl rfl (World.rangeAt_setCells_same _ _ _ _ hthz) Tryz.underlying231 rfl hi) rfl ?_
      refine ⟨_, _, rfl, ?_, ?_, ?_, ?_, ?_, hHeld.1⟩
      · omega
      · omega
      · omega
      · refine Row.setCells' (by omega) _ _ ?_
        repeat (first | exact Row.new' (by simp) | refine Row.alloc ?_ _ | refine Row.old ?_ hb2)
      · refine Row.setCells' (by omega) _ _ ?_
        repeat (first | exact Row.new' (by simp) | refine Row.alloc ?_ _ | refine Row.old ?_ hb2)
end Go.Proofs.YtefjhnhdagolhaaGreat.int
namespace Go.Proofs.YtefjhnhdagolhaaGreat.int
open Go.RowKit
theorem sized_edition : (Tryz.prog.info? 227).map (fun i => decide (i.size = 0)) = some false := by kernel_rfl
set_option maxHeartbeats 400000 in
theorem atomStore (b o g : Nat) (u v : Value) (w : World) (hc : w.cell? ⟨b, o, none⟩ = some u) (hz : w.frozen? ⟨b, o, none⟩ = false) (hg : w.cell? ⟨g, 0, none⟩ = some v) :
    Calls Tryz.prog 158 #[.pointer (some ⟨b, o, none⟩), .pointer (some ⟨g, 0, none⟩)] w fun e w' => e = .returned (.tuple #[]) ∧ w' = w.setCell ⟨b, o, none⟩ (.pointer (some ⟨g, 0, none⟩)) := by
  have hcv := run_convert_to_unsafe (P := Tryz.prog) (src := 297) (dst := 208) (t := 227) Tryz.underlying297 Tryz.underlying208 sized_edition hg
  have hst := run_call_storeP (P := Tryz.prog) Tryz.func165 (by kernel_rfl) (by kernel_rfl) (by kernel_rfl) (by kernel_rfl) (y := some ⟨g, 0, none⟩) hc hz
  clear hc hz hg
  go_enter Tryz.func158, Tryz.ntmps158
  go_wp2
  go_end0
  exact ⟨rfl, rfl⟩
theorem lies_edition : liesAt Tryz.prog Tryz.prog.depth 227 (4 / Tryz.prog.cellsOf 227) 0 227 1 = true := by kernel_rfl
set_option maxHeartbeats 400000 in
theorem atomLoad (b o g : Nat) (xs : List Value) (w : World) (hc : w.cell? ⟨b, o, none⟩ = some (.pointer (some ⟨g, 0, none⟩))) (hg : Row w g 227 xs) (hx : xs.length = 4) :
    Calls Tryz.prog 238 #[.pointer (some ⟨b, o, none⟩)] w fun e w' => e = .returned (.pointer (some ⟨g, 0, none⟩)) ∧ w' = w := by
  have hcv := run_from_unsafe (P := Tryz.prog) (src := 208) (dst := 297) (u := 227) Tryz.underlying208 Tryz.underlying297 hg sized_edition (by rw [hx]; exact lies_edition)
  have hld := run_call_loadP (P := Tryz.prog) Tryz.func245 (by kernel_rfl) (by kernel_rfl) (by kernel_rfl) (by kernel_rfl) hc
  clear hc hg hx
  go_enter Tryz.func238, Tryz.ntmps238
  go_wp2
  go_ret
  exact ⟨rfl, rfl⟩
end Go.Proofs.YtefjhnhdagolhaaGreat.int
