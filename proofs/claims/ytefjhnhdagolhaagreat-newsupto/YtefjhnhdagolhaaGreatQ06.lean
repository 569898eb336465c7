import Derived.Test.YtefjhnhdagolhaaGreatQ00
import Derived.Test.YtefjhnhdagolhaaGreatQ01
import Derived.Test.YtefjhnhdagolhaaGreatProg
namespace Go.Proofs.YtefjhnhdagolhaaGreat.row
open Go.RowKit
attribute [local go_sem ↓] Go.wp_at_zero Go.wp_at_succ
def thNew (bS : Nat) (i most : Int) (gD nD gG nG : Nat) : List Value :=
  [.pointer (some ⟨bS, 0, none⟩), .int .i64 i, .int .i64 most, .int .i64 0, .int .i64 0, .int .i64 0, .int .i64 0, .int .i64 0, .bool false, .int .i64 0, .bool false, .int .i64 (2 * i + 1), .int .i64 (2 * i + 2), .int .i64 0,
    .slice (some ⟨gD, 0, none⟩) nD nD] ++ [.pointer none, .pointer none] ++ [.pointer none] ++ [.pointer none, .pointer none] ++ [.pointer none, .slice (some ⟨gG, 0, none⟩) nG nG, .slice none 0 0, .int .i64 0, .int .i64 0, .int .i64 0, .int .i64 0, .int .i64 0, .int .i64 0, .bool false]
set_option maxRecDepth 20000 in
set_option maxHeartbeats 4000000 in
theorem newThread_any (bS : Nat) (n i most : Int) (w : World) (hc : w.cell? ⟨bS, 0, none⟩ = some (.int .i64 n)) (h0 : 1 ≤ n) (h1 : n ≤ 64) (h2 : 0 ≤ i) (h3 : i ≤ 64) :
    Calls Tryz.prog 138 #[.pointer (some ⟨bS, 0, none⟩), .int .i64 i, .int .i64 most] w fun e w' => ∃ gD gG, e = .returned (.agg (thNew bS i most gD ((n + 15) / 16 + 2 * n).toNat gG ((n + 15) / 16).toNat).toArray) ∧ w.heap.size ≤ gD ∧ w.heap.size ≤ gG ∧ gD ≠ gG ∧
      Row w' gD 3 (zeros (.int .i64 0) ((n + 15) / 16 + 2 * n).toNat) ∧ Row w' gG 3 (zeros (.int .i64 0) ((n + 15) / 16).toNat) ∧ Below w.heap.size w w' := by
  have hmk1 := run_make_zeros (P := Tryz.prog) 22 3 (.int .i64 0) 8 Tryz.underlying22 info_int rfl ((n + 15) / 16 + 2 * n) ((n + 15) / 16 + 2 * n).toNat (by omega) (by omega) (by omega)
  have hmk2 := run_make_zeros (P := Tryz.prog) 22 3 (.int .i64 0) 8 Tryz.underlying22 info_int rfl ((n + 15) / 16) ((n + 15) / 16).toNat (by omega) (by omega) (by omega)
  have hi : (Tryz.prog.info? 259).map (·.size) = some 30 := by kernel_rfl
  have hw1 : IntKind.i64.wrap (2 * i) = 2 * i := wrapi _ (by omega) (by omega)
  have hw2 : IntKind.i64.wrap (2 * i + 1) = 2 * i + 1 := wrapi _ (by omega) (by omega)
  have hw3 : IntKind.i64.wrap (2 * i + 2) = 2 * i + 2 := wrapi _ (by omega) (by omega)
  have hlt : bS < w.heap.size := World.block_lt_of_cell? w _ hc
  go_enter Tryz.func138, Tryz.ntmps138
  go_wp2
  generalize hW0 : World.alloc w _ = W0
  have hb0 : Below w.heap.size w W0 := by rw [← hW0]; exact below_alloc w _
  have hs0 : w.heap.size < W0.heap.size := by rw [← hW0]; simp
  have hth : W0.there w.heap.size 0 30 := by rw [← hW0]; exact Row.there (t := 259) (Row.new w _ 259) (by simp)
  clear hW0
  refine rg0 (S := (fun w' => Below w.heap.size w w' ∧ w'.cell? ⟨bS, 0, none⟩ = some (.int .i64 n) ∧ w'.there w.heap.size 0 30)) 24 rfl (by kernel_rfl) ?_ (fun hHeld => ?_)
  · exact keepI hb0 hc hth
  iterate 13 (refine tk 23 (by rfl) (by kernel_rfl) (by exact fun _ _ _ h => h) (.inl ⟨by rfl, fun w hS => by (try dsimp only at hS); go_simp; (try with_reducible rfl)⟩) (by assumption) ?_; try go_frame)
  iterate 4 (refine tk 26 (by rfl) (by kernel_rfl) (by exact fun _ _ _ h => h) (.inl ⟨by rfl, fun w hS => by (try dsimp only at hS); go_simp; (try with_reducible rfl)⟩) (by assumption) ?_; try go_frame)
  refine rd1 13 (by rfl) (by kernel_rfl) (fun K hK => ?_)
  go_simp
  refine (recordWords_any n _ h0 h1).mono ?_
  rintro e w3 ⟨rfl, hb3⟩
  have hz3 := hb3.size
  (try simp at hz3)
  go_wp2_with fail
  refine hK.out _ _ ?_ (fun hHeld => ?_)
  · exact keepC hHeld hb3
  clear hK K
  (try go_frame)
  refine wpAnyH_ready (rs := [14, 20]) (by kernel_rfl) (by simp) (rc (by rfl) (fun K hK => ?_) (rc (by rfl) (fun K hK => ?_) AllReadyH.nil))
  · go_simp
    refine hK.out _ _ ?_ (fun hHeld => ?_)
    · exact keepA hHeld _
    clear hK K
    (try go_frame)
    iterate 1 (refine tk 19 (by rfl) (by kernel_rfl) (by exact fun _ _ _ h => h) (.inl ⟨by rfl, fun w hS => by (try dsimp only at hS); go_simp; (try with_reducible rfl)⟩) (by assumption) ?_; try go_frame)
    refine rd1 20 (by rfl) (by kernel_rfl) (fun K hK => ?_)
    go_simp
    refine (toggleWords_any n _ h0 h1).mono ?_
    rintro e w2 ⟨rfl, hb2⟩
    have hz2 := hb2.size
    (try simp at hz2)
    go_wp2_with fail
    refine hK.out _ _ ?_ (fun hHeld => ?_)
    · exact keepC hHeld hb2
    clear hK K
    (try go_frame)
    refine rd1 21 (by rfl) (by kernel_rfl) (fun K hK => ?_)
    go_simp
    refine hK.out _ _ ?_ (fun hHeld => ?_)
    · exact keepA hHeld _
    clear hK K
    (try go_frame)
    iterate 1 (refine tk 23 (by rfl) (by kernel_rfl) (by exact fun _ _ _ h => h) (.inl ⟨by rfl, fun w hS => by (try dsimp only at hS); go_simp; (try with_reducible rfl)⟩) (by assumption) ?_; try go_frame)
    refine rd1 23 (by rfl) (by kernel_rfl) (fun K hK => ?_)
    rw [if_pos (by rfl)]
    refine wp_store_mid _ _ _ rfl _ _ (List.toArray _) rfl rfl ?_ ?_ ?_ ?_
    · exact hHeld.2.2
    · exact hi
    · exact all_oneCell_toArray (by simp [Value.oneCell'])
    have hthz := hHeld.2.2
    refine hK.out _ _ ?_ (fun hHeld => ?_)
    · exact keepS hHeld hlt _
    clear hK K
    (try go_frame)
    refine wpAnyH_done (by kernel_rfl) ?_ _
    go_wp2
    refine bodyPost_ret (v := .agg (List.toArray _)) (results_agg rfl rfl (World.rangeAt_setCells_same _ _ _ _ hthz) Tryz.underlying259 rfl hi) rfl ?_
    refine ⟨_, _, rfl, ?_, ?_, ?_, ?_, ?_, hHeld.1⟩
    · omega
    · omega
    · omega
    · refine Row.setCells' (by omega) _ _ ?_
      repeat (first | exact Row.new' (by simp) | refine Row.alloc ?_ _ | refine Row.old ?_ hb2)
    · refine Row.setCells' (by omega) _ _ ?_
      repeat (first | exact Row.new' (by simp) | refine Row.alloc ?_ _ | refine Row.old ?_ hb2)
  · go_simp
    refine (toggleWords_any n _ h0 h1).mono ?_
    rintro e w2 ⟨rfl, hb2⟩
    have hz2 := hb2.size
    (try simp at hz2)
    go_wp2_with fail
    refine hK.out _ _ ?_ (fun hHeld => ?_)
    · exact keepC hHeld hb2
    clear hK K
    (try go_frame)
    refine wpAnyH_ready (rs := [14, 21]) (by kernel_rfl) (by simp) (rc (by rfl) (fun K hK => ?_) (rc (by rfl) (fun K hK => ?_) AllReadyH.nil))
    · go_simp
      refine hK.out _ _ ?_ (fun hHeld => ?_)
      · exact keepA hHeld _
      clear hK K
      (try go_frame)
      iterate 1 (refine tk 18 (by rfl) (by kernel_rfl) (by exact fun _ _ _ h => h) (.inl ⟨by rfl, fun w hS => by (try dsimp only at hS); go_simp; (try with_reducible rfl)⟩) (by assumption) ?_; try go_frame)
      refine rd1 21 (by rfl) (by kernel_rfl) (fun K hK => ?_)
      go_simp
      refine hK.out _ _ ?_ (fun hHeld => ?_)
      · exact keepA hHeld _
      clear hK K
      (try go_frame)
      iterate 1 (refine tk 23 (by rfl) (by kernel_rfl) (by exact fun _ _ _ h => h) (.inl ⟨by rfl, fun w hS => by (try dsimp only at hS); go_simp; (try with_reducible rfl)⟩) (by assumption) ?_; try go_frame)
      refine rd1 23 (by rfl) (by kernel_rfl) (fun K hK => ?_)
      rw [if_pos (by rfl)]
      refine wp_store_mid _ _ _ rfl _ _ (List.toArray _) rfl rfl ?_ ?_ ?_ ?_
      · exact hHeld.2.2
      · exact hi
      · exact all_oneCell_toArray (by simp [Value.oneCell'])
      have hthz := hHeld.2.2
      refine hK.out _ _ ?_ (fun hHeld => ?_)
      · exact keepS hHeld hlt _
      clear hK K
      (try go_frame)
      refine wpAnyH_done (by kernel_rfl) ?_ _
      go_wp2
      refine bodyPost_ret (v := .agg (List.toArray _)) (results_agg rfl rfl (World.rangeAt_setCells_same _ _ _ _ hthz) Tryz.underlying259 rfl hi) rfl ?_
      refine ⟨_, _, rfl, ?_, ?_, ?_, ?_, ?_, hHeld.1⟩
      · omega
      · omega
      · omega
      · refine Row.setCells' (by omega) _ _ ?_
        repeat (first | exact Row.new' (by simp) | refine Row.alloc ?_ _ | refine Row.old ?_ hb2)
      · refine Row.setCells' (by omega) _ _ ?_
        repeat (first | exact Row.new' (by simp) | refine Row.alloc ?_ _ | refine Row.old ?_ hb2)
    · go_simp
      refine hK.out _ _ ?_ (fun hHeld => ?_)
      · exact keepA hHeld _
      clear hK K
      (try go_frame)
      refine rd1 14 (by rfl) (by kernel_rfl) (fun K hK => ?_)
      go_simp
      refine hK.out _ _ ?_ (fun hHeld => ?_)
      · exact keepA hHeld _
      clear hK K
      (try go_frame)
      iterate 1 (refine tk 17 (by rfl) (by kernel_rfl) (by exact fun _ _ _ h => h) (.inl ⟨by rfl, fun w hS => by (try dsimp only at hS); go_simp; (try with_reducible rfl)⟩) (by assumption) ?_; try go_frame)
      iterate 1 (refine tk 23 (by rfl) (by kernel_rfl) (by exact fun _ _ _ h => h) (.inl ⟨by rfl, fun w hS => by (try dsimp only at hS); go_simp; (try with_reducible rfl)⟩) (by assumption) ?_; try go_frame)
      refine rd1 23 (by rfl) (by kernel_rfl) (fun K hK => ?_)
      rw [if_pos (by rfl)]
      refine wp_store_mid _ _ _ rfl _ _ (List.toArray _) rfl rfl ?_ ?_ ?_ ?_
      · exact hHeld.2.2
      · exact hi
      · exact all_oneCell_toArray (by simp [Value.oneCell'])
      have hthz := hHeld.2.2
      refine hK.out _ _ ?_ (fun hHeld => ?_)
      · exact keepS hHeld hlt _
      clear hK K
      (try go_frame)
      refine wpAnyH_done (by kernel_rfl) ?_ _
      go_wp2
      refine bodyPost_ret (v := .agg (List.toArray _)) (results_agg rfl rfl (World.rangeAt_setCells_same _ _ _ _ hthz) Tryz.underlying259 rfl hi) rfl ?_
      refine ⟨_, _, rfl, ?_, ?_, ?_, ?_, ?_, hHeld.1⟩
      · omega
      · omega
      · omega
      · refine Row.setCells' (by omega) _ _ ?_
        repeat (first | exact Row.new' (by simp) | refine Row.alloc ?_ _ | refine Row.old ?_ hb2)
      · refine Row.setCells' (by omega) _ _ ?_
        repeat (first | exact Row.new' (by simp) | refine Row.alloc ?_ _ | refine Row.old ?_ hb2)
end Go.Proofs.YtefjhnhdagolhaaGreat.row
namespace Go.Proofs.YtefjhnhdagolhaaGreat.row
open Go.RowKit
theorem sized_edition : (Tryz.prog.info? 255).map (fun i => decide (i.size = 0)) = some false := by kernel_rfl
set_option maxHeartbeats 400000 in
theorem atomStore (b o g : Nat) (u v : Value) (w : World) (hc : w.cell? ⟨b, o, none⟩ = some u) (hz : w.frozen? ⟨b, o, none⟩ = false) (hg : w.cell? ⟨g, 0, none⟩ = some v) :
    Calls Tryz.prog 160 #[.pointer (some ⟨b, o, none⟩), .pointer (some ⟨g, 0, none⟩)] w fun e w' => e = .returned (.tuple #[]) ∧ w' = w.setCell ⟨b, o, none⟩ (.pointer (some ⟨g, 0, none⟩)) := by
  have hcv := run_convert_to_unsafe (P := Tryz.prog) (src := 324) (dst := 208) (t := 255) Tryz.underlying324 Tryz.underlying208 sized_edition hg
  have hst := run_call_storeP (P := Tryz.prog) Tryz.func165 (by kernel_rfl) (by kernel_rfl) (by kernel_rfl) (by kernel_rfl) (y := some ⟨g, 0, none⟩) hc hz
  clear hc hz hg
  go_enter Tryz.func160, Tryz.ntmps160
  go_wp2
  go_end0
  exact ⟨rfl, rfl⟩
theorem lies_edition : liesAt Tryz.prog Tryz.prog.depth 255 (6 / Tryz.prog.cellsOf 255) 0 255 1 = true := by kernel_rfl
set_option maxHeartbeats 400000 in
theorem atomLoad (b o g : Nat) (xs : List Value) (w : World) (hc : w.cell? ⟨b, o, none⟩ = some (.pointer (some ⟨g, 0, none⟩))) (hg : Row w g 255 xs) (hx : xs.length = 6) :
    Calls Tryz.prog 322 #[.pointer (some ⟨b, o, none⟩)] w fun e w' => e = .returned (.pointer (some ⟨g, 0, none⟩)) ∧ w' = w := by
  have hcv := run_from_unsafe (P := Tryz.prog) (src := 208) (dst := 324) (u := 255) Tryz.underlying208 Tryz.underlying324 hg sized_edition (by rw [hx]; exact lies_edition)
  have hld := run_call_loadP (P := Tryz.prog) Tryz.func245 (by kernel_rfl) (by kernel_rfl) (by kernel_rfl) (by kernel_rfl) hc
  clear hc hg hx
  go_enter Tryz.func322, Tryz.ntmps322
  go_wp2
  go_ret
  exact ⟨rfl, rfl⟩
end Go.Proofs.YtefjhnhdagolhaaGreat.row
namespace Go.Proofs.YtefjhnhdagolhaaGreat.row
open Go.RowKit
attribute [local go_sem ↓] Go.wp_at_zero Go.wp_at_succ
theorem info_word : (Tryz.prog.info? 387).map (fun i => (i.zero, i.size, i.bytes)) = some (some (.agg #[.int .i64 0]), 1, 8) := by kernel_rfl
theorem info_words3 : (Tryz.prog.info? 388).map (fun i => (i.zero, i.size, i.bytes)) = some (some (.agg #[.int .i64 0, .int .i64 0, .int .i64 0]), 3, 24) := by kernel_rfl
theorem info_record : (Tryz.prog.info? 331).map (fun i => (i.zero, i.size, i.bytes)) = some (some (.agg #[.slice none 0 0, .pointer none]), 2, 32) := by kernel_rfl
def tw (n : Nat) : Nat := (n + 15) / 16
def rwn (n : Nat) : Nat := (n + 15) / 16 + 2 * n
def ShI (W0 : World) (bS bTg bAn bP n : Nat) (oT : TypeId) (ov : Value) (k : Nat) (bW : Nat → Nat) (w' : World) : Prop :=
  Row w' bS 323 [.int .i64 (n : Int), .iface oT ov, .slice (some ⟨bTg, 0, none⟩) (tw n) (tw n), .slice (some ⟨bAn, 0, none⟩) n n, .slice (some ⟨bP, 0, none⟩) (2 * n + 1) (2 * n + 1), .int .i64 0] ∧
  Row w' bTg 387 (zeros (.int .i64 0) (tw n)) ∧ Row w' bAn 388 (zeros (.int .i64 0) (n * 3)) ∧ Row w' bP 331 (poolAt (2 * n + 1) (rwn n) k bW) ∧
  (∀ r, r < k → Row w' (bW r) 387 (zeros (.int .i64 0) (rwn n)) ∧ bS < bW r) ∧ (∀ r s, r < s → s < k → bW r < bW s) ∧ Below W0.heap.size W0 w'
theorem ShI.next {W0 : World} {bS bTg bAn bP n : Nat} {oT : TypeId} {ov : Value} {k : Nat} {bW : Nat → Nat} {w' w3 : World} (h : ShI W0 bS bTg bAn bP n oT ov k bW w') (hb : Below w'.heap.size w' w3)
    (z3 : W0.heap.size ≤ bP) (z5 : bTg ≠ bP) (z6 : bAn ≠ bP) (z9 : bP < bS) :
    ShI W0 bS bTg bAn bP n oT ov (k + 1) (fun r => if r = k then w3.heap.size else bW r) ((w3.alloc (.cells (zeros (.int .i64 0) (rwn n)).toArray 387)).setCell ⟨bP, 2 * k, none⟩ (.slice (some ⟨w3.heap.size, 0, none⟩) (rwn n) (rwn n))) := by
  obtain ⟨hS, hTg, hAn, hP, hW, hI, hB⟩ := h
  have hz := hb.size
  have hlP := hP.lt
  have hlS := hS.lt
  refine ⟨((hS.old hb).alloc _).setOther (by simp; omega) _, ((hTg.old hb).alloc _).setOther z5 _, ((hAn.old hb).alloc _).setOther z6 _, ?_, ?_, ?_, ?_⟩
  · rw [← poolAt_set]; exact ((hP.old hb).alloc _).set _ _
  · intro r hr
    by_cases e : r = k
    · subst e
      simp only [if_true]
      exact ⟨(Row.new' rfl).setOther (by simp; omega) _, by omega⟩
    · simp only [if_neg e]
      obtain ⟨h1, h2⟩ := hW r (by omega)
      exact ⟨((h1.old hb).alloc _).setOther (by simp; omega) _, h2⟩
  · intro r s h1 h2
    by_cases e : s = k
    · subst e
      have hr := (hW r h1).1.lt
      simp only [if_true, if_neg (show ¬ r = s by omega)]
      omega
    · simp only [if_neg e, if_neg (show ¬ r = k by omega)]
      exact hI r s h1 (by omega)
  · exact (Below.alloc (Below.next hB hb hB.size) (Nat.le_trans hB.size hz) _).setCell z3 _
def edNew (bB : Nat) : List Value := [.pointer none, .pointer none] ++ [.pointer (some ⟨bB, 0, none⟩)] ++ [.pointer none, .pointer none] ++ [.pointer (some ⟨bB, 0, none⟩)]
def ShNew (base bS bTg bAn bP n : Nat) (oT : TypeId) (ov : Value) (bW : Nat → Nat) (bB bE : Nat) (w' : World) : Prop :=
  Row w' bS 323 [.int .i64 (n : Int), .iface oT ov, .slice (some ⟨bTg, 0, none⟩) (tw n) (tw n), .slice (some ⟨bAn, 0, none⟩) n n, .slice (some ⟨bP, 0, none⟩) (2 * n + 1) (2 * n + 1), .int .i64 0] ∧
  Row w' bTg 387 (zeros (.int .i64 0) (tw n)) ∧ Row w' bAn 388 (zeros (.int .i64 0) (n * 3)) ∧ Row w' bP 331 ((poolAt (2 * n + 1) (rwn n) (2 * n + 1) bW).set 1 (.pointer (some ⟨bE, 0, none⟩))) ∧
  (∀ r, r < 2 * n + 1 → Row w' (bW r) 387 (zeros (.int .i64 0) (rwn n)) ∧ bS < bW r ∧ bW r < bB) ∧ (∀ r s, r < s → s < 2 * n + 1 → bW r < bW s) ∧
  Row w' bB 306 [.int .i64 0, .slice none 0 0, .pointer none] ∧ Row w' bE 255 (edNew bB) ∧
  base ≤ bTg ∧ base ≤ bAn ∧ base ≤ bP ∧ bTg ≠ bAn ∧ bTg ≠ bP ∧ bAn ≠ bP ∧ bTg < bS ∧ bAn < bS ∧ bP < bS ∧ bB < bE
theorem ShNew.base {base base' bS bTg bAn bP n : Nat} {oT : TypeId} {ov : Value} {bW : Nat → Nat} {bB bE : Nat} {w' : World} (h : ShNew base bS bTg bAn bP n oT ov bW bB bE w') (hb : base' ≤ base) : ShNew base' bS bTg bAn bP n oT ov bW bB bE w' := by
  obtain ⟨a1, a2, a3, a4, a5, a6, a7, a8, z1, z2, z3, z⟩ := h
  exact ⟨a1, a2, a3, a4, a5, a6, a7, a8, by omega, by omega, by omega, z⟩
theorem ShI.done {W0 : World} {bS bTg bAn bP n : Nat} {oT : TypeId} {ov : Value} {bW : Nat → Nat} {wr w4 W5 w6 : World} {vs : List Value} (h : ShI W0 bS bTg bAn bP n oT ov (2 * n + 1) bW wr) (hb4 : Below wr.heap.size wr w4)
    (h5 : W5 = (w4.alloc (.cells [Value.int .i64 0, .slice none 0 0, .pointer none].toArray 306)).alloc (.cells vs.toArray 253))
    (h6 : w6 = (W5.alloc (.cells (edNew w4.heap.size).toArray 255)).drew.setCell ⟨bP, 1, none⟩ (.pointer (some ⟨W5.heap.size, 0, none⟩)))
    (z1 : W0.heap.size ≤ bTg) (z2 : W0.heap.size ≤ bAn) (z3 : W0.heap.size ≤ bP) (z4 : bTg ≠ bAn) (z5 : bTg ≠ bP) (z6 : bAn ≠ bP) (z7 : bTg < bS) (z8 : bAn < bS) (z9 : bP < bS) :
    ShNew W0.heap.size bS bTg bAn bP n oT ov bW w4.heap.size W5.heap.size w6 ∧ Below W0.heap.size W0 w6 := by
  obtain ⟨hS, hTg, hAn, hP, hW, hI, hB⟩ := h
  have hz := hb4.size
  have hlP := hP.lt
  have hlS := hS.lt
  have hs5 : W5.heap.size = w4.heap.size + 2 := by rw [h5]; simp
  have hb5 : Below w4.heap.size w4 W5 := by rw [h5]; exact ((Below.refl _ _).alloc (Nat.le_refl _) _).alloc (by simp) _
  have hbB : Row W5 w4.heap.size 306 [.int .i64 0, .slice none 0 0, .pointer none] := by rw [h5]; exact (Row.new' rfl).alloc _
  have old : ∀ {g : Nat} {t : TypeId} {xs : List Value}, Row wr g t xs → g ≠ bP → Row w6 g t xs := fun {g t xs} hr hne => by
    rw [h6]; exact Row.setOther (a := ⟨bP, 1, none⟩) (Row.alloc ((hr.old hb4).old hb5) _).drew hne _
  refine ⟨⟨old hS (by omega), old hTg z5, old hAn z6, ?_, ?_, hI, ?_, ?_, z1, z2, z3, z4, z5, z6, z7, z8, z9, by omega⟩, ?_⟩
  · rw [h6]; exact (Row.alloc ((hP.old hb4).old hb5) _).drew.set _ _
  · intro r hr
    obtain ⟨h1, h2⟩ := hW r hr
    have := h1.lt
    exact ⟨old h1 (by omega), h2, by omega⟩
  · rw [h6]; exact Row.setOther (a := ⟨bP, 1, none⟩) (Row.alloc hbB _).drew (by simp; omega) _
  · rw [h6]; exact Row.setOther (a := ⟨bP, 1, none⟩) (Row.new' (w := W5) rfl).drew (by simp; omega) _
  · rw [h6]
    have hq : Below W0.heap.size W0 W5 := Below.next (Below.next hB hb4 hB.size) hb5 (Nat.le_trans hB.size hz)
    exact (Below.alloc hq hq.size _).drew.setCell z3 _
set_option maxRecDepth 20000 in
set_option maxHeartbeats 4000000 in
theorem newShared_any (oT : TypeId) (ov : Value) (fF : Nat) (rv : Value) (hm : ∀ w, (method 553 oT ov "First").run Tryz.prog w = .ok (fF, rv) w) (hcf : ∀ w, (callFunc fF #[rv]).run Tryz.prog w = .ok (.enter fF #[rv]) w)
    (hF : ∀ w, Calls Tryz.prog fF #[rv] w fun e w' => e = .returned (.agg #[.pointer none, .pointer none]) ∧ Below w.heap.size w w') (n : Nat) (w : World) (_h0 : 1 ≤ n) (_h1 : n ≤ 64) :
    Calls Tryz.prog 137 #[.iface oT ov, .int .i64 (n : Int)] w fun e w' => ∃ bS bTg bAn bP bW bB bE, e = .returned (.pointer (some ⟨bS, 0, none⟩)) ∧ ShNew w.heap.size bS bTg bAn bP n oT ov bW bB bE w' ∧ Below w.heap.size w w' := by
  have hmkW := run_make_rep (P := Tryz.prog) 288 387 (.agg #[.int .i64 0]) 1 8 [.int .i64 0] Tryz.underlying288 info_word rfl (by decide) (((n : Int) + 15) / 16) (tw n) (by unfold tw; omega) (by unfold tw; omega) (by unfold tw; omega)
  have hmkR := run_make_rep (P := Tryz.prog) 288 387 (.agg #[.int .i64 0]) 1 8 [.int .i64 0] Tryz.underlying288 info_word rfl (by decide) (((n : Int) + 15) / 16 + 2 * (n : Int)) (rwn n) (by unfold rwn; omega) (by unfold rwn; omega) (by unfold rwn; omega)
  have hmkA := run_make_rep (P := Tryz.prog) 289 388 (.agg #[.int .i64 0, .int .i64 0, .int .i64 0]) 3 24 [.int .i64 0, .int .i64 0, .int .i64 0] Tryz.underlying289 info_words3 rfl (by decide) (n : Int) n (by omega) (by omega) (by omega)
  have hmkP := run_make_rep (P := Tryz.prog) 321 331 (.agg #[.slice none 0 0, .pointer none]) 2 32 [.slice none 0 0, .pointer none] Tryz.underlying321 info_record rfl (by decide) (2 * (n : Int) + 1) (2 * n + 1) (by omega) (by omega) (by omega)
  rw [rep_one] at hmkW hmkR
  rw [rep_three] at hmkA
  have hw1 : IntKind.i64.wrap (2 * (n : Int)) = 2 * (n : Int) := wrapi _ (by omega) (by omega)
  have hw2 : IntKind.i64.wrap (2 * (n : Int) + 1) = 2 * (n : Int) + 1 := wrapi _ (by omega) (by omega)
  have HF := hide hF
  clear hF
  go_enter Tryz.func137, Tryz.ntmps137
  go_wp2
  generalize hW0 : World.alloc w _ = W0
  have hb0 : Below w.heap.size w W0 := by rw [← hW0]; exact below_alloc w _
  have hs0 : w.heap.size < W0.heap.size := by rw [← hW0]; simp
  have hc0 : W0.cell? ⟨w.heap.size, 0, none⟩ = some (.int .i64 (n : Int)) := by rw [← hW0]; exact (Row.new w [_] 287).cell_of rfl
  clear hW0
  go_cut [6] (fun s w' => ∃ bS bTg bAn bP, s = .pointer (some ⟨bS, 0, none⟩) ∧
    Row w' bS 323 [.int .i64 (n : Int), .iface oT ov, .slice (some ⟨bTg, 0, none⟩) (tw n) (tw n), .slice (some ⟨bAn, 0, none⟩) n n, .slice (some ⟨bP, 0, none⟩) (2 * n + 1) (2 * n + 1), .int .i64 0] ∧
    Below W0.heap.size W0 w' ∧ W0.heap.size ≤ bTg ∧ W0.heap.size ≤ bAn ∧ W0.heap.size ≤ bP ∧ bTg ≠ bAn ∧ bTg ≠ bP ∧ bAn ≠ bP ∧ bTg < bS ∧ bAn < bS ∧ bP < bS ∧
    Row w' bTg 387 (zeros (.int .i64 0) (tw n)) ∧ Row w' bAn 388 (zeros (.int .i64 0) (n * 3)) ∧ Row w' bP 331 (rep [.slice none 0 0, .pointer none] ((2 * n + 1) * 2)))
  case first =>
    refine rg0 (S := (fun w' => Below W0.heap.size W0 w' ∧ w'.cell? ⟨w.heap.size, 0, none⟩ = some (.int .i64 (n : Int)))) 14 rfl (by kernel_rfl) ?_ (fun hHeld => ?_)
    · exact ⟨Below.drew (Below.refl _ _), hc0⟩
    iterate 3 (refine tk 13 (by rfl) (by kernel_rfl) (by exact fun _ _ _ h => h) (.inl ⟨by rfl, fun w hS => by (try dsimp only at hS); go_simp; (try with_reducible rfl)⟩) (by assumption) ?_; try go_frame)
    iterate 1 (refine tk 15 (by rfl) (by kernel_rfl) (by exact fun _ _ _ h => h) (.inl ⟨by rfl, fun w hS => by (try dsimp only at hS); go_simp; (try with_reducible rfl)⟩) (by assumption) ?_; try go_frame)
    iterate 3 (refine tk 16 (by rfl) (by kernel_rfl) (by exact fun _ _ _ h => h) (.inl ⟨by rfl, fun w hS => by (try dsimp only at hS); go_simp; (try with_reducible rfl)⟩) (by assumption) ?_; try go_frame)
    refine wpAnyH_ready (rs := [3, 6, 10]) (by kernel_rfl) (by simp) (rc (by rfl) (fun K hK => ?_) (rc (by rfl) (fun K hK => ?_) (rc (by rfl) (fun K hK => ?_) AllReadyH.nil)))
    · go_simp
      refine (toggleWords_any (n : Int) _ (by omega) (by omega)).mono ?_
      rintro e w2 ⟨rfl, hb2⟩
      have hz2 := hb2.size
      (try simp at hz2)
      go_wp2_with fail
      refine hK.out _ _ ?_ (fun hHeld => ?_)
      · exact ⟨Below.next hHeld.1 hb2 hHeld.1.size, cell_later hb2 hHeld.2⟩
      clear hK K
      (try go_frame)
      refine wpAnyH_ready (rs := [4, 6, 10]) (by kernel_rfl) (by simp) (rc (by rfl) (fun K hK => ?_) (rc (by rfl) (fun K hK => ?_) (rc (by rfl) (fun K hK => ?_) AllReadyH.nil)))
      · go_simp
        refine hK.out _ _ ?_ (fun hHeld => ?_)
        · exact ⟨hHeld.1.alloc hHeld.1.size _, cell_later (below_alloc _ _) hHeld.2⟩
        clear hK K
        (try go_frame)
        refine wpAnyH_ready (rs := [6, 10]) (by kernel_rfl) (by simp) (rc (by rfl) (fun K hK => ?_) (rc (by rfl) (fun K hK => ?_) AllReadyH.nil))
        · go_simp
          refine hK.out _ _ ?_ (fun hHeld => ?_)
          · exact ⟨hHeld.1.alloc hHeld.1.size _, cell_later (below_alloc _ _) hHeld.2⟩
          clear hK K
          (try go_frame)
          refine rd1 10 (by rfl) (by kernel_rfl) (fun K hK => ?_)
          go_simp
          refine hK.out _ _ ?_ (fun hHeld => ?_)
          · exact ⟨hHeld.1.alloc hHeld.1.size _, cell_later (below_alloc _ _) hHeld.2⟩
          clear hK K
          (try go_frame)
          iterate 1 (refine tk 13 (by rfl) (by kernel_rfl) (by exact fun _ _ _ h => h) (.inl ⟨by rfl, fun w hS => by (try dsimp only at hS); go_simp; (try with_reducible rfl)⟩) (by assumption) ?_; try go_frame)
          refine rd1 12 (by rfl) (by kernel_rfl) (fun K hK => ?_)
          go_simp
          refine hK.out _ _ ?_ (fun hHeld => ?_)
          · exact ⟨hHeld.1.alloc hHeld.1.size _, cell_later (below_alloc _ _) hHeld.2⟩
          clear hK K
          (try go_frame)
          iterate 1 (refine tk 13 (by rfl) (by kernel_rfl) (by exact fun _ _ _ h => h) (.inl ⟨by rfl, fun w hS => by (try dsimp only at hS); go_simp; (try with_reducible rfl)⟩) (by assumption) ?_; try go_frame)
          refine wpAnyH_done (by kernel_rfl) ?_ _
          (try go_wp2_with fail)
          go_meet
          case rel =>
            refine ⟨_, _, _, _, rfl, Row.new' (by simp), hHeld.1, ?_⟩
            (refine ⟨?_, ?_, ?_, ?_, ?_, ?_, ?_, ?_, ?_, ?_, ?_, ?_⟩) <;> first | (simp; omega) | omega | (repeat (first | exact Row.new' (by simp) | refine Row.alloc ?_ _ | refine Row.old ?_ hb2))
        · go_simp
          refine hK.out _ _ ?_ (fun hHeld => ?_)
          · exact ⟨hHeld.1.alloc hHeld.1.size _, cell_later (below_alloc _ _) hHeld.2⟩
          clear hK K
          (try go_frame)
          refine rd1 6 (by rfl) (by kernel_rfl) (fun K hK => ?_)
          go_simp
          refine hK.out _ _ ?_ (fun hHeld => ?_)
          · exact ⟨hHeld.1.alloc hHeld.1.size _, cell_later (below_alloc _ _) hHeld.2⟩
          clear hK K
          (try go_frame)
          iterate 1 (refine tk 13 (by rfl) (by kernel_rfl) (by exact fun _ _ _ h => h) (.inl ⟨by rfl, fun w hS => by (try dsimp only at hS); go_simp; (try with_reducible rfl)⟩) (by assumption) ?_; try go_frame)
          refine rd1 12 (by rfl) (by kernel_rfl) (fun K hK => ?_)
          go_simp
          refine hK.out _ _ ?_ (fun hHeld => ?_)
          · exact ⟨hHeld.1.alloc hHeld.1.size _, cell_later (below_alloc _ _) hHeld.2⟩
          clear hK K
          (try go_frame)
          iterate 1 (refine tk 13 (by rfl) (by kernel_rfl) (by exact fun _ _ _ h => h) (.inl ⟨by rfl, fun w hS => by (try dsimp only at hS); go_simp; (try with_reducible rfl)⟩) (by assumption) ?_; try go_frame)
          refine wpAnyH_done (by kernel_rfl) ?_ _
          (try go_wp2_with fail)
          go_meet
          case rel =>
            refine ⟨_, _, _, _, rfl, Row.new' (by simp), hHeld.1, ?_⟩
            (refine ⟨?_, ?_, ?_, ?_, ?_, ?_, ?_, ?_, ?_, ?_, ?_, ?_⟩) <;> first | (simp; omega) | omega | (repeat (first | exact Row.new' (by simp) | refine Row.alloc ?_ _ | refine Row.old ?_ hb2))
      · go_simp
        refine hK.out _ _ ?_ (fun hHeld => ?_)
        · exact ⟨hHeld.1.alloc hHeld.1.size _, cell_later (below_alloc _ _) hHeld.2⟩
        clear hK K
        (try go_frame)
        refine wpAnyH_ready (rs := [4, 10]) (by kernel_rfl) (by simp) (rc (by rfl) (fun K hK => ?_) (rc (by rfl) (fun K hK => ?_) AllReadyH.nil))
        · go_simp
          refine hK.out _ _ ?_ (fun hHeld => ?_)
          · exact ⟨hHeld.1.alloc hHeld.1.size _, cell_later (below_alloc _ _) hHeld.2⟩
          clear hK K
          (try go_frame)
          refine rd1 10 (by rfl) (by kernel_rfl) (fun K hK => ?_)
          go_simp
          refine hK.out _ _ ?_ (fun hHeld => ?_)
          · exact ⟨hHeld.1.alloc hHeld.1.size _, cell_later (below_alloc _ _) hHeld.2⟩
          clear hK K
          (try go_frame)
          iterate 1 (refine tk 13 (by rfl) (by kernel_rfl) (by exact fun _ _ _ h => h) (.inl ⟨by rfl, fun w hS => by (try dsimp only at hS); go_simp; (try with_reducible rfl)⟩) (by assumption) ?_; try go_frame)
          refine rd1 12 (by rfl) (by kernel_rfl) (fun K hK => ?_)
          go_simp
          refine hK.out _ _ ?_ (fun hHeld => ?_)
          · exact ⟨hHeld.1.alloc hHeld.1.size _, cell_later (below_alloc _ _) hHeld.2⟩
          clear hK K
          (try go_frame)
          iterate 1 (refine tk 13 (by rfl) (by kernel_rfl) (by exact fun _ _ _ h => h) (.inl ⟨by rfl, fun w hS => by (try dsimp only at hS); go_simp; (try with_reducible rfl)⟩) (by assumption) ?_; try go_frame)
          refine wpAnyH_done (by kernel_rfl) ?_ _
          (try go_wp2_with fail)
          go_meet
          case rel =>
            refine ⟨_, _, _, _, rfl, Row.new' (by simp), hHeld.1, ?_⟩
            (refine ⟨?_, ?_, ?_, ?_, ?_, ?_, ?_, ?_, ?_, ?_, ?_, ?_⟩) <;> first | (simp; omega) | omega | (repeat (first | exact Row.new' (by simp) | refine Row.alloc ?_ _ | refine Row.old ?_ hb2))
        · go_simp
          refine hK.out _ _ ?_ (fun hHeld => ?_)
          · exact ⟨hHeld.1.alloc hHeld.1.size _, cell_later (below_alloc _ _) hHeld.2⟩
          clear hK K
          (try go_frame)
          refine rd1 4 (by rfl) (by kernel_rfl) (fun K hK => ?_)
          go_simp
          refine hK.out _ _ ?_ (fun hHeld => ?_)
          · exact ⟨hHeld.1.alloc hHeld.1.size _, cell_later (below_alloc _ _) hHeld.2⟩
          clear hK K
          (try go_frame)
          iterate 1 (refine tk 13 (by rfl) (by kernel_rfl) (by exact fun _ _ _ h => h) (.inl ⟨by rfl, fun w hS => by (try dsimp only at hS); go_simp; (try with_reducible rfl)⟩) (by assumption) ?_; try go_frame)
          refine rd1 12 (by rfl) (by kernel_rfl) (fun K hK => ?_)
          go_simp
          refine hK.out _ _ ?_ (fun hHeld => ?_)
          · exact ⟨hHeld.1.alloc hHeld.1.size _, cell_later (below_alloc _ _) hHeld.2⟩
          clear hK K
          (try go_frame)
          iterate 1 (refine tk 13 (by rfl) (by kernel_rfl) (by exact fun _ _ _ h => h) (.inl ⟨by rfl, fun w hS => by (try dsimp only at hS); go_simp; (try with_reducible rfl)⟩) (by assumption) ?_; try go_frame)
          refine wpAnyH_done (by kernel_rfl) ?_ _
          (try go_wp2_with fail)
          go_meet
          case rel =>
            refine ⟨_, _, _, _, rfl, Row.new' (by simp), hHeld.1, ?_⟩
            (refine ⟨?_, ?_, ?_, ?_, ?_, ?_, ?_, ?_, ?_, ?_, ?_, ?_⟩) <;> first | (simp; omega) | omega | (repeat (first | exact Row.new' (by simp) | refine Row.alloc ?_ _ | refine Row.old ?_ hb2))
      · go_simp
        refine hK.out _ _ ?_ (fun hHeld => ?_)
        · exact ⟨hHeld.1.alloc hHeld.1.size _, cell_later (below_alloc _ _) hHeld.2⟩
        clear hK K
        (try go_frame)
        refine wpAnyH_ready (rs := [4, 6]) (by kernel_rfl) (by simp) (rc (by rfl) (fun K hK => ?_) (rc (by rfl) (fun K hK => ?_) AllReadyH.nil))
        · go_simp
          refine hK.out _ _ ?_ (fun hHeld => ?_)
          · exact ⟨hHeld.1.alloc hHeld.1.size _, cell_later (below_alloc _ _) hHeld.2⟩
          clear hK K
          (try go_frame)
          refine rd1 6 (by rfl) (by kernel_rfl) (fun K hK => ?_)
          go_simp
          refine hK.out _ _ ?_ (fun hHeld => ?_)
          · exact ⟨hHeld.1.alloc hHeld.1.size _, cell_later (below_alloc _ _) hHeld.2⟩
          clear hK K
          (try go_frame)
          iterate 1 (refine tk 13 (by rfl) (by kernel_rfl) (by exact fun _ _ _ h => h) (.inl ⟨by rfl, fun w hS => by (try dsimp only at hS); go_simp; (try with_reducible rfl)⟩) (by assumption) ?_; try go_frame)
          refine rd1 12 (by rfl) (by kernel_rfl) (fun K hK => ?_)
          go_simp
          refine hK.out _ _ ?_ (fun hHeld => ?_)
          · exact ⟨hHeld.1.alloc hHeld.1.size _, cell_later (below_alloc _ _) hHeld.2⟩
          clear hK K
          (try go_frame)
          iterate 1 (refine tk 13 (by rfl) (by kernel_rfl) (by exact fun _ _ _ h => h) (.inl ⟨by rfl, fun w hS => by (try dsimp only at hS); go_simp; (try with_reducible rfl)⟩) (by assumption) ?_; try go_frame)
          refine wpAnyH_done (by kernel_rfl) ?_ _
          (try go_wp2_with fail)
          go_meet
          case rel =>
            refine ⟨_, _, _, _, rfl, Row.new' (by simp), hHeld.1, ?_⟩
            (refine ⟨?_, ?_, ?_, ?_, ?_, ?_, ?_, ?_, ?_, ?_, ?_, ?_⟩) <;> first | (simp; omega) | omega | (repeat (first | exact Row.new' (by simp) | refine Row.alloc ?_ _ | refine Row.old ?_ hb2))
        · go_simp
          refine hK.out _ _ ?_ (fun hHeld => ?_)
          · exact ⟨hHeld.1.alloc hHeld.1.size _, cell_later (below_alloc _ _) hHeld.2⟩
          clear hK K
          (try go_frame)
          refine rd1 4 (by rfl) (by kernel_rfl) (fun K hK => ?_)
          go_simp
          refine hK.out _ _ ?_ (fun hHeld => ?_)
          · exact ⟨hHeld.1.alloc hHeld.1.size _, cell_later (below_alloc _ _) hHeld.2⟩
          clear hK K
          (try go_frame)
          iterate 1 (refine tk 13 (by rfl) (by kernel_rfl) (by exact fun _ _ _ h => h) (.inl ⟨by rfl, fun w hS => by (try dsimp only at hS); go_simp; (try with_reducible rfl)⟩) (by assumption) ?_; try go_frame)
          refine rd1 12 (by rfl) (by kernel_rfl) (fun K hK => ?_)
          go_simp
          refine hK.out _ _ ?_ (fun hHeld => ?_)
          · exact ⟨hHeld.1.alloc hHeld.1.size _, cell_later (below_alloc _ _) hHeld.2⟩
          clear hK K
          (try go_frame)
          iterate 1 (refine tk 13 (by rfl) (by kernel_rfl) (by exact fun _ _ _ h => h) (.inl ⟨by rfl, fun w hS => by (try dsimp only at hS); go_simp; (try with_reducible rfl)⟩) (by assumption) ?_; try go_frame)
          refine wpAnyH_done (by kernel_rfl) ?_ _
          (try go_wp2_with fail)
          go_meet
          case rel =>
            refine ⟨_, _, _, _, rfl, Row.new' (by simp), hHeld.1, ?_⟩
            (refine ⟨?_, ?_, ?_, ?_, ?_, ?_, ?_, ?_, ?_, ?_, ?_, ?_⟩) <;> first | (simp; omega) | omega | (repeat (first | exact Row.new' (by simp) | refine Row.alloc ?_ _ | refine Row.old ?_ hb2))
    · go_simp
      refine hK.out _ _ ?_ (fun hHeld => ?_)
      · exact ⟨hHeld.1.alloc hHeld.1.size _, cell_later (below_alloc _ _) hHeld.2⟩
      clear hK K
      (try go_frame)
      refine wpAnyH_ready (rs := [3, 10]) (by kernel_rfl) (by simp) (rc (by rfl) (fun K hK => ?_) (rc (by rfl) (fun K hK => ?_) AllReadyH.nil))
      · go_simp
        refine (toggleWords_any (n : Int) _ (by omega) (by omega)).mono ?_
        rintro e w2 ⟨rfl, hb2⟩
        have hz2 := hb2.size
        (try simp at hz2)
        go_wp2_with fail
        refine hK.out _ _ ?_ (fun hHeld => ?_)
        · exact ⟨Below.next hHeld.1 hb2 hHeld.1.size, cell_later hb2 hHeld.2⟩
        clear hK K
        (try go_frame)
        refine wpAnyH_ready (rs := [4, 10]) (by kernel_rfl) (by simp) (rc (by rfl) (fun K hK => ?_) (rc (by rfl) (fun K hK => ?_) AllReadyH.nil))
        · go_simp
          refine hK.out _ _ ?_ (fun hHeld => ?_)
          · exact ⟨hHeld.1.alloc hHeld.1.size _, cell_later (below_alloc _ _) hHeld.2⟩
          clear hK K
          (try go_frame)
          refine rd1 10 (by rfl) (by kernel_rfl) (fun K hK => ?_)
          go_simp
          refine hK.out _ _ ?_ (fun hHeld => ?_)
          · exact ⟨hHeld.1.alloc hHeld.1.size _, cell_later (below_alloc _ _) hHeld.2⟩
          clear hK K
          (try go_frame)
          iterate 1 (refine tk 13 (by rfl) (by kernel_rfl) (by exact fun _ _ _ h => h) (.inl ⟨by rfl, fun w hS => by (try dsimp only at hS); go_simp; (try with_reducible rfl)⟩) (by assumption) ?_; try go_frame)
          refine rd1 12 (by rfl) (by kernel_rfl) (fun K hK => ?_)
          go_simp
          refine hK.out _ _ ?_ (fun hHeld => ?_)
          · exact ⟨hHeld.1.alloc hHeld.1.size _, cell_later (below_alloc _ _) hHeld.2⟩
          clear hK K
          (try go_frame)
          iterate 1 (refine tk 13 (by rfl) (by kernel_rfl) (by exact fun _ _ _ h => h) (.inl ⟨by rfl, fun w hS => by (try dsimp only at hS); go_simp; (try with_reducible rfl)⟩) (by assumption) ?_; try go_frame)
          refine wpAnyH_done (by kernel_rfl) ?_ _
          (try go_wp2_with fail)
          go_meet
          case rel =>
            refine ⟨_, _, _, _, rfl, Row.new' (by simp), hHeld.1, ?_⟩
            (refine ⟨?_, ?_, ?_, ?_, ?_, ?_, ?_, ?_, ?_, ?_, ?_, ?_⟩) <;> first | (simp; omega) | omega | (repeat (first | exact Row.new' (by simp) | refine Row.alloc ?_ _ | refine Row.old ?_ hb2))
        · go_simp
          refine hK.out _ _ ?_ (fun hHeld => ?_)
          · exact ⟨hHeld.1.alloc hHeld.1.size _, cell_later (below_alloc _ _) hHeld.2⟩
          clear hK K
          (try go_frame)
          refine rd1 4 (by rfl) (by kernel_rfl) (fun K hK => ?_)
          go_simp
          refine hK.out _ _ ?_ (fun hHeld => ?_)
          · exact ⟨hHeld.1.alloc hHeld.1.size _, cell_later (below_alloc _ _) hHeld.2⟩
          clear hK K
          (try go_frame)
          iterate 1 (refine tk 13 (by rfl) (by kernel_rfl) (by exact fun _ _ _ h => h) (.inl ⟨by rfl, fun w hS => by (try dsimp only at hS); go_simp; (try with_reducible rfl)⟩) (by assumption) ?_; try go_frame)
          refine rd1 12 (by rfl) (by kernel_rfl) (fun K hK => ?_)
          go_simp
          refine hK.out _ _ ?_ (fun hHeld => ?_)
          · exact ⟨hHeld.1.alloc hHeld.1.size _, cell_later (below_alloc _ _) hHeld.2⟩
          clear hK K
          (try go_frame)
          iterate 1 (refine tk 13 (by rfl) (by kernel_rfl) (by exact fun _ _ _ h => h) (.inl ⟨by rfl, fun w hS => by (try dsimp only at hS); go_simp; (try with_reducible rfl)⟩) (by assumption) ?_; try go_frame)
          refine wpAnyH_done (by kernel_rfl) ?_ _
          (try go_wp2_with fail)
          go_meet
          case rel =>
            refine ⟨_, _, _, _, rfl, Row.new' (by simp), hHeld.1, ?_⟩
            (refine ⟨?_, ?_, ?_, ?_, ?_, ?_, ?_, ?_, ?_, ?_, ?_, ?_⟩) <;> first | (simp; omega) | omega | (repeat (first | exact Row.new' (by simp) | refine Row.alloc ?_ _ | refine Row.old ?_ hb2))
      · go_simp
        refine hK.out _ _ ?_ (fun hHeld => ?_)
        · exact ⟨hHeld.1.alloc hHeld.1.size _, cell_later (below_alloc _ _) hHeld.2⟩
        clear hK K
        (try go_frame)
        refine rd1 3 (by rfl) (by kernel_rfl) (fun K hK => ?_)
        go_simp
        refine (toggleWords_any (n : Int) _ (by omega) (by omega)).mono ?_
        rintro e w2 ⟨rfl, hb2⟩
        have hz2 := hb2.size
        (try simp at hz2)
        go_wp2_with fail
        refine hK.out _ _ ?_ (fun hHeld => ?_)
        · exact ⟨Below.next hHeld.1 hb2 hHeld.1.size, cell_later hb2 hHeld.2⟩
        clear hK K
        (try go_frame)
        refine rd1 4 (by rfl) (by kernel_rfl) (fun K hK => ?_)
        go_simp
        refine hK.out _ _ ?_ (fun hHeld => ?_)
        · exact ⟨hHeld.1.alloc hHeld.1.size _, cell_later (below_alloc _ _) hHeld.2⟩
        clear hK K
        (try go_frame)
        iterate 1 (refine tk 13 (by rfl) (by kernel_rfl) (by exact fun _ _ _ h => h) (.inl ⟨by rfl, fun w hS => by (try dsimp only at hS); go_simp; (try with_reducible rfl)⟩) (by assumption) ?_; try go_frame)
        refine rd1 12 (by rfl) (by kernel_rfl) (fun K hK => ?_)
        go_simp
        refine hK.out _ _ ?_ (fun hHeld => ?_)
        · exact ⟨hHeld.1.alloc hHeld.1.size _, cell_later (below_alloc _ _) hHeld.2⟩
        clear hK K
        (try go_frame)
        iterate 1 (refine tk 13 (by rfl) (by kernel_rfl) (by exact fun _ _ _ h => h) (.inl ⟨by rfl, fun w hS => by (try dsimp only at hS); go_simp; (try with_reducible rfl)⟩) (by assumption) ?_; try go_frame)
        refine wpAnyH_done (by kernel_rfl) ?_ _
        (try go_wp2_with fail)
        go_meet
        case rel =>
          refine ⟨_, _, _, _, rfl, Row.new' (by simp), hHeld.1, ?_⟩
          (refine ⟨?_, ?_, ?_, ?_, ?_, ?_, ?_, ?_, ?_, ?_, ?_, ?_⟩) <;> first | (simp; omega) | omega | (repeat (first | exact Row.new' (by simp) | refine Row.alloc ?_ _ | refine Row.old ?_ hb2))
    · go_simp
      refine hK.out _ _ ?_ (fun hHeld => ?_)
      · exact ⟨hHeld.1.alloc hHeld.1.size _, cell_later (below_alloc _ _) hHeld.2⟩
      clear hK K
      (try go_frame)
      refine wpAnyH_ready (rs := [3, 6]) (by kernel_rfl) (by simp) (rc (by rfl) (fun K hK => ?_) (rc (by rfl) (fun K hK => ?_) AllReadyH.nil))
      · go_simp
        refine (toggleWords_any (n : Int) _ (by omega) (by omega)).mono ?_
        rintro e w2 ⟨rfl, hb2⟩
        have hz2 := hb2.size
        (try simp at hz2)
        go_wp2_with fail
        refine hK.out _ _ ?_ (fun hHeld => ?_)
        · exact ⟨Below.next hHeld.1 hb2 hHeld.1.size, cell_later hb2 hHeld.2⟩
        clear hK K
        (try go_frame)
        refine wpAnyH_ready (rs := [4, 6]) (by kernel_rfl) (by simp) (rc (by rfl) (fun K hK => ?_) (rc (by rfl) (fun K hK => ?_) AllReadyH.nil))
        · go_simp
          refine hK.out _ _ ?_ (fun hHeld => ?_)
          · exact ⟨hHeld.1.alloc hHeld.1.size _, cell_later (below_alloc _ _) hHeld.2⟩
          clear hK K
          (try go_frame)
          refine rd1 6 (by rfl) (by kernel_rfl) (fun K hK => ?_)
          go_simp
          refine hK.out _ _ ?_ (fun hHeld => ?_)
          · exact ⟨hHeld.1.alloc hHeld.1.size _, cell_later (below_alloc _ _) hHeld.2⟩
          clear hK K
          (try go_frame)
          iterate 1 (refine tk 13 (by rfl) (by kernel_rfl) (by exact fun _ _ _ h => h) (.inl ⟨by rfl, fun w hS => by (try dsimp only at hS); go_simp; (try with_reducible rfl)⟩) (by assumption) ?_; try go_frame)
          refine rd1 12 (by rfl) (by kernel_rfl) (fun K hK => ?_)
          go_simp
          refine hK.out _ _ ?_ (fun hHeld => ?_)
          · exact ⟨hHeld.1.alloc hHeld.1.size _, cell_later (below_alloc _ _) hHeld.2⟩
          clear hK K
          (try go_frame)
          iterate 1 (refine tk 13 (by rfl) (by kernel_rfl) (by exact fun _ _ _ h => h) (.inl ⟨by rfl, fun w hS => by (try dsimp only at hS); go_simp; (try with_reducible rfl)⟩) (by assumption) ?_; try go_frame)
          refine wpAnyH_done (by kernel_rfl) ?_ _
          (try go_wp2_with fail)
          go_meet
          case rel =>
            refine ⟨_, _, _, _, rfl, Row.new' (by simp), hHeld.1, ?_⟩
            (refine ⟨?_, ?_, ?_, ?_, ?_, ?_, ?_, ?_, ?_, ?_, ?_, ?_⟩) <;> first | (simp; omega) | omega | (repeat (first | exact Row.new' (by simp) | refine Row.alloc ?_ _ | refine Row.old ?_ hb2))
        · go_simp
          refine hK.out _ _ ?_ (fun hHeld => ?_)
          · exact ⟨hHeld.1.alloc hHeld.1.size _, cell_later (below_alloc _ _) hHeld.2⟩
          clear hK K
          (try go_frame)
          refine rd1 4 (by rfl) (by kernel_rfl) (fun K hK => ?_)
          go_simp
          refine hK.out _ _ ?_ (fun hHeld => ?_)
          · exact ⟨hHeld.1.alloc hHeld.1.size _, cell_later (below_alloc _ _) hHeld.2⟩
          clear hK K
          (try go_frame)
          iterate 1 (refine tk 13 (by rfl) (by kernel_rfl) (by exact fun _ _ _ h => h) (.inl ⟨by rfl, fun w hS => by (try dsimp only at hS); go_simp; (try with_reducible rfl)⟩) (by assumption) ?_; try go_frame)
          refine rd1 12 (by rfl) (by kernel_rfl) (fun K hK => ?_)
          go_simp
          refine hK.out _ _ ?_ (fun hHeld => ?_)
          · exact ⟨hHeld.1.alloc hHeld.1.size _, cell_later (below_alloc _ _) hHeld.2⟩
          clear hK K
          (try go_frame)
          iterate 1 (refine tk 13 (by rfl) (by kernel_rfl) (by exact fun _ _ _ h => h) (.inl ⟨by rfl, fun w hS => by (try dsimp only at hS); go_simp; (try with_reducible rfl)⟩) (by assumption) ?_; try go_frame)
          refine wpAnyH_done (by kernel_rfl) ?_ _
          (try go_wp2_with fail)
          go_meet
          case rel =>
            refine ⟨_, _, _, _, rfl, Row.new' (by simp), hHeld.1, ?_⟩
            (refine ⟨?_, ?_, ?_, ?_, ?_, ?_, ?_, ?_, ?_, ?_, ?_, ?_⟩) <;> first | (simp; omega) | omega | (repeat (first | exact Row.new' (by simp) | refine Row.alloc ?_ _ | refine Row.old ?_ hb2))
      · go_simp
        refine hK.out _ _ ?_ (fun hHeld => ?_)
        · exact ⟨hHeld.1.alloc hHeld.1.size _, cell_later (below_alloc _ _) hHeld.2⟩
        clear hK K
        (try go_frame)
        refine rd1 3 (by rfl) (by kernel_rfl) (fun K hK => ?_)
        go_simp
        refine (toggleWords_any (n : Int) _ (by omega) (by omega)).mono ?_
        rintro e w2 ⟨rfl, hb2⟩
        have hz2 := hb2.size
        (try simp at hz2)
        go_wp2_with fail
        refine hK.out _ _ ?_ (fun hHeld => ?_)
        · exact ⟨Below.next hHeld.1 hb2 hHeld.1.size, cell_later hb2 hHeld.2⟩
        clear hK K
        (try go_frame)
        refine rd1 4 (by rfl) (by kernel_rfl) (fun K hK => ?_)
        go_simp
        refine hK.out _ _ ?_ (fun hHeld => ?_)
        · exact ⟨hHeld.1.alloc hHeld.1.size _, cell_later (below_alloc _ _) hHeld.2⟩
        clear hK K
        (try go_frame)
        iterate 1 (refine tk 13 (by rfl) (by kernel_rfl) (by exact fun _ _ _ h => h) (.inl ⟨by rfl, fun w hS => by (try dsimp only at hS); go_simp; (try with_reducible rfl)⟩) (by assumption) ?_; try go_frame)
        refine rd1 12 (by rfl) (by kernel_rfl) (fun K hK => ?_)
        go_simp
        refine hK.out _ _ ?_ (fun hHeld => ?_)
        · exact ⟨hHeld.1.alloc hHeld.1.size _, cell_later (below_alloc _ _) hHeld.2⟩
        clear hK K
        (try go_frame)
        iterate 1 (refine tk 13 (by rfl) (by kernel_rfl) (by exact fun _ _ _ h => h) (.inl ⟨by rfl, fun w hS => by (try dsimp only at hS); go_simp; (try with_reducible rfl)⟩) (by assumption) ?_; try go_frame)
        refine wpAnyH_done (by kernel_rfl) ?_ _
        (try go_wp2_with fail)
        go_meet
        case rel =>
          refine ⟨_, _, _, _, rfl, Row.new' (by simp), hHeld.1, ?_⟩
          (refine ⟨?_, ?_, ?_, ?_, ?_, ?_, ?_, ?_, ?_, ?_, ?_, ?_⟩) <;> first | (simp; omega) | omega | (repeat (first | exact Row.new' (by simp) | refine Row.alloc ?_ _ | refine Row.old ?_ hb2))
  case rest =>
    obtain ⟨bS, bTg, bAn, bP, rfl, hS, hB, z1, z2, z3, z4, z5, z6, z7, z8, z9, hTg, hAn, hP⟩ := hcut
    rw [poolAt_zero _ (rwn n) (fun _ => 0)] at hP
    have hI0 : ShI W0 bS bTg bAn bP n oT ov 0 (fun _ => 0) wc := ⟨hS, hTg, hAn, hP, fun r hr => absurd hr (by omega), fun r s _ h => absurd h (by omega), hB⟩
    have hcS0 := hS.cell_of (i := 4) rfl
    clear hS hTg hAn hP hB
    go_wp2
    go_loopw [29] (fun i w' => ∃ k bW, k ≤ 2 * n + 1 ∧ i = .int .i64 (k : Int) ∧ ShI W0 bS bTg bAn bP n oT ov k bW w') (fun i _ => 2 * n + 1 - (intOf i).toNat)
    case atStart => exact ⟨0, _, Nat.zero_le _, rfl, hI0⟩
    case round =>
      obtain ⟨k, bW, hk, rfl, hI⟩ := hrel
      by_cases hlt : k < 2 * n + 1
      · have hlt' : (k : Int) < 2 * (n : Int) + 1 := by omega
        have hlt'' : (k : Int) < (2 * n + 1 : Nat) := by omega
        have hk0 : (0 : Int) ≤ (k : Int) := by omega
        have hcS : wr.cell? ⟨bS, 4, none⟩ = some (.slice (some ⟨bP, 0, none⟩) (2 * n + 1) (2 * n + 1)) := hI.1.cell_of rfl
        have hcN : wr.cell? ⟨w.heap.size, 0, none⟩ = some (.int .i64 (n : Int)) := cell_later hI.2.2.2.2.2.2 hc0
        have hth : wr.there bP (k * 2) 1 := hI.2.2.2.1.there (by rw [length_poolAt]; omega)
        have hsz : (Tryz.prog.info? 288).map (·.size) = some 1 := by kernel_rfl
        have hneS : bS ≠ bP := by omega
        have hneN : w.heap.size ≠ bP := by omega
        have HI := hide hI
        clear hI
        go_wp2
        refine rg0 (S := (fun w' => w'.cell? ⟨bS, 4, none⟩ = some (.slice (some ⟨bP, 0, none⟩) (2 * n + 1) (2 * n + 1)) ∧ w'.cell? ⟨w.heap.size, 0, none⟩ = some (.int .i64 (n : Int)) ∧ w'.there bP (k * 2) 1)) 11 rfl (by kernel_rfl) ?_ (fun hHeld => ?_)
        · exact ⟨hcS, hcN, hth⟩
        iterate 6 (refine tk 10 (by rfl) (by kernel_rfl) (by exact fun _ _ _ h => h) (.inl ⟨by rfl, fun w hS => by (try dsimp only at hS); go_simp; (try with_reducible rfl)⟩) (by assumption) ?_; try go_frame)
        refine rd1 6 (by rfl) (by kernel_rfl) (fun K hK => ?_)
        go_simp
        refine (recordWords_any (n : Int) _ (by omega) (by omega)).mono ?_
        rintro e w3 ⟨rfl, hb3⟩
        go_wp2_with fail
        refine hK.out _ _ ?_ (fun hHeld => ?_)
        · exact ⟨cell_later hb3 hHeld.1, cell_later hb3 hHeld.2.1, there_later hb3 hHeld.2.2⟩
        clear hK K
        (try go_frame)
        refine rd1 7 (by rfl) (by kernel_rfl) (fun K hK => ?_)
        go_simp
        refine hK.out _ _ ?_ (fun hHeld => ?_)
        · exact ⟨cell_later (below_alloc _ _) hHeld.1, cell_later (below_alloc _ _) hHeld.2.1, World.there_alloc hHeld.2.2 _⟩
        clear hK K
        (try go_frame)
        iterate 2 (refine tk 10 (by rfl) (by kernel_rfl) (by exact fun _ _ _ h => h) (.inl ⟨by rfl, fun w hS => by (try dsimp only at hS); go_simp; (try with_reducible rfl)⟩) (by assumption) ?_; try go_frame)
        refine rd1 10 (by rfl) (by kernel_rfl) (fun K hK => ?_)
        rw [if_pos (by rfl)]
        refine wp_store_one _ _ _ rfl bP (k * 2) _ rfl rfl rfl rfl hHeld.2.2 hsz ?_
        refine hK.out _ _ ?_ (fun hHeld => ?_)
        · exact ⟨(World.cell?_setCell_far _ _ _ _ (Ne.symm hneS)).trans hHeld.1, (World.cell?_setCell_far _ _ _ _ (Ne.symm hneN)).trans hHeld.2.1, there_set hHeld.2.2 _ rfl _⟩
        clear hK K
        (try go_frame)
        refine wpAnyH_done (by kernel_rfl) ?_ _
        (try go_wp2_with fail)
        go_roundw
        case rel =>
          rw [Nat.mul_comm k 2]
          exact ⟨k + 1, _, by omega, by go_num, ShI.next HI.out (Below.undrew hb3) z3 (by omega) (by omega) (by omega)⟩
        case measure => simp [intOf]; omega
      · have hke : k = 2 * n + 1 := by omega
        subst hke
        have hI' := hI
        clear hI hlt
        have hcP : wr.cell? ⟨bS, 4, none⟩ = some (.slice (some ⟨bP, 0, none⟩) (2 * n + 1) (2 * n + 1)) := hI'.1.cell_of rfl
        have HI := hide hI'
        clear hI'
        have hlt' : ¬ ((2 * n + 1 : Nat) : Int) < 2 * (n : Int) + 1 := by omega
        go_wp2_with fail
        refine (HF.out _).mono ?_
        rintro e w4 ⟨rfl, hb4⟩
        go_wp2_with fail
        generalize hW5 : World.alloc (World.alloc w4 _) _ = W5
        have hI := HI.out
        have hb5 : Below w4.heap.size w4 W5 := by rw [← hW5]; exact ((Below.refl _ _).alloc (Nat.le_refl _) _).alloc (by simp) _
        have hcS5 : W5.cell? ⟨bS, 4, none⟩ = some (.slice (some ⟨bP, 0, none⟩) (2 * n + 1) (2 * n + 1)) := cell_later hb5 (cell_later hb4 hcP)
        have hcP1 : W5.cell? ⟨bP, 1, none⟩ = some (.pointer none) := cell_later hb5 (cell_later hb4 (hI.2.2.2.1.cell_of (poolAt_odd (j := 0) (by omega))))
        have hfP1 : W5.frozen? ⟨bP, 1, none⟩ = false := ((hI.2.2.2.1.old hb4).old hb5).frozen 1
        obtain ⟨bV, hbV⟩ : ∃ bV, bV = w4.heap.size + 1 := ⟨_, rfl⟩
        have hV : ∃ vs, W5 = (w4.alloc (.cells [Value.int .i64 0, .slice none 0 0, .pointer none].toArray 306)).alloc (.cells vs.toArray 253) ∧ vs = [.pointer none, .pointer none] ++ [.pointer (some ⟨w4.heap.size, 0, none⟩)] := ⟨_, hW5.symm, rfl⟩
        obtain ⟨vs, hV5, hvs⟩ := hV
        have hVr : Row W5 bV 253 ([.pointer none, .pointer none] ++ [.pointer (some ⟨w4.heap.size, 0, none⟩)]) := by rw [hV5, ← hvs, hbV]; exact Row.new' (by simp)
        have hVc : ∀ w', Below W5.heap.size W5 w' → w'.cell? ⟨bV, 0, none⟩ = some (.pointer none) ∧ w'.cell? ⟨bV, 1, none⟩ = some (.pointer none) ∧ w'.cell? ⟨bV, 2, none⟩ = some (.pointer (some ⟨w4.heap.size, 0, none⟩)) := by
          intro w' hw'
          have hq := hVr.old hw'
          simp only [hq.cell]
          simp
        have HW5 := hide hV5
        clear hW5 hV5 hI hvs hcP
        have hltP : bP < W5.heap.size := World.block_lt_of_cell? W5 _ hcP1
        have hneS : bS ≠ bP := by omega
        have hneV : bV ≠ bP := by have h7 := (unhide HI).2.2.2.1.lt; have h8 := hb4.size; omega
        have hpos : (0 : Int) < 2 * (n : Int) + 1 := by omega
        rw [← hbV]
        clear hbV
        have hV0 := hVc W5 (Below.refl _ _)
        clear hVc
        refine rg0 (S := (fun w' => w'.cell? ⟨bS, 4, none⟩ = some (.slice (some ⟨bP, 0, none⟩) (2 * n + 1) (2 * n + 1)) ∧ w'.cell? ⟨bV, 0, none⟩ = some (.pointer none) ∧ w'.cell? ⟨bV, 1, none⟩ = some (.pointer none) ∧ w'.cell? ⟨bV, 2, none⟩ = some (.pointer (some ⟨w4.heap.size, 0, none⟩)))) 12 rfl (by kernel_rfl) ?_ (fun hHeld => ?_)
        · exact ⟨hcS5, hV0⟩
        iterate 10 (refine tk 11 (by rfl) (by kernel_rfl) (by exact fun _ _ _ h => h) (.inl ⟨by rfl, fun w hS => by (try dsimp only at hS); go_simp; (try with_reducible rfl)⟩) (by assumption) ?_; try go_frame)
        refine rd1 10 (by rfl) (by kernel_rfl) (fun K hK => ?_)
        go_simp
        refine hK.out _ _ ?_ (fun hHeld => ?_)
        · (repeat' apply And.intro) <;> (first | exact cell_later (below_alloc _ _) hHeld.1 | exact cell_later (below_alloc _ _) hHeld.2.1 | exact cell_later (below_alloc _ _) hHeld.2.2 | exact cell_later (below_alloc _ _) hHeld.2.2.1 | exact cell_later (below_alloc _ _) hHeld.2.2.2)
        clear hK K
        (try go_frame)
        refine rd1 11 (by rfl) (by kernel_rfl) (fun K hK => ?_)
        go_simp
        refine (atomStore bP 1 W5.heap.size (.pointer none) ((edNew w4.heap.size).getD 0 undef) _ ?_ ?_ ?_).mono ?_
        · exact cell_later (Below.drew (below_alloc _ _)) hcP1
        · exact ((Below.drew (below_alloc W5 _)).frozen (p := ⟨bP, 1, none⟩) hltP).trans hfP1
        · exact (Row.new' (w := W5) (xs := edNew w4.heap.size) (t := 255) rfl).drew.cell_of rfl
        rintro e w6 ⟨rfl, hw6⟩
        have H6 := hide hw6
        clear hw6
        go_wp2_with fail
        refine hK.out _ _ ?_ (fun hHeld => ?_)
        · (rw [H6.out]; (repeat' apply And.intro) <;> (refine (World.cell?_setCell_far _ _ _ _ (by first | exact Ne.symm hneS | exact Ne.symm hneV)).trans ?_; first | exact hHeld.1 | exact hHeld.2.1 | exact hHeld.2.2 | exact hHeld.2.2.1 | exact hHeld.2.2.2))
        clear hK K
        (try go_frame)
        refine wpAnyH_done (by kernel_rfl) ?_ _
        (try go_wp2_with fail)
        go_ret
        have hfin := ShI.done HI.out hb4 HW5.out H6.out (by omega) (by omega) z3 (by omega) (by omega) (by omega) (by omega) (by omega) (by omega)
        exact ⟨bS, bTg, bAn, bP, bW, w4.heap.size, W5.heap.size, rfl, hfin.1.base (by omega), hb0.trans (hfin.2.mono (by omega))⟩
end Go.Proofs.YtefjhnhdagolhaaGreat.row
