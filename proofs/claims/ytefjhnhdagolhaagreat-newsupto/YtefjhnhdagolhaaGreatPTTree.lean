import Derived.Test.YtefjhnhdagolhaaGreatProg
import Derived.Test.YtefjhnhdagolhaaGreatPA
namespace Go.Proofs.YtefjhnhdagolhaaGreat.tree
open Go.RowKit

theorem sized_edition : (Tryz.prog.info? 269).map (fun i => decide (i.size = 0)) = some false := by kernel_rfl

set_option maxHeartbeats 400000 in
theorem atomStore (b o g : Nat) (u v : Value) (w : World) (hc : w.cell? ⟨b, o, none⟩ = some u) (hz : w.frozen? ⟨b, o, none⟩ = false) (hg : w.cell? ⟨g, 0, none⟩ = some v) :
    Calls Tryz.prog 161 #[.pointer (some ⟨b, o, none⟩), .pointer (some ⟨g, 0, none⟩)] w fun e w' => e = .returned (.tuple #[]) ∧ w' = w.setCell ⟨b, o, none⟩ (.pointer (some ⟨g, 0, none⟩)) := by
  have hcv := run_convert_to_unsafe (P := Tryz.prog) (src := 337) (dst := 208) (t := 269) Tryz.underlying337 Tryz.underlying208 sized_edition hg
  have hst := run_call_storeP (P := Tryz.prog) Tryz.func165 (by kernel_rfl) (by kernel_rfl) (by kernel_rfl) (by kernel_rfl) (y := some ⟨g, 0, none⟩) hc hz
  clear hc hz hg
  go_enter Tryz.func161, Tryz.ntmps161
  go_wp2
  go_end0
  exact ⟨rfl, rfl⟩

theorem lies_edition : liesAt Tryz.prog Tryz.prog.depth 269 (4 / Tryz.prog.cellsOf 269) 0 269 1 = true := by kernel_rfl

set_option maxHeartbeats 400000 in
theorem atomLoad (b o g : Nat) (xs : List Value) (w : World) (hc : w.cell? ⟨b, o, none⟩ = some (.pointer (some ⟨g, 0, none⟩))) (hg : Row w g 269 xs) (hx : xs.length = 4) :
    Calls Tryz.prog 359 #[.pointer (some ⟨b, o, none⟩)] w fun e w' => e = .returned (.pointer (some ⟨g, 0, none⟩)) ∧ w' = w := by
  have hcv := run_from_unsafe (P := Tryz.prog) (src := 208) (dst := 337) (u := 269) Tryz.underlying208 Tryz.underlying337 hg sized_edition (by rw [hx]; exact lies_edition)
  have hld := run_call_loadP (P := Tryz.prog) Tryz.func245 (by kernel_rfl) (by kernel_rfl) (by kernel_rfl) (by kernel_rfl) hc
  clear hc hg hx
  go_enter Tryz.func359, Tryz.ntmps359
  go_wp2
  go_ret
  exact ⟨rfl, rfl⟩

end Go.Proofs.YtefjhnhdagolhaaGreat.tree

namespace Go.Proofs.YtefjhnhdagolhaaGreat.tree
open Go.RowKit
attribute [local go_sem ↓] Go.wp_at_zero Go.wp_at_succ

/-- The cells of a new thread. -/
def thNew (bS : Nat) (i most : Int) (gD nD gG nG : Nat) : List Value :=
  [.pointer (some ⟨bS, 0, none⟩), .int .i64 i, .int .i64 most, .int .i64 0, .int .i64 0, .int .i64 0, .int .i64 0, .int .i64 0, .bool false, .int .i64 0, .bool false, .int .i64 (2 * i + 1), .int .i64 (2 * i + 2), .int .i64 0,
    .slice (some ⟨gD, 0, none⟩) nD nD] ++ [.pointer none] ++ [.pointer none] ++ [.pointer none] ++ [.pointer none, .slice (some ⟨gG, 0, none⟩) nG nG, .slice none 0 0, .int .i64 0, .int .i64 0, .int .i64 0, .int .i64 0, .int .i64 0, .int .i64 0, .bool false]

set_option maxRecDepth 20000 in
set_option maxHeartbeats 4000000 in
theorem newThread_any (bS : Nat) (n i most : Int) (w : World) (hc : w.cell? ⟨bS, 0, none⟩ = some (.int .i64 n)) (h0 : 1 ≤ n) (h1 : n ≤ 64) (h2 : 0 ≤ i) (h3 : i ≤ 64) :
    Calls Tryz.prog 140 #[.pointer (some ⟨bS, 0, none⟩), .int .i64 i, .int .i64 most] w fun e w' => ∃ gD gG, e = .returned (.agg (thNew bS i most gD ((n + 15) / 16 + 2 * n).toNat gG ((n + 15) / 16).toNat).toArray) ∧ w.heap.size ≤ gD ∧ w.heap.size ≤ gG ∧ gD ≠ gG ∧
      Row w' gD 3 (zeros (.int .i64 0) ((n + 15) / 16 + 2 * n).toNat) ∧ Row w' gG 3 (zeros (.int .i64 0) ((n + 15) / 16).toNat) ∧ Below w.heap.size w w' := by
  have hmk1 := run_make_zeros (P := Tryz.prog) 22 3 (.int .i64 0) 8 Tryz.underlying22 info_int rfl ((n + 15) / 16 + 2 * n) ((n + 15) / 16 + 2 * n).toNat (by omega) (by omega) (by omega)
  have hmk2 := run_make_zeros (P := Tryz.prog) 22 3 (.int .i64 0) 8 Tryz.underlying22 info_int rfl ((n + 15) / 16) ((n + 15) / 16).toNat (by omega) (by omega) (by omega)
  have hi : (Tryz.prog.info? 273).map (·.size) = some 28 := by kernel_rfl
  have hw1 : IntKind.i64.wrap (2 * i) = 2 * i := wrapi _ (by omega) (by omega)
  have hw2 : IntKind.i64.wrap (2 * i + 1) = 2 * i + 1 := wrapi _ (by omega) (by omega)
  have hw3 : IntKind.i64.wrap (2 * i + 2) = 2 * i + 2 := wrapi _ (by omega) (by omega)
  have hlt : bS < w.heap.size := World.block_lt_of_cell? w _ hc
  go_enter Tryz.func140, Tryz.ntmps140
  go_wp2
  generalize hW0 : World.alloc w _ = W0
  have hb0 : Below w.heap.size w W0 := by rw [← hW0]; exact below_alloc w _
  have hs0 : w.heap.size < W0.heap.size := by rw [← hW0]; simp
  have hth : W0.there w.heap.size 0 28 := by rw [← hW0]; exact Row.there (t := 273) (Row.new w _ 273) (by simp)
  clear hW0
  refine wp_region_held_drew (S := (fun w' => Below w.heap.size w w' ∧ w'.cell? ⟨bS, 0, none⟩ = some (.int .i64 n) ∧ w'.there w.heap.size 0 28)) (by kernel_rfl) ?_ (fun hHeld => ?_)
  · exact keepI hb0 hc hth
  refine wpAnyH_take (i := 0) (oi := { dst := some 7, op := Go.Op.move (Go.Operand.tmp 0), type := 261, pos := "thread.go:51", after := #[], guard := none }) (v := ?v70) rfl (by kernel_rfl) (by kernel_rfl) (by kernel_rfl) (fun _ _ _ h => h) (Or.inl ⟨by rfl, ?hy70⟩) (by assumption) ?rest70
  case hy70 => (intro w hSw; (try dsimp only at hSw); go_simp; (try with_reducible rfl))
  (try go_frame)
  refine wpAnyH_take (i := 1) (oi := { dst := some 8, op := Go.Op.move (Go.Operand.tmp 1), type := 3, pos := "thread.go:51", after := #[], guard := none }) (v := ?v71) rfl (by kernel_rfl) (by kernel_rfl) (by kernel_rfl) (fun _ _ _ h => h) (Or.inl ⟨by rfl, ?hy71⟩) (by assumption) ?rest71
  case hy71 => (intro w hSw; (try dsimp only at hSw); go_simp; (try with_reducible rfl))
  (try go_frame)
  refine wpAnyH_take (i := 2) (oi := { dst := some 9, op := Go.Op.move (Go.Operand.tmp 2), type := 3, pos := "thread.go:51", after := #[], guard := none }) (v := ?v72) rfl (by kernel_rfl) (by kernel_rfl) (by kernel_rfl) (fun _ _ _ h => h) (Or.inl ⟨by rfl, ?hy72⟩) (by assumption) ?rest72
  case hy72 => (intro w hSw; (try dsimp only at hSw); go_simp; (try with_reducible rfl))
  (try go_frame)
  refine wpAnyH_take (i := 3) (oi := { dst := some 10, op := Go.Op.move (Go.Operand.tmp 1), type := 3, pos := "thread.go:51", after := #[], guard := none }) (v := ?v73) rfl (by kernel_rfl) (by kernel_rfl) (by kernel_rfl) (fun _ _ _ h => h) (Or.inl ⟨by rfl, ?hy73⟩) (by assumption) ?rest73
  case hy73 => (intro w hSw; (try dsimp only at hSw); go_simp; (try with_reducible rfl))
  (try go_frame)
  refine wpAnyH_take (i := 4) (oi := { dst := some 11, op := Go.Op.binOp Go.BinOp.mul 3 (Go.Operand.const (Go.Value.int Go.IntKind.i64 2)) (Go.Operand.tmp 10) 3, type := 3, pos := "thread.go:51", after := #[{ on := 3, ground := Go.Ground.data }], guard := none }) (v := ?v74) rfl (by kernel_rfl) (by kernel_rfl) (by kernel_rfl) (fun _ _ _ h => h) (Or.inl ⟨by rfl, ?hy74⟩) (by assumption) ?rest74
  case hy74 => (intro w hSw; (try dsimp only at hSw); go_simp; (try with_reducible rfl))
  (try go_frame)
  refine wpAnyH_take (i := 5) (oi := { dst := some 12, op := Go.Op.binOp Go.BinOp.add 3 (Go.Operand.tmp 11) (Go.Operand.const (Go.Value.int Go.IntKind.i64 1)) 3, type := 3, pos := "thread.go:51", after := #[{ on := 4, ground := Go.Ground.data }], guard := none }) (v := ?v75) rfl (by kernel_rfl) (by kernel_rfl) (by kernel_rfl) (fun _ _ _ h => h) (Or.inl ⟨by rfl, ?hy75⟩) (by assumption) ?rest75
  case hy75 => (intro w hSw; (try dsimp only at hSw); go_simp; (try with_reducible rfl))
  (try go_frame)
  refine wpAnyH_take (i := 6) (oi := { dst := some 13, op := Go.Op.move (Go.Operand.tmp 1), type := 3, pos := "thread.go:51", after := #[], guard := none }) (v := ?v76) rfl (by kernel_rfl) (by kernel_rfl) (by kernel_rfl) (fun _ _ _ h => h) (Or.inl ⟨by rfl, ?hy76⟩) (by assumption) ?rest76
  case hy76 => (intro w hSw; (try dsimp only at hSw); go_simp; (try with_reducible rfl))
  (try go_frame)
  refine wpAnyH_take (i := 7) (oi := { dst := some 14, op := Go.Op.binOp Go.BinOp.mul 3 (Go.Operand.const (Go.Value.int Go.IntKind.i64 2)) (Go.Operand.tmp 13) 3, type := 3, pos := "thread.go:51", after := #[{ on := 6, ground := Go.Ground.data }], guard := none }) (v := ?v77) rfl (by kernel_rfl) (by kernel_rfl) (by kernel_rfl) (fun _ _ _ h => h) (Or.inl ⟨by rfl, ?hy77⟩) (by assumption) ?rest77
  case hy77 => (intro w hSw; (try dsimp only at hSw); go_simp; (try with_reducible rfl))
  (try go_frame)
  refine wpAnyH_take (i := 8) (oi := { dst := some 15, op := Go.Op.binOp Go.BinOp.add 3 (Go.Operand.tmp 14) (Go.Operand.const (Go.Value.int Go.IntKind.i64 2)) 3, type := 3, pos := "thread.go:51", after := #[{ on := 7, ground := Go.Ground.data }], guard := none }) (v := ?v78) rfl (by kernel_rfl) (by kernel_rfl) (by kernel_rfl) (fun _ _ _ h => h) (Or.inl ⟨by rfl, ?hy78⟩) (by assumption) ?rest78
  case hy78 => (intro w hSw; (try dsimp only at hSw); go_simp; (try with_reducible rfl))
  (try go_frame)
  refine wpAnyH_take (i := 9) (oi := { dst := some 16, op := Go.Op.move (Go.Operand.tmp 0), type := 261, pos := "thread.go:51", after := #[], guard := none }) (v := ?v79) rfl (by kernel_rfl) (by kernel_rfl) (by kernel_rfl) (fun _ _ _ h => h) (Or.inl ⟨by rfl, ?hy79⟩) (by assumption) ?rest79
  case hy79 => (intro w hSw; (try dsimp only at hSw); go_simp; (try with_reducible rfl))
  (try go_frame)
  refine wpAnyH_take (i := 10) (oi := { dst := some 17, op := Go.Op.nilCheck (Go.Operand.tmp 16), type := 0, pos := "thread.go:51", after := #[{ on := 9, ground := Go.Ground.data }], guard := none }) (v := ?v80) rfl (by kernel_rfl) (by kernel_rfl) (by kernel_rfl) (fun _ _ _ h => h) (Or.inl ⟨by rfl, ?hy80⟩) (by assumption) ?rest80
  case hy80 => (intro w hSw; (try dsimp only at hSw); go_simp; (try with_reducible rfl))
  (try go_frame)
  refine wpAnyH_take (i := 11) (oi := { dst := some 18, op := Go.Op.fieldAddr 336 (Go.Operand.tmp 17) 0, type := 0, pos := "thread.go:51", after := #[{ on := 10, ground := Go.Ground.data }], guard := none }) (v := ?v81) rfl (by kernel_rfl) (by kernel_rfl) (by kernel_rfl) (fun _ _ _ h => h) (Or.inl ⟨by rfl, ?hy81⟩) (by assumption) ?rest81
  case hy81 => (intro w hSw; (try dsimp only at hSw); go_simp; (try with_reducible rfl))
  (try go_frame)
  refine wpAnyH_take (i := 12) (oi := { dst := some 19, op := Go.Op.load 287 (Go.Operand.tmp 18), type := 287, pos := "thread.go:51", after := #[{ on := 11, ground := Go.Ground.data }], guard := none }) (v := ?v82) rfl (by kernel_rfl) (by kernel_rfl) (by kernel_rfl) (fun _ _ _ h => h) (Or.inl ⟨by rfl, ?hy82⟩) (by assumption) ?rest82
  case hy82 => (intro w hSw; (try dsimp only at hSw); go_simp; (try with_reducible rfl))
  (try go_frame)
  refine wpAnyH_take (i := 16) (oi := { dst := some 23, op := Go.Op.move (Go.Operand.tmp 0), type := 261, pos := "thread.go:51", after := #[], guard := none }) (v := ?v83) rfl (by kernel_rfl) (by kernel_rfl) (by kernel_rfl) (fun _ _ _ h => h) (Or.inl ⟨by rfl, ?hy83⟩) (by assumption) ?rest83
  case hy83 => (intro w hSw; (try dsimp only at hSw); go_simp; (try with_reducible rfl))
  (try go_frame)
  refine wpAnyH_take (i := 17) (oi := { dst := some 24, op := Go.Op.nilCheck (Go.Operand.tmp 23), type := 0, pos := "thread.go:51", after := #[{ on := 16, ground := Go.Ground.data }], guard := none }) (v := ?v84) rfl (by kernel_rfl) (by kernel_rfl) (by kernel_rfl) (fun _ _ _ h => h) (Or.inl ⟨by rfl, ?hy84⟩) (by assumption) ?rest84
  case hy84 => (intro w hSw; (try dsimp only at hSw); go_simp; (try with_reducible rfl))
  (try go_frame)
  refine wpAnyH_take (i := 18) (oi := { dst := some 25, op := Go.Op.fieldAddr 336 (Go.Operand.tmp 24) 0, type := 0, pos := "thread.go:51", after := #[{ on := 17, ground := Go.Ground.data }], guard := none }) (v := ?v85) rfl (by kernel_rfl) (by kernel_rfl) (by kernel_rfl) (fun _ _ _ h => h) (Or.inl ⟨by rfl, ?hy85⟩) (by assumption) ?rest85
  case hy85 => (intro w hSw; (try dsimp only at hSw); go_simp; (try with_reducible rfl))
  (try go_frame)
  refine wpAnyH_take (i := 19) (oi := { dst := some 26, op := Go.Op.load 287 (Go.Operand.tmp 25), type := 287, pos := "thread.go:51", after := #[{ on := 18, ground := Go.Ground.data }], guard := none }) (v := ?v86) rfl (by kernel_rfl) (by kernel_rfl) (by kernel_rfl) (fun _ _ _ h => h) (Or.inl ⟨by rfl, ?hy86⟩) (by assumption) ?rest86
  case hy86 => (intro w hSw; (try dsimp only at hSw); go_simp; (try with_reducible rfl))
  (try go_frame)
  refine wpAnyH_ready (rs := [13]) (by kernel_rfl) (by simp) ?_
  refine AllReadyH.cons (o := { dst := some 20, op := Go.Op.call { callee := Go.Callee.value (Go.Operand.func 157), args := #[Go.Operand.tmp 19], argTypes := #[287] }, type := 3, pos := "thread.go:57", after := #[{ on := 12, ground := Go.Ground.data }], guard := none }) (by rfl) (fun K hK => ?_) AllReadyH.nil
  go_simp
  refine (recordWords_any n _ h0 h1).mono ?_
  rintro e w3 ⟨rfl, hb3⟩
  have hz3 := hb3.size
  (try simp at hz3)
  go_wp2_with fail
  refine hK.out _ _ ?_ (fun hHeld => ?_)
  · exact keepC hHeld hb3
  clear hK K
  (try go_frame)
  refine wpAnyH_ready (rs := [14, 20]) (by kernel_rfl) (by simp) ?_
  refine AllReadyH.cons (o := { dst := some 21, op := Go.Op.makeSlice 22 (Go.Operand.tmp 20) (Go.Operand.tmp 20), type := 22, pos := "thread.go:51", after := #[{ on := 13, ground := Go.Ground.data }, { on := 13, ground := Go.Ground.data }], guard := none }) (by rfl) (fun K hK => ?_) (AllReadyH.cons (o := { dst := some 27, op := Go.Op.call { callee := Go.Callee.value (Go.Operand.func 156), args := #[Go.Operand.tmp 26], argTypes := #[287] }, type := 3, pos := "thread.go:58", after := #[{ on := 19, ground := Go.Ground.data }, { on := 13, ground := Go.Ground.chain }], guard := none }) (by rfl) (fun K hK => ?_) AllReadyH.nil)
  · go_simp
    refine hK.out _ _ ?_ (fun hHeld => ?_)
    · exact keepA hHeld _
    clear hK K
    (try go_frame)
    refine wpAnyH_take (i := 15) (oi := { dst := some 22, op := Go.Op.build 271 #[(0, Go.Operand.tmp 21)], type := 271, pos := "thread.go:51", after := #[{ on := 14, ground := Go.Ground.data }], guard := none }) (v := ?v87) rfl (by kernel_rfl) (by kernel_rfl) (by kernel_rfl) (fun _ _ _ h => h) (Or.inl ⟨by rfl, ?hy87⟩) (by assumption) ?rest87
    case hy87 => (intro w hSw; (try dsimp only at hSw); go_simp; (try with_reducible rfl))
    (try go_frame)
    refine wpAnyH_ready (rs := [20]) (by kernel_rfl) (by simp) ?_
    refine AllReadyH.cons (o := { dst := some 27, op := Go.Op.call { callee := Go.Callee.value (Go.Operand.func 156), args := #[Go.Operand.tmp 26], argTypes := #[287] }, type := 3, pos := "thread.go:58", after := #[{ on := 19, ground := Go.Ground.data }, { on := 13, ground := Go.Ground.chain }], guard := none }) (by rfl) (fun K hK => ?_) AllReadyH.nil
    go_simp
    refine (toggleWords_any n _ h0 h1).mono ?_
    rintro e w2 ⟨rfl, hb2⟩
    have hz2 := hb2.size
    (try simp at hz2)
    go_wp2_with fail
    refine hK.out _ _ ?_ (fun hHeld => ?_)
    · exact keepC hHeld hb2
    clear hK K
    (try go_frame)
    refine wpAnyH_ready (rs := [21]) (by kernel_rfl) (by simp) ?_
    refine AllReadyH.cons (o := { dst := some 28, op := Go.Op.makeSlice 22 (Go.Operand.tmp 27) (Go.Operand.tmp 27), type := 22, pos := "thread.go:51", after := #[{ on := 20, ground := Go.Ground.data }, { on := 20, ground := Go.Ground.data }], guard := none }) (by rfl) (fun K hK => ?_) AllReadyH.nil
    go_simp
    refine hK.out _ _ ?_ (fun hHeld => ?_)
    · exact keepA hHeld _
    clear hK K
    (try go_frame)
    refine wpAnyH_take (i := 22) (oi := { dst := some 29, op := Go.Op.build 273 #[(0, Go.Operand.tmp 7), (1, Go.Operand.tmp 8), (2, Go.Operand.tmp 9), (9, Go.Operand.tmp 12), (10, Go.Operand.tmp 15), (12, Go.Operand.tmp 22), (13, Go.Operand.tmp 28)], type := 273, pos := "thread.go:51", after := #[{ on := 0, ground := Go.Ground.data }, { on := 1, ground := Go.Ground.data }, { on := 2, ground := Go.Ground.data }, { on := 5, ground := Go.Ground.data }, { on := 8, ground := Go.Ground.data }, { on := 15, ground := Go.Ground.data }, { on := 21, ground := Go.Ground.data }], guard := none }) (v := ?v88) rfl (by kernel_rfl) (by kernel_rfl) (by kernel_rfl) (fun _ _ _ h => h) (Or.inl ⟨by rfl, ?hy88⟩) (by assumption) ?rest88
    case hy88 => (intro w hSw; (try dsimp only at hSw); go_simp; (try with_reducible rfl))
    (try go_frame)
    refine wpAnyH_ready (rs := [23]) (by kernel_rfl) (by simp) ?_
    refine AllReadyH.cons (o := { dst := none, op := Go.Op.store 273 (Go.Operand.tmp 6) (Go.Operand.tmp 29), type := 0, pos := "thread.go:51", after := #[{ on := 22, ground := Go.Ground.data }, { on := 20, ground := Go.Ground.chain }, { on := 0, ground := Go.Ground.phase }, { on := 1, ground := Go.Ground.phase }, { on := 2, ground := Go.Ground.phase }, { on := 3, ground := Go.Ground.phase }, { on := 4, ground := Go.Ground.phase }, { on := 5, ground := Go.Ground.phase }, { on := 6, ground := Go.Ground.phase }, { on := 7, ground := Go.Ground.phase }, { on := 8, ground := Go.Ground.phase }, { on := 9, ground := Go.Ground.phase }, { on := 10, ground := Go.Ground.phase }, { on := 11, ground := Go.Ground.phase }, { on := 12, ground := Go.Ground.phase }, { on := 13, ground := Go.Ground.phase }, { on := 14, ground := Go.Ground.phase }, { on := 15, ground := Go.Ground.phase }, { on := 16, ground := Go.Ground.phase }, { on := 17, ground := Go.Ground.phase }, { on := 18, ground := Go.Ground.phase }, { on := 19, ground := Go.Ground.phase }, { on := 20, ground := Go.Ground.phase }, { on := 21, ground := Go.Ground.phase }, { on := 22, ground := Go.Ground.phase }], guard := none }) (by rfl) (fun K hK => ?_) AllReadyH.nil
    rw [if_pos (by rfl)]
    refine wp_store_mid _ _ _ rfl _ _ (List.toArray _) rfl rfl ?_ ?_ ?_ ?_
    · exact hHeld.2.2
    · exact hi
    · exact all_oneCell_toArray (by simp [Value.oneCell'])
    have hthz := hHeld.2.2
    refine hK.out _ _ ?_ (fun hHeld => ?_)
    · exact keepS hHeld hlt _
    clear hK K
    (try go_frame)
    refine wpAnyH_done (by kernel_rfl) ?_ _
    go_wp2
    refine bodyPost_ret (v := .agg (List.toArray _)) (results_agg rfl rfl (World.rangeAt_setCells_same _ _ _ _ hthz) Tryz.underlying273 rfl hi) rfl ?_
    refine ⟨_, _, rfl, ?_, ?_, ?_, ?_, ?_, hHeld.1⟩
    · omega
    · omega
    · omega
    · refine Row.setCells' (by omega) _ _ ?_
      repeat (first | exact Row.new' (by simp) | refine Row.alloc ?_ _ | refine Row.old ?_ hb2)
    · refine Row.setCells' (by omega) _ _ ?_
      repeat (first | exact Row.new' (by simp) | refine Row.alloc ?_ _ | refine Row.old ?_ hb2)
  · go_simp
    refine (toggleWords_any n _ h0 h1).mono ?_
    rintro e w2 ⟨rfl, hb2⟩
    have hz2 := hb2.size
    (try simp at hz2)
    go_wp2_with fail
    refine hK.out _ _ ?_ (fun hHeld => ?_)
    · exact keepC hHeld hb2
    clear hK K
    (try go_frame)
    refine wpAnyH_ready (rs := [14, 21]) (by kernel_rfl) (by simp) ?_
    refine AllReadyH.cons (o := { dst := some 21, op := Go.Op.makeSlice 22 (Go.Operand.tmp 20) (Go.Operand.tmp 20), type := 22, pos := "thread.go:51", after := #[{ on := 13, ground := Go.Ground.data }, { on := 13, ground := Go.Ground.data }], guard := none }) (by rfl) (fun K hK => ?_) (AllReadyH.cons (o := { dst := some 28, op := Go.Op.makeSlice 22 (Go.Operand.tmp 27) (Go.Operand.tmp 27), type := 22, pos := "thread.go:51", after := #[{ on := 20, ground := Go.Ground.data }, { on := 20, ground := Go.Ground.data }], guard := none }) (by rfl) (fun K hK => ?_) AllReadyH.nil)
    · go_simp
      refine hK.out _ _ ?_ (fun hHeld => ?_)
      · exact keepA hHeld _
      clear hK K
      (try go_frame)
      refine wpAnyH_take (i := 15) (oi := { dst := some 22, op := Go.Op.build 271 #[(0, Go.Operand.tmp 21)], type := 271, pos := "thread.go:51", after := #[{ on := 14, ground := Go.Ground.data }], guard := none }) (v := ?v89) rfl (by kernel_rfl) (by kernel_rfl) (by kernel_rfl) (fun _ _ _ h => h) (Or.inl ⟨by rfl, ?hy89⟩) (by assumption) ?rest89
      case hy89 => (intro w hSw; (try dsimp only at hSw); go_simp; (try with_reducible rfl))
      (try go_frame)
      refine wpAnyH_ready (rs := [21]) (by kernel_rfl) (by simp) ?_
      refine AllReadyH.cons (o := { dst := some 28, op := Go.Op.makeSlice 22 (Go.Operand.tmp 27) (Go.Operand.tmp 27), type := 22, pos := "thread.go:51", after := #[{ on := 20, ground := Go.Ground.data }, { on := 20, ground := Go.Ground.data }], guard := none }) (by rfl) (fun K hK => ?_) AllReadyH.nil
      go_simp
      refine hK.out _ _ ?_ (fun hHeld => ?_)
      · exact keepA hHeld _
      clear hK K
      (try go_frame)
      refine wpAnyH_take (i := 22) (oi := { dst := some 29, op := Go.Op.build 273 #[(0, Go.Operand.tmp 7), (1, Go.Operand.tmp 8), (2, Go.Operand.tmp 9), (9, Go.Operand.tmp 12), (10, Go.Operand.tmp 15), (12, Go.Operand.tmp 22), (13, Go.Operand.tmp 28)], type := 273, pos := "thread.go:51", after := #[{ on := 0, ground := Go.Ground.data }, { on := 1, ground := Go.Ground.data }, { on := 2, ground := Go.Ground.data }, { on := 5, ground := Go.Ground.data }, { on := 8, ground := Go.Ground.data }, { on := 15, ground := Go.Ground.data }, { on := 21, ground := Go.Ground.data }], guard := none }) (v := ?v90) rfl (by kernel_rfl) (by kernel_rfl) (by kernel_rfl) (fun _ _ _ h => h) (Or.inl ⟨by rfl, ?hy90⟩) (by assumption) ?rest90
      case hy90 => (intro w hSw; (try dsimp only at hSw); go_simp; (try with_reducible rfl))
      (try go_frame)
      refine wpAnyH_ready (rs := [23]) (by kernel_rfl) (by simp) ?_
      refine AllReadyH.cons (o := { dst := none, op := Go.Op.store 273 (Go.Operand.tmp 6) (Go.Operand.tmp 29), type := 0, pos := "thread.go:51", after := #[{ on := 22, ground := Go.Ground.data }, { on := 20, ground := Go.Ground.chain }, { on := 0, ground := Go.Ground.phase }, { on := 1, ground := Go.Ground.phase }, { on := 2, ground := Go.Ground.phase }, { on := 3, ground := Go.Ground.phase }, { on := 4, ground := Go.Ground.phase }, { on := 5, ground := Go.Ground.phase }, { on := 6, ground := Go.Ground.phase }, { on := 7, ground := Go.Ground.phase }, { on := 8, ground := Go.Ground.phase }, { on := 9, ground := Go.Ground.phase }, { on := 10, ground := Go.Ground.phase }, { on := 11, ground := Go.Ground.phase }, { on := 12, ground := Go.Ground.phase }, { on := 13, ground := Go.Ground.phase }, { on := 14, ground := Go.Ground.phase }, { on := 15, ground := Go.Ground.phase }, { on := 16, ground := Go.Ground.phase }, { on := 17, ground := Go.Ground.phase }, { on := 18, ground := Go.Ground.phase }, { on := 19, ground := Go.Ground.phase }, { on := 20, ground := Go.Ground.phase }, { on := 21, ground := Go.Ground.phase }, { on := 22, ground := Go.Ground.phase }], guard := none }) (by rfl) (fun K hK => ?_) AllReadyH.nil
      rw [if_pos (by rfl)]
      refine wp_store_mid _ _ _ rfl _ _ (List.toArray _) rfl rfl ?_ ?_ ?_ ?_
      · exact hHeld.2.2
      · exact hi
      · exact all_oneCell_toArray (by simp [Value.oneCell'])
      have hthz := hHeld.2.2
      refine hK.out _ _ ?_ (fun hHeld => ?_)
      · exact keepS hHeld hlt _
      clear hK K
      (try go_frame)
      refine wpAnyH_done (by kernel_rfl) ?_ _
      go_wp2
      refine bodyPost_ret (v := .agg (List.toArray _)) (results_agg rfl rfl (World.rangeAt_setCells_same _ _ _ _ hthz) Tryz.underlying273 rfl hi) rfl ?_
      refine ⟨_, _, rfl, ?_, ?_, ?_, ?_, ?_, hHeld.1⟩
      · omega
      · omega
      · omega
      · refine Row.setCells' (by omega) _ _ ?_
        repeat (first | exact Row.new' (by simp) | refine Row.alloc ?_ _ | refine Row.old ?_ hb2)
      · refine Row.setCells' (by omega) _ _ ?_
        repeat (first | exact Row.new' (by simp) | refine Row.alloc ?_ _ | refine Row.old ?_ hb2)
    · go_simp
      refine hK.out _ _ ?_ (fun hHeld => ?_)
      · exact keepA hHeld _
      clear hK K
      (try go_frame)
      refine wpAnyH_ready (rs := [14]) (by kernel_rfl) (by simp) ?_
      refine AllReadyH.cons (o := { dst := some 21, op := Go.Op.makeSlice 22 (Go.Operand.tmp 20) (Go.Operand.tmp 20), type := 22, pos := "thread.go:51", after := #[{ on := 13, ground := Go.Ground.data }, { on := 13, ground := Go.Ground.data }], guard := none }) (by rfl) (fun K hK => ?_) AllReadyH.nil
      go_simp
      refine hK.out _ _ ?_ (fun hHeld => ?_)
      · exact keepA hHeld _
      clear hK K
      (try go_frame)
      refine wpAnyH_take (i := 15) (oi := { dst := some 22, op := Go.Op.build 271 #[(0, Go.Operand.tmp 21)], type := 271, pos := "thread.go:51", after := #[{ on := 14, ground := Go.Ground.data }], guard := none }) (v := ?v91) rfl (by kernel_rfl) (by kernel_rfl) (by kernel_rfl) (fun _ _ _ h => h) (Or.inl ⟨by rfl, ?hy91⟩) (by assumption) ?rest91
      case hy91 => (intro w hSw; (try dsimp only at hSw); go_simp; (try with_reducible rfl))
      (try go_frame)
      refine wpAnyH_take (i := 22) (oi := { dst := some 29, op := Go.Op.build 273 #[(0, Go.Operand.tmp 7), (1, Go.Operand.tmp 8), (2, Go.Operand.tmp 9), (9, Go.Operand.tmp 12), (10, Go.Operand.tmp 15), (12, Go.Operand.tmp 22), (13, Go.Operand.tmp 28)], type := 273, pos := "thread.go:51", after := #[{ on := 0, ground := Go.Ground.data }, { on := 1, ground := Go.Ground.data }, { on := 2, ground := Go.Ground.data }, { on := 5, ground := Go.Ground.data }, { on := 8, ground := Go.Ground.data }, { on := 15, ground := Go.Ground.data }, { on := 21, ground := Go.Ground.data }], guard := none }) (v := ?v92) rfl (by kernel_rfl) (by kernel_rfl) (by kernel_rfl) (fun _ _ _ h => h) (Or.inl ⟨by rfl, ?hy92⟩) (by assumption) ?rest92
      case hy92 => (intro w hSw; (try dsimp only at hSw); go_simp; (try with_reducible rfl))
      (try go_frame)
      refine wpAnyH_ready (rs := [23]) (by kernel_rfl) (by simp) ?_
      refine AllReadyH.cons (o := { dst := none, op := Go.Op.store 273 (Go.Operand.tmp 6) (Go.Operand.tmp 29), type := 0, pos := "thread.go:51", after := #[{ on := 22, ground := Go.Ground.data }, { on := 20, ground := Go.Ground.chain }, { on := 0, ground := Go.Ground.phase }, { on := 1, ground := Go.Ground.phase }, { on := 2, ground := Go.Ground.phase }, { on := 3, ground := Go.Ground.phase }, { on := 4, ground := Go.Ground.phase }, { on := 5, ground := Go.Ground.phase }, { on := 6, ground := Go.Ground.phase }, { on := 7, ground := Go.Ground.phase }, { on := 8, ground := Go.Ground.phase }, { on := 9, ground := Go.Ground.phase }, { on := 10, ground := Go.Ground.phase }, { on := 11, ground := Go.Ground.phase }, { on := 12, ground := Go.Ground.phase }, { on := 13, ground := Go.Ground.phase }, { on := 14, ground := Go.Ground.phase }, { on := 15, ground := Go.Ground.phase }, { on := 16, ground := Go.Ground.phase }, { on := 17, ground := Go.Ground.phase }, { on := 18, ground := Go.Ground.phase }, { on := 19, ground := Go.Ground.phase }, { on := 20, ground := Go.Ground.phase }, { on := 21, ground := Go.Ground.phase }, { on := 22, ground := Go.Ground.phase }], guard := none }) (by rfl) (fun K hK => ?_) AllReadyH.nil
      rw [if_pos (by rfl)]
      refine wp_store_mid _ _ _ rfl _ _ (List.toArray _) rfl rfl ?_ ?_ ?_ ?_
      · exact hHeld.2.2
      · exact hi
      · exact all_oneCell_toArray (by simp [Value.oneCell'])
      have hthz := hHeld.2.2
      refine hK.out _ _ ?_ (fun hHeld => ?_)
      · exact keepS hHeld hlt _
      clear hK K
      (try go_frame)
      refine wpAnyH_done (by kernel_rfl) ?_ _
      go_wp2
      refine bodyPost_ret (v := .agg (List.toArray _)) (results_agg rfl rfl (World.rangeAt_setCells_same _ _ _ _ hthz) Tryz.underlying273 rfl hi) rfl ?_
      refine ⟨_, _, rfl, ?_, ?_, ?_, ?_, ?_, hHeld.1⟩
      · omega
      · omega
      · omega
      · refine Row.setCells' (by omega) _ _ ?_
        repeat (first | exact Row.new' (by simp) | refine Row.alloc ?_ _ | refine Row.old ?_ hb2)
      · refine Row.setCells' (by omega) _ _ ?_
        repeat (first | exact Row.new' (by simp) | refine Row.alloc ?_ _ | refine Row.old ?_ hb2)

end Go.Proofs.YtefjhnhdagolhaaGreat.tree
