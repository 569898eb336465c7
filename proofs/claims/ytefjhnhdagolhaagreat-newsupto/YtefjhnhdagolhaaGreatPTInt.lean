import Derived.Test.YtefjhnhdagolhaaGreatProg
import Derived.Test.YtefjhnhdagolhaaGreatPA
namespace Go.Proofs.YtefjhnhdagolhaaGreat.int
open Go.RowKit

theorem sized_edition : (Tryz.prog.info? 227).map (fun i => decide (i.size = 0)) = some false := by kernel_rfl

set_option maxHeartbeats 400000 in
theorem atomStore (b o g : Nat) (u v : Value) (w : World) (hc : w.cell? ⟨b, o, none⟩ = some u) (hz : w.frozen? ⟨b, o, none⟩ = false) (hg : w.cell? ⟨g, 0, none⟩ = some v) :
    Calls Tryz.prog 158 #[.pointer (some ⟨b, o, none⟩), .pointer (some ⟨g, 0, none⟩)] w fun e w' => e = .returned (.tuple #[]) ∧ w' = w.setCell ⟨b, o, none⟩ (.pointer (some ⟨g, 0, none⟩)) := by
  have hcv := run_convert_to_unsafe (P := Tryz.prog) (src := 297) (dst := 208) (t := 227) Tryz.underlying297 Tryz.underlying208 sized_edition hg
  have hst := run_call_storeP (P := Tryz.prog) Tryz.func165 (by kernel_rfl) (by kernel_rfl) (by kernel_rfl) (by kernel_rfl) (y := some ⟨g, 0, none⟩) hc hz
  clear hc hz hg
  go_enter Tryz.func158, Tryz.ntmps158
  go_wp2
  go_end0
  exact ⟨rfl, rfl⟩

theorem lies_edition : liesAt Tryz.prog Tryz.prog.depth 227 (4 / Tryz.prog.cellsOf 227) 0 227 1 = true := by kernel_rfl

set_option maxHeartbeats 400000 in
theorem atomLoad (b o g : Nat) (xs : List Value) (w : World) (hc : w.cell? ⟨b, o, none⟩ = some (.pointer (some ⟨g, 0, none⟩))) (hg : Row w g 227 xs) (hx : xs.length = 4) :
    Calls Tryz.prog 238 #[.pointer (some ⟨b, o, none⟩)] w fun e w' => e = .returned (.pointer (some ⟨g, 0, none⟩)) ∧ w' = w := by
  have hcv := run_from_unsafe (P := Tryz.prog) (src := 208) (dst := 297) (u := 227) Tryz.underlying208 Tryz.underlying297 hg sized_edition (by rw [hx]; exact lies_edition)
  have hld := run_call_loadP (P := Tryz.prog) Tryz.func245 (by kernel_rfl) (by kernel_rfl) (by kernel_rfl) (by kernel_rfl) hc
  clear hc hg hx
  go_enter Tryz.func238, Tryz.ntmps238
  go_wp2
  go_ret
  exact ⟨rfl, rfl⟩

end Go.Proofs.YtefjhnhdagolhaaGreat.int

namespace Go.Proofs.YtefjhnhdagolhaaGreat.int
open Go.RowKit
attribute [local go_sem ↓] Go.wp_at_zero Go.wp_at_succ

/-- The cells of a new thread. -/
def thNew (bS : Nat) (i most : Int) (gD nD gG nG : Nat) : List Value :=
  [.pointer (some ⟨bS, 0, none⟩), .int .i64 i, .int .i64 most, .int .i64 0, .int .i64 0, .int .i64 0, .int .i64 0, .int .i64 0, .bool false, .int .i64 0, .bool false, .int .i64 (2 * i + 1), .int .i64 (2 * i + 2), .int .i64 0,
    .slice (some ⟨gD, 0, none⟩) nD nD] ++ [.int .i64 0] ++ [.pointer none] ++ [.int .i64 0] ++ [.pointer none, .slice (some ⟨gG, 0, none⟩) nG nG, .slice none 0 0, .int .i64 0, .int .i64 0, .int .i64 0, .int .i64 0, .int .i64 0, .int .i64 0, .bool false]

set_option maxRecDepth 20000 in
set_option maxHeartbeats 4000000 in
theorem newThread_any (bS : Nat) (n i most : Int) (w : World) (hc : w.cell? ⟨bS, 0, none⟩ = some (.int .i64 n)) (h0 : 1 ≤ n) (h1 : n ≤ 64) (h2 : 0 ≤ i) (h3 : i ≤ 64) :
    Calls Tryz.prog 134 #[.pointer (some ⟨bS, 0, none⟩), .int .i64 i, .int .i64 most] w fun e w' => ∃ gD gG, e = .returned (.agg (thNew bS i most gD ((n + 15) / 16 + 2 * n).toNat gG ((n + 15) / 16).toNat).toArray) ∧ w.heap.size ≤ gD ∧ w.heap.size ≤ gG ∧ gD ≠ gG ∧
      Row w' gD 3 (zeros (.int .i64 0) ((n + 15) / 16 + 2 * n).toNat) ∧ Row w' gG 3 (zeros (.int .i64 0) ((n + 15) / 16).toNat) ∧ Below w.heap.size w w' := by
  have hmk1 := run_make_zeros (P := Tryz.prog) 22 3 (.int .i64 0) 8 Tryz.underlying22 info_int rfl ((n + 15) / 16 + 2 * n) ((n + 15) / 16 + 2 * n).toNat (by omega) (by omega) (by omega)
  have hmk2 := run_make_zeros (P := Tryz.prog) 22 3 (.int .i64 0) 8 Tryz.underlying22 info_int rfl ((n + 15) / 16) ((n + 15) / 16).toNat (by omega) (by omega) (by omega)
  have hi : (Tryz.prog.info? 231).map (·.size) = some 28 := by kernel_rfl
  have hw1 : IntKind.i64.wrap (2 * i) = 2 * i := wrapi _ (by omega) (by omega)
  have hw2 : IntKind.i64.wrap (2 * i + 1) = 2 * i + 1 := wrapi _ (by omega) (by omega)
  have hw3 : IntKind.i64.wrap (2 * i + 2) = 2 * i + 2 := wrapi _ (by omega) (by omega)
  have hlt : bS < w.heap.size := World.block_lt_of_cell? w _ hc
  go_enter Tryz.func134, Tryz.ntmps134
  go_wp2
  generalize hW0 : World.alloc w _ = W0
  have hb0 : Below w.heap.size w W0 := by rw [← hW0]; exact below_alloc w _
  have hs0 : w.heap.size < W0.heap.size := by rw [← hW0]; simp
  have hth : W0.there w.heap.size 0 28 := by rw [← hW0]; exact Row.there (t := 231) (Row.new w _ 231) (by simp)
  clear hW0
  refine wp_region_held_drew (S := (fun w' => Below w.heap.size w w' ∧ w'.cell? ⟨bS, 0, none⟩ = some (.int .i64 n) ∧ w'.there w.heap.size 0 28)) (by kernel_rfl) ?_ (fun hHeld => ?_)
  · exact keepI hb0 hc hth
  refine wpAnyH_take (i := 0) (oi := { dst := some 7, op := Go.Op.move (Go.Operand.tmp 0), type := 215, pos := "thread.go:51", after := #[], guard := none }) (v := ?v1) rfl (by kernel_rfl) (by kernel_rfl) (by kernel_rfl) (fun _ _ _ h => h) (Or.inl ⟨by rfl, ?hy1⟩) (by assumption) ?rest1
  case hy1 => (intro w hSw; (try dsimp only at hSw); go_simp; (try with_reducible rfl))
  (try go_frame)
  refine wpAnyH_take (i := 1) (oi := { dst := some 8, op := Go.Op.move (Go.Operand.tmp 1), type := 3, pos := "thread.go:51", after := #[], guard := none }) (v := ?v2) rfl (by kernel_rfl) (by kernel_rfl) (by kernel_rfl) (fun _ _ _ h => h) (Or.inl ⟨by rfl, ?hy2⟩) (by assumption) ?rest2
  case hy2 => (intro w hSw; (try dsimp only at hSw); go_simp; (try with_reducible rfl))
  (try go_frame)
  refine wpAnyH_take (i := 2) (oi := { dst := some 9, op := Go.Op.move (Go.Operand.tmp 2), type := 3, pos := "thread.go:51", after := #[], guard := none }) (v := ?v3) rfl (by kernel_rfl) (by kernel_rfl) (by kernel_rfl) (fun _ _ _ h => h) (Or.inl ⟨by rfl, ?hy3⟩) (by assumption) ?rest3
  case hy3 => (intro w hSw; (try dsimp only at hSw); go_simp; (try with_reducible rfl))
  (try go_frame)
  refine wpAnyH_take (i := 3) (oi := { dst := some 10, op := Go.Op.move (Go.Operand.tmp 1), type := 3, pos := "thread.go:51", after := #[], guard := none }) (v := ?v4) rfl (by kernel_rfl) (by kernel_rfl) (by kernel_rfl) (fun _ _ _ h => h) (Or.inl ⟨by rfl, ?hy4⟩) (by assumption) ?rest4
  case hy4 => (intro w hSw; (try dsimp only at hSw); go_simp; (try with_reducible rfl))
  (try go_frame)
  refine wpAnyH_take (i := 4) (oi := { dst := some 11, op := Go.Op.binOp Go.BinOp.mul 3 (Go.Operand.const (Go.Value.int Go.IntKind.i64 2)) (Go.Operand.tmp 10) 3, type := 3, pos := "thread.go:51", after := #[{ on := 3, ground := Go.Ground.data }], guard := none }) (v := ?v5) rfl (by kernel_rfl) (by kernel_rfl) (by kernel_rfl) (fun _ _ _ h => h) (Or.inl ⟨by rfl, ?hy5⟩) (by assumption) ?rest5
  case hy5 => (intro w hSw; (try dsimp only at hSw); go_simp; (try with_reducible rfl))
  (try go_frame)
  refine wpAnyH_take (i := 5) (oi := { dst := some 12, op := Go.Op.binOp Go.BinOp.add 3 (Go.Operand.tmp 11) (Go.Operand.const (Go.Value.int Go.IntKind.i64 1)) 3, type := 3, pos := "thread.go:51", after := #[{ on := 4, ground := Go.Ground.data }], guard := none }) (v := ?v6) rfl (by kernel_rfl) (by kernel_rfl) (by kernel_rfl) (fun _ _ _ h => h) (Or.inl ⟨by rfl, ?hy6⟩) (by assumption) ?rest6
  case hy6 => (intro w hSw; (try dsimp only at hSw); go_simp; (try with_reducible rfl))
  (try go_frame)
  refine wpAnyH_take (i := 6) (oi := { dst := some 13, op := Go.Op.move (Go.Operand.tmp 1), type := 3, pos := "thread.go:51", after := #[], guard := none }) (v := ?v7) rfl (by kernel_rfl) (by kernel_rfl) (by kernel_rfl) (fun _ _ _ h => h) (Or.inl ⟨by rfl, ?hy7⟩) (by assumption) ?rest7
  case hy7 => (intro w hSw; (try dsimp only at hSw); go_simp; (try with_reducible rfl))
  (try go_frame)
  refine wpAnyH_take (i := 7) (oi := { dst := some 14, op := Go.Op.binOp Go.BinOp.mul 3 (Go.Operand.const (Go.Value.int Go.IntKind.i64 2)) (Go.Operand.tmp 13) 3, type := 3, pos := "thread.go:51", after := #[{ on := 6, ground := Go.Ground.data }], guard := none }) (v := ?v8) rfl (by kernel_rfl) (by kernel_rfl) (by kernel_rfl) (fun _ _ _ h => h) (Or.inl ⟨by rfl, ?hy8⟩) (by assumption) ?rest8
  case hy8 => (intro w hSw; (try dsimp only at hSw); go_simp; (try with_reducible rfl))
  (try go_frame)
  refine wpAnyH_take (i := 8) (oi := { dst := some 15, op := Go.Op.binOp Go.BinOp.add 3 (Go.Operand.tmp 14) (Go.Operand.const (Go.Value.int Go.IntKind.i64 2)) 3, type := 3, pos := "thread.go:51", after := #[{ on := 7, ground := Go.Ground.data }], guard := none }) (v := ?v9) rfl (by kernel_rfl) (by kernel_rfl) (by kernel_rfl) (fun _ _ _ h => h) (Or.inl ⟨by rfl, ?hy9⟩) (by assumption) ?rest9
  case hy9 => (intro w hSw; (try dsimp only at hSw); go_simp; (try with_reducible rfl))
  (try go_frame)
  refine wpAnyH_take (i := 9) (oi := { dst := some 16, op := Go.Op.move (Go.Operand.tmp 0), type := 215, pos := "thread.go:51", after := #[], guard := none }) (v := ?v10) rfl (by kernel_rfl) (by kernel_rfl) (by kernel_rfl) (fun _ _ _ h => h) (Or.inl ⟨by rfl, ?hy10⟩) (by assumption) ?rest10
  case hy10 => (intro w hSw; (try dsimp only at hSw); go_simp; (try with_reducible rfl))
  (try go_frame)
  refine wpAnyH_take (i := 10) (oi := { dst := some 17, op := Go.Op.nilCheck (Go.Operand.tmp 16), type := 0, pos := "thread.go:51", after := #[{ on := 9, ground := Go.Ground.data }], guard := none }) (v := ?v11) rfl (by kernel_rfl) (by kernel_rfl) (by kernel_rfl) (fun _ _ _ h => h) (Or.inl ⟨by rfl, ?hy11⟩) (by assumption) ?rest11
  case hy11 => (intro w hSw; (try dsimp only at hSw); go_simp; (try with_reducible rfl))
  (try go_frame)
  refine wpAnyH_take (i := 11) (oi := { dst := some 18, op := Go.Op.fieldAddr 296 (Go.Operand.tmp 17) 0, type := 0, pos := "thread.go:51", after := #[{ on := 10, ground := Go.Ground.data }], guard := none }) (v := ?v12) rfl (by kernel_rfl) (by kernel_rfl) (by kernel_rfl) (fun _ _ _ h => h) (Or.inl ⟨by rfl, ?hy12⟩) (by assumption) ?rest12
  case hy12 => (intro w hSw; (try dsimp only at hSw); go_simp; (try with_reducible rfl))
  (try go_frame)
  refine wpAnyH_take (i := 12) (oi := { dst := some 19, op := Go.Op.load 287 (Go.Operand.tmp 18), type := 287, pos := "thread.go:51", after := #[{ on := 11, ground := Go.Ground.data }], guard := none }) (v := ?v13) rfl (by kernel_rfl) (by kernel_rfl) (by kernel_rfl) (fun _ _ _ h => h) (Or.inl ⟨by rfl, ?hy13⟩) (by assumption) ?rest13
  case hy13 => (intro w hSw; (try dsimp only at hSw); go_simp; (try with_reducible rfl))
  (try go_frame)
  refine wpAnyH_take (i := 16) (oi := { dst := some 23, op := Go.Op.move (Go.Operand.tmp 0), type := 215, pos := "thread.go:51", after := #[], guard := none }) (v := ?v14) rfl (by kernel_rfl) (by kernel_rfl) (by kernel_rfl) (fun _ _ _ h => h) (Or.inl ⟨by rfl, ?hy14⟩) (by assumption) ?rest14
  case hy14 => (intro w hSw; (try dsimp only at hSw); go_simp; (try with_reducible rfl))
  (try go_frame)
  refine wpAnyH_take (i := 17) (oi := { dst := some 24, op := Go.Op.nilCheck (Go.Operand.tmp 23), type := 0, pos := "thread.go:51", after := #[{ on := 16, ground := Go.Ground.data }], guard := none }) (v := ?v15) rfl (by kernel_rfl) (by kernel_rfl) (by kernel_rfl) (fun _ _ _ h => h) (Or.inl ⟨by rfl, ?hy15⟩) (by assumption) ?rest15
  case hy15 => (intro w hSw; (try dsimp only at hSw); go_simp; (try with_reducible rfl))
  (try go_frame)
  refine wpAnyH_take (i := 18) (oi := { dst := some 25, op := Go.Op.fieldAddr 296 (Go.Operand.tmp 24) 0, type := 0, pos := "thread.go:51", after := #[{ on := 17, ground := Go.Ground.data }], guard := none }) (v := ?v16) rfl (by kernel_rfl) (by kernel_rfl) (by kernel_rfl) (fun _ _ _ h => h) (Or.inl ⟨by rfl, ?hy16⟩) (by assumption) ?rest16
  case hy16 => (intro w hSw; (try dsimp only at hSw); go_simp; (try with_reducible rfl))
  (try go_frame)
  refine wpAnyH_take (i := 19) (oi := { dst := some 26, op := Go.Op.load 287 (Go.Operand.tmp 25), type := 287, pos := "thread.go:51", after := #[{ on := 18, ground := Go.Ground.data }], guard := none }) (v := ?v17) rfl (by kernel_rfl) (by kernel_rfl) (by kernel_rfl) (fun _ _ _ h => h) (Or.inl ⟨by rfl, ?hy17⟩) (by assumption) ?rest17
  case hy17 => (intro w hSw; (try dsimp only at hSw); go_simp; (try with_reducible rfl))
  (try go_frame)
  refine wpAnyH_ready (rs := [13]) (by kernel_rfl) (by simp) ?_
  refine AllReadyH.cons (o := { dst := some 20, op := Go.Op.call { callee := Go.Callee.value (Go.Operand.func 157), args := #[Go.Operand.tmp 19], argTypes := #[287] }, type := 3, pos := "thread.go:57", after := #[{ on := 12, ground := Go.Ground.data }], guard := none }) (by rfl) (fun K hK => ?_) AllReadyH.nil
  go_simp
  refine (recordWords_any n _ h0 h1).mono ?_
  rintro e w3 ⟨rfl, hb3⟩
  have hz3 := hb3.size
  (try simp at hz3)
  go_wp2_with fail
  refine hK.out _ _ ?_ (fun hHeld => ?_)
  · exact keepC hHeld hb3
  clear hK K
  (try go_frame)
  refine wpAnyH_ready (rs := [14, 20]) (by kernel_rfl) (by simp) ?_
  refine AllReadyH.cons (o := { dst := some 21, op := Go.Op.makeSlice 22 (Go.Operand.tmp 20) (Go.Operand.tmp 20), type := 22, pos := "thread.go:51", after := #[{ on := 13, ground := Go.Ground.data }, { on := 13, ground := Go.Ground.data }], guard := none }) (by rfl) (fun K hK => ?_) (AllReadyH.cons (o := { dst := some 27, op := Go.Op.call { callee := Go.Callee.value (Go.Operand.func 156), args := #[Go.Operand.tmp 26], argTypes := #[287] }, type := 3, pos := "thread.go:58", after := #[{ on := 19, ground := Go.Ground.data }, { on := 13, ground := Go.Ground.chain }], guard := none }) (by rfl) (fun K hK => ?_) AllReadyH.nil)
  · go_simp
    refine hK.out _ _ ?_ (fun hHeld => ?_)
    · exact keepA hHeld _
    clear hK K
    (try go_frame)
    refine wpAnyH_take (i := 15) (oi := { dst := some 22, op := Go.Op.build 229 #[(0, Go.Operand.tmp 21)], type := 229, pos := "thread.go:51", after := #[{ on := 14, ground := Go.Ground.data }], guard := none }) (v := ?v18) rfl (by kernel_rfl) (by kernel_rfl) (by kernel_rfl) (fun _ _ _ h => h) (Or.inl ⟨by rfl, ?hy18⟩) (by assumption) ?rest18
    case hy18 => (intro w hSw; (try dsimp only at hSw); go_simp; (try with_reducible rfl))
    (try go_frame)
    refine wpAnyH_ready (rs := [20]) (by kernel_rfl) (by simp) ?_
    refine AllReadyH.cons (o := { dst := some 27, op := Go.Op.call { callee := Go.Callee.value (Go.Operand.func 156), args := #[Go.Operand.tmp 26], argTypes := #[287] }, type := 3, pos := "thread.go:58", after := #[{ on := 19, ground := Go.Ground.data }, { on := 13, ground := Go.Ground.chain }], guard := none }) (by rfl) (fun K hK => ?_) AllReadyH.nil
    go_simp
    refine (toggleWords_any n _ h0 h1).mono ?_
    rintro e w2 ⟨rfl, hb2⟩
    have hz2 := hb2.size
    (try simp at hz2)
    go_wp2_with fail
    refine hK.out _ _ ?_ (fun hHeld => ?_)
    · exact keepC hHeld hb2
    clear hK K
    (try go_frame)
    refine wpAnyH_ready (rs := [21]) (by kernel_rfl) (by simp) ?_
    refine AllReadyH.cons (o := { dst := some 28, op := Go.Op.makeSlice 22 (Go.Operand.tmp 27) (Go.Operand.tmp 27), type := 22, pos := "thread.go:51", after := #[{ on := 20, ground := Go.Ground.data }, { on := 20, ground := Go.Ground.data }], guard := none }) (by rfl) (fun K hK => ?_) AllReadyH.nil
    go_simp
    refine hK.out _ _ ?_ (fun hHeld => ?_)
    · exact keepA hHeld _
    clear hK K
    (try go_frame)
    refine wpAnyH_take (i := 22) (oi := { dst := some 29, op := Go.Op.build 231 #[(0, Go.Operand.tmp 7), (1, Go.Operand.tmp 8), (2, Go.Operand.tmp 9), (9, Go.Operand.tmp 12), (10, Go.Operand.tmp 15), (12, Go.Operand.tmp 22), (13, Go.Operand.tmp 28)], type := 231, pos := "thread.go:51", after := #[{ on := 0, ground := Go.Ground.data }, { on := 1, ground := Go.Ground.data }, { on := 2, ground := Go.Ground.data }, { on := 5, ground := Go.Ground.data }, { on := 8, ground := Go.Ground.data }, { on := 15, ground := Go.Ground.data }, { on := 21, ground := Go.Ground.data }], guard := none }) (v := ?v19) rfl (by kernel_rfl) (by kernel_rfl) (by kernel_rfl) (fun _ _ _ h => h) (Or.inl ⟨by rfl, ?hy19⟩) (by assumption) ?rest19
    case hy19 => (intro w hSw; (try dsimp only at hSw); go_simp; (try with_reducible rfl))
    (try go_frame)
    refine wpAnyH_ready (rs := [23]) (by kernel_rfl) (by simp) ?_
    refine AllReadyH.cons (o := { dst := none, op := Go.Op.store 231 (Go.Operand.tmp 6) (Go.Operand.tmp 29), type := 0, pos := "thread.go:51", after := #[{ on := 22, ground := Go.Ground.data }, { on := 20, ground := Go.Ground.chain }, { on := 0, ground := Go.Ground.phase }, { on := 1, ground := Go.Ground.phase }, { on := 2, ground := Go.Ground.phase }, { on := 3, ground := Go.Ground.phase }, { on := 4, ground := Go.Ground.phase }, { on := 5, ground := Go.Ground.phase }, { on := 6, ground := Go.Ground.phase }, { on := 7, ground := Go.Ground.phase }, { on := 8, ground := Go.Ground.phase }, { on := 9, ground := Go.Ground.phase }, { on := 10, ground := Go.Ground.phase }, { on := 11, ground := Go.Ground.phase }, { on := 12, ground := Go.Ground.phase }, { on := 13, ground := Go.Ground.phase }, { on := 14, ground := Go.Ground.phase }, { on := 15, ground := Go.Ground.phase }, { on := 16, ground := Go.Ground.phase }, { on := 17, ground := Go.Ground.phase }, { on := 18, ground := Go.Ground.phase }, { on := 19, ground := Go.Ground.phase }, { on := 20, ground := Go.Ground.phase }, { on := 21, ground := Go.Ground.phase }, { on := 22, ground := Go.Ground.phase }], guard := none }) (by rfl) (fun K hK => ?_) AllReadyH.nil
    rw [if_pos (by rfl)]
    refine wp_store_mid _ _ _ rfl _ _ (List.toArray _) rfl rfl ?_ ?_ ?_ ?_
    · exact hHeld.2.2
    · exact hi
    · exact all_oneCell_toArray (by simp [Value.oneCell'])
    have hthz := hHeld.2.2
    refine hK.out _ _ ?_ (fun hHeld => ?_)
    · exact keepS hHeld hlt _
    clear hK K
    (try go_frame)
    refine wpAnyH_done (by kernel_rfl) ?_ _
    go_wp2
    refine bodyPost_ret (v := .agg (List.toArray _)) (results_agg rfl rfl (World.rangeAt_setCells_same _ _ _ _ hthz) Tryz.underlying231 rfl hi) rfl ?_
    refine ⟨_, _, rfl, ?_, ?_, ?_, ?_, ?_, hHeld.1⟩
    · omega
    · omega
    · omega
    · refine Row.setCells' (by omega) _ _ ?_
      repeat (first | exact Row.new' (by simp) | refine Row.alloc ?_ _ | refine Row.old ?_ hb2)
    · refine Row.setCells' (by omega) _ _ ?_
      repeat (first | exact Row.new' (by simp) | refine Row.alloc ?_ _ | refine Row.old ?_ hb2)
  · go_simp
    refine (toggleWords_any n _ h0 h1).mono ?_
    rintro e w2 ⟨rfl, hb2⟩
    have hz2 := hb2.size
    (try simp at hz2)
    go_wp2_with fail
    refine hK.out _ _ ?_ (fun hHeld => ?_)
    · exact keepC hHeld hb2
    clear hK K
    (try go_frame)
    refine wpAnyH_ready (rs := [14, 21]) (by kernel_rfl) (by simp) ?_
    refine AllReadyH.cons (o := { dst := some 21, op := Go.Op.makeSlice 22 (Go.Operand.tmp 20) (Go.Operand.tmp 20), type := 22, pos := "thread.go:51", after := #[{ on := 13, ground := Go.Ground.data }, { on := 13, ground := Go.Ground.data }], guard := none }) (by rfl) (fun K hK => ?_) (AllReadyH.cons (o := { dst := some 28, op := Go.Op.makeSlice 22 (Go.Operand.tmp 27) (Go.Operand.tmp 27), type := 22, pos := "thread.go:51", after := #[{ on := 20, ground := Go.Ground.data }, { on := 20, ground := Go.Ground.data }], guard := none }) (by rfl) (fun K hK => ?_) AllReadyH.nil)
    · go_simp
      refine hK.out _ _ ?_ (fun hHeld => ?_)
      · exact keepA hHeld _
      clear hK K
      (try go_frame)
      refine wpAnyH_take (i := 15) (oi := { dst := some 22, op := Go.Op.build 229 #[(0, Go.Operand.tmp 21)], type := 229, pos := "thread.go:51", after := #[{ on := 14, ground := Go.Ground.data }], guard := none }) (v := ?v20) rfl (by kernel_rfl) (by kernel_rfl) (by kernel_rfl) (fun _ _ _ h => h) (Or.inl ⟨by rfl, ?hy20⟩) (by assumption) ?rest20
      case hy20 => (intro w hSw; (try dsimp only at hSw); go_simp; (try with_reducible rfl))
      (try go_frame)
      refine wpAnyH_ready (rs := [21]) (by kernel_rfl) (by simp) ?_
      refine AllReadyH.cons (o := { dst := some 28, op := Go.Op.makeSlice 22 (Go.Operand.tmp 27) (Go.Operand.tmp 27), type := 22, pos := "thread.go:51", after := #[{ on := 20, ground := Go.Ground.data }, { on := 20, ground := Go.Ground.data }], guard := none }) (by rfl) (fun K hK => ?_) AllReadyH.nil
      go_simp
      refine hK.out _ _ ?_ (fun hHeld => ?_)
      · exact keepA hHeld _
      clear hK K
      (try go_frame)
      refine wpAnyH_take (i := 22) (oi := { dst := some 29, op := Go.Op.build 231 #[(0, Go.Operand.tmp 7), (1, Go.Operand.tmp 8), (2, Go.Operand.tmp 9), (9, Go.Operand.tmp 12), (10, Go.Operand.tmp 15), (12, Go.Operand.tmp 22), (13, Go.Operand.tmp 28)], type := 231, pos := "thread.go:51", after := #[{ on := 0, ground := Go.Ground.data }, { on := 1, ground := Go.Ground.data }, { on := 2, ground := Go.Ground.data }, { on := 5, ground := Go.Ground.data }, { on := 8, ground := Go.Ground.data }, { on := 15, ground := Go.Ground.data }, { on := 21, ground := Go.Ground.data }], guard := none }) (v := ?v21) rfl (by kernel_rfl) (by kernel_rfl) (by kernel_rfl) (fun _ _ _ h => h) (Or.inl ⟨by rfl, ?hy21⟩) (by assumption) ?rest21
      case hy21 => (intro w hSw; (try dsimp only at hSw); go_simp; (try with_reducible rfl))
      (try go_frame)
      refine wpAnyH_ready (rs := [23]) (by kernel_rfl) (by simp) ?_
      refine AllReadyH.cons (o := { dst := none, op := Go.Op.store 231 (Go.Operand.tmp 6) (Go.Operand.tmp 29), type := 0, pos := "thread.go:51", after := #[{ on := 22, ground := Go.Ground.data }, { on := 20, ground := Go.Ground.chain }, { on := 0, ground := Go.Ground.phase }, { on := 1, ground := Go.Ground.phase }, { on := 2, ground := Go.Ground.phase }, { on := 3, ground := Go.Ground.phase }, { on := 4, ground := Go.Ground.phase }, { on := 5, ground := Go.Ground.phase }, { on := 6, ground := Go.Ground.phase }, { on := 7, ground := Go.Ground.phase }, { on := 8, ground := Go.Ground.phase }, { on := 9, ground := Go.Ground.phase }, { on := 10, ground := Go.Ground.phase }, { on := 11, ground := Go.Ground.phase }, { on := 12, ground := Go.Ground.phase }, { on := 13, ground := Go.Ground.phase }, { on := 14, ground := Go.Ground.phase }, { on := 15, ground := Go.Ground.phase }, { on := 16, ground := Go.Ground.phase }, { on := 17, ground := Go.Ground.phase }, { on := 18, ground := Go.Ground.phase }, { on := 19, ground := Go.Ground.phase }, { on := 20, ground := Go.Ground.phase }, { on := 21, ground := Go.Ground.phase }, { on := 22, ground := Go.Ground.phase }], guard := none }) (by rfl) (fun K hK => ?_) AllReadyH.nil
      rw [if_pos (by rfl)]
      refine wp_store_mid _ _ _ rfl _ _ (List.toArray _) rfl rfl ?_ ?_ ?_ ?_
      · exact hHeld.2.2
      · exact hi
      · exact all_oneCell_toArray (by simp [Value.oneCell'])
      have hthz := hHeld.2.2
      refine hK.out _ _ ?_ (fun hHeld => ?_)
      · exact keepS hHeld hlt _
      clear hK K
      (try go_frame)
      refine wpAnyH_done (by kernel_rfl) ?_ _
      go_wp2
      refine bodyPost_ret (v := .agg (List.toArray _)) (results_agg rfl rfl (World.rangeAt_setCells_same _ _ _ _ hthz) Tryz.underlying231 rfl hi) rfl ?_
      refine ⟨_, _, rfl, ?_, ?_, ?_, ?_, ?_, hHeld.1⟩
      · omega
      · omega
      · omega
      · refine Row.setCells' (by omega) _ _ ?_
        repeat (first | exact Row.new' (by simp) | refine Row.alloc ?_ _ | refine Row.old ?_ hb2)
      · refine Row.setCells' (by omega) _ _ ?_
        repeat (first | exact Row.new' (by simp) | refine Row.alloc ?_ _ | refine Row.old ?_ hb2)
    · go_simp
      refine hK.out _ _ ?_ (fun hHeld => ?_)
      · exact keepA hHeld _
      clear hK K
      (try go_frame)
      refine wpAnyH_ready (rs := [14]) (by kernel_rfl) (by simp) ?_
      refine AllReadyH.cons (o := { dst := some 21, op := Go.Op.makeSlice 22 (Go.Operand.tmp 20) (Go.Operand.tmp 20), type := 22, pos := "thread.go:51", after := #[{ on := 13, ground := Go.Ground.data }, { on := 13, ground := Go.Ground.data }], guard := none }) (by rfl) (fun K hK => ?_) AllReadyH.nil
      go_simp
      refine hK.out _ _ ?_ (fun hHeld => ?_)
      · exact keepA hHeld _
      clear hK K
      (try go_frame)
      refine wpAnyH_take (i := 15) (oi := { dst := some 22, op := Go.Op.build 229 #[(0, Go.Operand.tmp 21)], type := 229, pos := "thread.go:51", after := #[{ on := 14, ground := Go.Ground.data }], guard := none }) (v := ?v22) rfl (by kernel_rfl) (by kernel_rfl) (by kernel_rfl) (fun _ _ _ h => h) (Or.inl ⟨by rfl, ?hy22⟩) (by assumption) ?rest22
      case hy22 => (intro w hSw; (try dsimp only at hSw); go_simp; (try with_reducible rfl))
      (try go_frame)
      refine wpAnyH_take (i := 22) (oi := { dst := some 29, op := Go.Op.build 231 #[(0, Go.Operand.tmp 7), (1, Go.Operand.tmp 8), (2, Go.Operand.tmp 9), (9, Go.Operand.tmp 12), (10, Go.Operand.tmp 15), (12, Go.Operand.tmp 22), (13, Go.Operand.tmp 28)], type := 231, pos := "thread.go:51", after := #[{ on := 0, ground := Go.Ground.data }, { on := 1, ground := Go.Ground.data }, { on := 2, ground := Go.Ground.data }, { on := 5, ground := Go.Ground.data }, { on := 8, ground := Go.Ground.data }, { on := 15, ground := Go.Ground.data }, { on := 21, ground := Go.Ground.data }], guard := none }) (v := ?v23) rfl (by kernel_rfl) (by kernel_rfl) (by kernel_rfl) (fun _ _ _ h => h) (Or.inl ⟨by rfl, ?hy23⟩) (by assumption) ?rest23
      case hy23 => (intro w hSw; (try dsimp only at hSw); go_simp; (try with_reducible rfl))
      (try go_frame)
      refine wpAnyH_ready (rs := [23]) (by kernel_rfl) (by simp) ?_
      refine AllReadyH.cons (o := { dst := none, op := Go.Op.store 231 (Go.Operand.tmp 6) (Go.Operand.tmp 29), type := 0, pos := "thread.go:51", after := #[{ on := 22, ground := Go.Ground.data }, { on := 20, ground := Go.Ground.chain }, { on := 0, ground := Go.Ground.phase }, { on := 1, ground := Go.Ground.phase }, { on := 2, ground := Go.Ground.phase }, { on := 3, ground := Go.Ground.phase }, { on := 4, ground := Go.Ground.phase }, { on := 5, ground := Go.Ground.phase }, { on := 6, ground := Go.Ground.phase }, { on := 7, ground := Go.Ground.phase }, { on := 8, ground := Go.Ground.phase }, { on := 9, ground := Go.Ground.phase }, { on := 10, ground := Go.Ground.phase }, { on := 11, ground := Go.Ground.phase }, { on := 12, ground := Go.Ground.phase }, { on := 13, ground := Go.Ground.phase }, { on := 14, ground := Go.Ground.phase }, { on := 15, ground := Go.Ground.phase }, { on := 16, ground := Go.Ground.phase }, { on := 17, ground := Go.Ground.phase }, { on := 18, ground := Go.Ground.phase }, { on := 19, ground := Go.Ground.phase }, { on := 20, ground := Go.Ground.phase }, { on := 21, ground := Go.Ground.phase }, { on := 22, ground := Go.Ground.phase }], guard := none }) (by rfl) (fun K hK => ?_) AllReadyH.nil
      rw [if_pos (by rfl)]
      refine wp_store_mid _ _ _ rfl _ _ (List.toArray _) rfl rfl ?_ ?_ ?_ ?_
      · exact hHeld.2.2
      · exact hi
      · exact all_oneCell_toArray (by simp [Value.oneCell'])
      have hthz := hHeld.2.2
      refine hK.out _ _ ?_ (fun hHeld => ?_)
      · exact keepS hHeld hlt _
      clear hK K
      (try go_frame)
      refine wpAnyH_done (by kernel_rfl) ?_ _
      go_wp2
      refine bodyPost_ret (v := .agg (List.toArray _)) (results_agg rfl rfl (World.rangeAt_setCells_same _ _ _ _ hthz) Tryz.underlying231 rfl hi) rfl ?_
      refine ⟨_, _, rfl, ?_, ?_, ?_, ?_, ?_, hHeld.1⟩
      · omega
      · omega
      · omega
      · refine Row.setCells' (by omega) _ _ ?_
        repeat (first | exact Row.new' (by simp) | refine Row.alloc ?_ _ | refine Row.old ?_ hb2)
      · refine Row.setCells' (by omega) _ _ ?_
        repeat (first | exact Row.new' (by simp) | refine Row.alloc ?_ _ | refine Row.old ?_ hb2)

end Go.Proofs.YtefjhnhdagolhaaGreat.int
