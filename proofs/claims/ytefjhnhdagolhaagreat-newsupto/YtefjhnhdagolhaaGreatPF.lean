import Derived.Test.YtefjhnhdagolhaaGreatPA
import Derived.Test.YtefjhnhdagolhaaGreatPC
namespace Go.Proofs.YtefjhnhdagolhaaGreat
open Go.RowKit

set_option maxHeartbeats 400000 in
theorem int64Load (b o : Nat) (x : Int) (w : World) (hc : w.cell? ⟨b, o, none⟩ = some (.int .i64 x)) :
    Calls Tryz.prog 239 #[.pointer (some ⟨b, o, none⟩)] w fun e w' => e = .returned (.int .i64 x) ∧ w' = w := by
  have hld := run_call_load (P := Tryz.prog) Tryz.func246 (by kernel_rfl) (by kernel_rfl) (by kernel_rfl) .i64 (by kernel_rfl) hc
  clear hc
  go_enter Tryz.func239, Tryz.ntmps239
  go_wp2
  go_ret
  exact ⟨rfl, rfl⟩

set_option maxHeartbeats 400000 in
theorem pubRead (b o : Nat) (x : Int) (w : World) (hc : w.cell? ⟨b, o, none⟩ = some (.int .i64 x)) :
    Calls Tryz.prog 218 #[.pointer (some ⟨b, o, none⟩)] w fun e w' => e = .returned (.int .i64 x) ∧ w' = w := by
  have HC := hide hc
  clear hc
  go_enter Tryz.func218, Tryz.ntmps218
  go_wp2_with fail
  refine (int64Load b o x _ HC.out).mono ?_
  rintro e w1 ⟨rfl, rfl⟩
  go_wp2_with fail
  go_ret
  exact ⟨rfl, rfl⟩

set_option maxHeartbeats 400000 in
theorem pubRecord (x : Int) (w : World) (h0 : 0 ≤ x) (h1 : x ≤ 9223372036854775807) :
    Calls Tryz.prog 223 #[.int .i64 x] w fun e w' => e = .returned (.int .i64 (x % 129)) ∧ w' = w := by
  go_enter Tryz.func223, Tryz.ntmps223
  go_wp2
  go_ret
  exact ⟨rfl, rfl⟩

set_option maxHeartbeats 400000 in
theorem pubStamp (x : Int) (w : World) (h0 : 0 ≤ x) (h1 : x ≤ 9223372036854775807) :
    Calls Tryz.prog 226 #[.int .i64 x] w fun e w' => e = .returned (.int .i64 (x / 129)) ∧ w' = w := by
  go_enter Tryz.func226, Tryz.ntmps226
  go_wp2
  go_ret
  exact ⟨rfl, rfl⟩

set_option maxHeartbeats 400000 in
theorem parts_any (n : Int) (w : World) (h0 : 1 ≤ n) (h1 : n ≤ 64) :
    Calls Tryz.prog 199 #[.agg #[.int .i64 n]] w fun e w' => e = .returned (.int .i64 ((n + 15) / 16 + 2 * n + 1)) ∧ Below w.heap.size w w' := by
  go_enter Tryz.func199, Tryz.ntmps199
  go_wp2_with fail
  refine (recordWords_any n _ h0 h1).mono ?_
  rintro e w1 ⟨rfl, hb1⟩
  go_wp2_with fail
  go_ret
  exact ⟨rfl, Below.next (below_alloc _ _) hb1 (by simp)⟩

end Go.Proofs.YtefjhnhdagolhaaGreat

namespace Go.Proofs.YtefjhnhdagolhaaGreat
open Go.RowKit

set_option maxHeartbeats 400000 in
theorem counterTell (x : Int) (w : World) : Calls Tryz.prog 362 #[.agg #[], .int .i64 x] w fun e w' => ∃ v, e = .returned v ∧ w'.ownsRow w.heap.size 3 1 v 1 (ints [x]) ∧ Below w.heap.size w w' := by
  go_enter Tryz.func362, Tryz.ntmps362
  go_wp2
  go_ret
  refine ⟨_, rfl, ⟨rfl, .inr ⟨w.heap.size + 1, 1, #[.int .i64 x], rfl, by omega, ?_, by omega, by decide, rfl, rfl⟩⟩, (by repeat (first | exact Below.refl _ _ | refine Below.drewN ?_ _ | refine Below.drew ?_ | refine Below.alloc ?_ (by first | (simp; done) | (simp; omega)) _ | refine Below.next ?_ (by assumption) (by first | (simp; done) | (simp; omega))))⟩
  exact Row.new' (xs := [.int .i64 x]) (by simp)
set_option maxHeartbeats 400000 in
theorem tableTell (a b c d : Value) (x : Int) (w : World) : Calls Tryz.prog 388 #[.agg #[a, b, c, d], .int .i64 x] w fun e w' => ∃ v, e = .returned v ∧ w'.ownsRow w.heap.size 3 1 v 1 (ints [x]) ∧ Below w.heap.size w w' := by
  go_enter Tryz.func388, Tryz.ntmps388
  go_wp2
  go_ret
  refine ⟨_, rfl, ⟨rfl, .inr ⟨w.heap.size + 1, 1, #[.int .i64 x], rfl, by omega, ?_, by omega, by decide, rfl, rfl⟩⟩, (by repeat (first | exact Below.refl _ _ | refine Below.drewN ?_ _ | refine Below.drew ?_ | refine Below.alloc ?_ (by first | (simp; done) | (simp; omega)) _ | refine Below.next ?_ (by assumption) (by first | (simp; done) | (simp; omega))))⟩
  exact Row.new' (xs := [.int .i64 x]) (by simp)
set_option maxHeartbeats 400000 in
theorem sizeNil (w : World) : Calls Tryz.prog 182 #[.pointer none] w fun e w' => e = .returned (.int .i64 0) ∧ w' = w := by
  go_enter Tryz.func182, Tryz.ntmps182
  go_wp2
  go_ret
  exact ⟨rfl, rfl⟩
set_option maxHeartbeats 400000 in
theorem valuesNil (w : World) : Calls Tryz.prog 369 #[.pointer none] w fun e w' => e = .returned (.slice (some ⟨w.heap.size, 0, none⟩) 0 0) ∧ w' = w.alloc (.cells #[] 3) := by
  have hmk : ∀ w, (Instr.makeSlice 22 (.int .i64 0) (.int .i64 0)).run Tryz.prog w = .ok (.slice (some ⟨w.heap.size, 0, none⟩) 0 0) (w.alloc (.cells #[] 3)) := fun _ => by kernel_rfl
  go_enter Tryz.func369, Tryz.ntmps369
  go_wp2_with fail
  refine (sizeNil _).mono ?_
  rintro e w1 ⟨rfl, rfl⟩
  go_wp2_with fail
  go_loop [0, 3] (fun p v => p = .pointer none ∧ v = .slice (some ⟨w1.heap.size, 0, none⟩) 0 0) (fun _ _ => 0)
  case atStart => exact ⟨rfl, rfl⟩
  case round =>
    obtain ⟨rfl, rfl⟩ := hrel
    go_wp2
    go_ret
    exact ⟨rfl, rfl⟩
set_option maxHeartbeats 400000 in
theorem stackTell (w : World) : Calls Tryz.prog 366 #[.agg #[], .pointer none] w fun e w' => ∃ v, e = .returned v ∧ w'.ownsRow w.heap.size 3 1 v 0 (ints []) ∧ Below w.heap.size w w' := by
  go_enter Tryz.func366, Tryz.ntmps366
  go_wp2_with fail
  refine (valuesNil _).mono ?_
  rintro e w1 ⟨rfl, hw1⟩
  have H1 := hide hw1
  clear hw1
  go_wp2_with fail
  go_ret
  refine ⟨_, rfl, ⟨rfl, .inr ⟨w.heap.size + 1, 0, #[], rfl, by omega, ?_, Nat.le_refl _, Nat.zero_le _, rfl, rfl⟩⟩, ?_⟩
  · rw [H1.out]; exact Row.new' (xs := []) (by simp)
  · rw [H1.out]; exact (by repeat (first | exact Below.refl _ _ | refine Below.drewN ?_ _ | refine Below.drew ?_ | refine Below.alloc ?_ (by first | (simp; done) | (simp; omega)) _ | refine Below.next ?_ (by assumption) (by first | (simp; done) | (simp; omega))))
set_option maxHeartbeats 400000 in
theorem listedNil (v : Value) (w : World) : Calls Tryz.prog 381 #[.pointer none, v] w fun e w' => e = .returned v ∧ w' = w := by
  go_enter Tryz.func381, Tryz.ntmps381
  go_wp2
  go_ret
  exact ⟨rfl, rfl⟩
set_option maxHeartbeats 400000 in
theorem mapTell (w : World) : Calls Tryz.prog 376 #[.agg #[], .pointer none] w fun e w' => ∃ v, e = .returned v ∧ w'.ownsRow w.heap.size 3 1 v 0 (ints []) ∧ Below w.heap.size w w' := by
  go_enter Tryz.func376, Tryz.ntmps376
  go_wp2_with fail
  refine (listedNil _ _).mono ?_
  rintro e w1 ⟨rfl, rfl⟩
  go_wp2_with fail
  go_ret
  exact ⟨_, rfl, World.ownsRow_nil _ _ _ _, (by repeat (first | exact Below.refl _ _ | assumption | refine Below.drewN ?_ _ | refine Below.alloc ?_ (by simp) _))⟩
set_option maxHeartbeats 400000 in
theorem reversedNil (w : World) : Calls Tryz.prog 372 #[.pointer none] w fun e w' => e = .returned (.pointer none) ∧ w' = w := by
  go_enter Tryz.func372, Tryz.ntmps372
  go_wp2
  go_loop [0, 3] (fun p v => p = .pointer none ∧ v = .pointer none) (fun _ _ => 0)
  case atStart => exact ⟨rfl, rfl⟩
  case round =>
    obtain ⟨rfl, rfl⟩ := hrel
    go_wp2
    go_ret
    exact ⟨rfl, rfl⟩
set_option maxHeartbeats 400000 in
theorem growNil (w : World) : Calls Tryz.prog 374 #[.slice none 0 0, .int .i64 0] w fun e w' => e = .returned (.slice none 0 0) ∧ w' = w := by
  go_enter Tryz.func374, Tryz.ntmps374
  go_wp2
  go_ret
  exact ⟨rfl, rfl⟩

theorem counterTell_m (w : World) : (method 553 140 (.agg #[]) "Tell").run Tryz.prog w = .ok (362, .agg #[]) w := by kernel_rfl
theorem stackTell_m (w : World) : (method 553 143 (.agg #[]) "Tell").run Tryz.prog w = .ok (366, .agg #[]) w := by kernel_rfl
theorem queueTell_m (w : World) : (method 553 147 (.agg #[]) "Tell").run Tryz.prog w = .ok (371, .agg #[]) w := by kernel_rfl
theorem mapTell_m (w : World) : (method 553 150 (.agg #[]) "Tell").run Tryz.prog w = .ok (376, .agg #[]) w := by kernel_rfl
theorem tableTell_m (a b c d : Value) (w : World) : (method 553 152 (.agg #[a, b, c, d]) "Tell").run Tryz.prog w = .ok (388, .agg #[a, b, c, d]) w := by kernel_rfl
theorem counterTell_c (s : Value) (w : World) : (callFunc 362 #[.agg #[], s]).run Tryz.prog w = .ok (.enter 362 #[.agg #[], s]) w := by kernel_rfl
theorem stackTell_c (s : Value) (w : World) : (callFunc 366 #[.agg #[], s]).run Tryz.prog w = .ok (.enter 366 #[.agg #[], s]) w := by kernel_rfl
theorem queueTell_c (s : Value) (w : World) : (callFunc 371 #[.agg #[], s]).run Tryz.prog w = .ok (.enter 371 #[.agg #[], s]) w := by kernel_rfl
theorem mapTell_c (s : Value) (w : World) : (callFunc 376 #[.agg #[], s]).run Tryz.prog w = .ok (.enter 376 #[.agg #[], s]) w := by kernel_rfl
theorem tableTell_c (a b c d s : Value) (w : World) : (callFunc 388 #[.agg #[a, b, c, d], s]).run Tryz.prog w = .ok (.enter 388 #[.agg #[a, b, c, d], s]) w := by kernel_rfl

end Go.Proofs.YtefjhnhdagolhaaGreat

namespace Go.Proofs.YtefjhnhdagolhaaGreat
open Go.RowKit
attribute [local go_sem ↓] Go.wp_at_zero Go.wp_at_succ

set_option maxRecDepth 20000 in
set_option maxHeartbeats 1000000 in
theorem concatNil (g : Nat) (a1 a2 : Addr) (c1 c2 : Nat) (w : World) (h0 : w.cell? ⟨g, 0, none⟩ = some (.slice (some a1) 0 c1)) (h1 : w.cell? ⟨g, 1, none⟩ = some (.slice (some a2) 0 c2)) :
    Calls Tryz.prog 373 #[.slice (some ⟨g, 0, none⟩) 2 2] w fun e w' => e = .returned (.slice none 0 0) ∧ w' = w := by
  have hc : ∀ k : Nat, k < 2 → ∃ a c, w.cell? ⟨g, k, none⟩ = some (.slice (some a) 0 c) := fun k hk => by
    have : k = 0 ∨ k = 1 := by omega
    rcases this with rfl | rfl
    · exact ⟨_, _, h0⟩
    · exact ⟨_, _, h1⟩
  have HC := hide hc
  clear hc h0 h1
  have hpu : ∀ W : World, Sem.run Tryz.prog (pure #[] : Sem (Array Value)) W = .ok #[] W := fun _ => rfl
  go_enter Tryz.func373, Tryz.ntmps373
  go_wp2
  go_loop [3, 11] (fun s i => ∃ k : Nat, k ≤ 2 ∧ s = .int .i64 0 ∧ i = .int .i64 (k : Int)) (fun _ i => 2 - (intOf i).toNat)
  case atStart => exact ⟨0, by omega, rfl, rfl⟩
  case round =>
    obtain ⟨k, hk, rfl, rfl⟩ := hrel
    by_cases hlt : k < 2
    · obtain ⟨a, c, hcell⟩ := HC.out k hlt
      have hlt' : (k : Int) < 2 := by omega
      have hk0 : (0 : Int) ≤ (k : Int) := by omega
      go_wp2
      go_round
      case rel => exact ⟨k + 1, by omega, rfl, by go_num⟩
      case measure => simp [intOf]; omega
    · have hlt' : ¬ (k : Int) < 2 := by omega
      go_wp2_with fail
      refine (growNil _).mono ?_
      rintro e w1 ⟨rfl, rfl⟩
      go_wp2_with fail
      go_loop [6, 27] (fun s i => ∃ k : Nat, k ≤ 2 ∧ s = .slice none 0 0 ∧ i = .int .i64 (k : Int)) (fun _ i => 2 - (intOf i).toNat)
      case atStart => exact ⟨0, by omega, rfl, rfl⟩
      case round =>
        obtain ⟨k, hk, rfl, rfl⟩ := hrel
        by_cases hlt : k < 2
        · obtain ⟨a, c, hcell⟩ := HC.out k hlt
          have hlt' : (k : Int) < 2 := by omega
          have hk0 : (0 : Int) ≤ (k : Int) := by omega
          go_wp2
          go_round
          case rel => exact ⟨k + 1, by omega, rfl, by go_num⟩
          case measure => simp [intOf]; omega
        · have hlt' : ¬ (k : Int) < 2 := by omega
          go_wp2
          go_ret
          exact ⟨rfl, rfl⟩

set_option maxRecDepth 20000 in
set_option maxHeartbeats 1000000 in
theorem queueTell (w : World) : Calls Tryz.prog 371 #[.agg #[], .agg #[.pointer none, .pointer none]] w fun e w' => ∃ v, e = .returned v ∧ w'.ownsRow w.heap.size 3 1 v 0 (ints []) ∧ Below w.heap.size w w' := by
  go_enter Tryz.func371, Tryz.ntmps371
  go_wp2
  generalize hW0 : World.alloc (World.alloc w _) _ = W0
  have hb0 : Below w.heap.size w W0 := by rw [← hW0]; exact ((Below.refl _ _).alloc (Nat.le_refl _) _).alloc (by simp) _
  have hN : Row W0 (w.heap.size + 1) 146 [.pointer none, .pointer none] := by rw [← hW0]; exact Row.new' (by simp)
  have q0 : W0.cell? ⟨w.heap.size + 1, 0, none⟩ = some (.pointer none) := hN.cell_of rfl
  have q1 : W0.cell? ⟨w.heap.size + 1, 1, none⟩ = some (.pointer none) := hN.cell_of rfl
  have HB0 := hide hb0
  clear hW0 hN hb0
  refine wp_region_held_drew (S := (fun w' => w'.cell? ⟨w.heap.size + 1, 0, none⟩ = some (.pointer none) ∧ w'.cell? ⟨w.heap.size + 1, 1, none⟩ = some (.pointer none) ∧ Below w.heap.size w w')) (by kernel_rfl) ?_ (fun hHeld => ?_)
  · exact ⟨q0, q1, HB0.out.drew⟩
  refine wpAnyH_take (i := 0) (oi := { dst := some 5, op := Go.Op.fieldAddr 146 (Go.Operand.tmp 3) 0, type := 0, pos := "queue.go:46", after := #[], guard := none }) (v := ?v499) rfl (by kernel_rfl) (by kernel_rfl) (by kernel_rfl) (fun _ _ _ h => h) (Or.inl ⟨by rfl, ?hy499⟩) (by assumption) ?rest499
  case hy499 => (intro w hSw; (try dsimp only at hSw); go_simp; (try with_reducible rfl))
  (try go_frame)
  refine wpAnyH_take (i := 1) (oi := { dst := some 6, op := Go.Op.load 142 (Go.Operand.tmp 5), type := 142, pos := "queue.go:46", after := #[{ on := 0, ground := Go.Ground.data }], guard := none }) (v := ?v500) rfl (by kernel_rfl) (by kernel_rfl) (by kernel_rfl) (fun _ _ _ h => h) (Or.inl ⟨by rfl, ?hy500⟩) (by assumption) ?rest500
  case hy500 => (intro w hSw; (try dsimp only at hSw); go_simp; (try with_reducible rfl))
  (try go_frame)
  refine wpAnyH_take (i := 3) (oi := { dst := some 8, op := Go.Op.fieldAddr 146 (Go.Operand.tmp 3) 1, type := 0, pos := "queue.go:46", after := #[], guard := none }) (v := ?v501) rfl (by kernel_rfl) (by kernel_rfl) (by kernel_rfl) (fun _ _ _ h => h) (Or.inl ⟨by rfl, ?hy501⟩) (by assumption) ?rest501
  case hy501 => (intro w hSw; (try dsimp only at hSw); go_simp; (try with_reducible rfl))
  (try go_frame)
  refine wpAnyH_take (i := 4) (oi := { dst := some 9, op := Go.Op.load 142 (Go.Operand.tmp 8), type := 142, pos := "queue.go:46", after := #[{ on := 3, ground := Go.Ground.data }], guard := none }) (v := ?v502) rfl (by kernel_rfl) (by kernel_rfl) (by kernel_rfl) (fun _ _ _ h => h) (Or.inl ⟨by rfl, ?hy502⟩) (by assumption) ?rest502
  case hy502 => (intro w hSw; (try dsimp only at hSw); go_simp; (try with_reducible rfl))
  (try go_frame)
  refine wpAnyH_ready (rs := [2]) (by kernel_rfl) (by simp) ?_
  refine AllReadyH.cons (o := { dst := some 7, op := Go.Op.call { callee := Go.Callee.value (Go.Operand.func 369), args := #[Go.Operand.tmp 6], argTypes := #[142] }, type := 22, pos := "queue.go:46", after := #[{ on := 1, ground := Go.Ground.data }], guard := none }) (by rfl) (fun K hK => ?_) AllReadyH.nil
  go_simp
  refine (valuesNil _).mono ?_
  rintro e w2 ⟨rfl, hw2⟩
  have hb2 := hw2 ▸ below_alloc _ _
  clear hw2
  go_wp2_with fail
  refine hK.out _ _ ?_ (fun hHeld => ?_)
  · exact ⟨cell_later hb2 hHeld.1, cell_later hb2 hHeld.2.1, Below.next hHeld.2.2 hb2 hHeld.2.2.size⟩
  clear hK K
  (try go_frame)
  refine wpAnyH_ready (rs := [5]) (by kernel_rfl) (by simp) ?_
  refine AllReadyH.cons (o := { dst := some 10, op := Go.Op.call { callee := Go.Callee.value (Go.Operand.func 372), args := #[Go.Operand.tmp 9], argTypes := #[142] }, type := 142, pos := "queue.go:46", after := #[{ on := 4, ground := Go.Ground.data }, { on := 2, ground := Go.Ground.chain }], guard := none }) (by rfl) (fun K hK => ?_) AllReadyH.nil
  go_simp
  refine (reversedNil _).mono ?_
  rintro e w3 ⟨rfl, rfl⟩
  go_wp2_with fail
  refine hK.out _ _ ?_ (fun hHeld => ?_)
  · exact hHeld
  clear hK K
  (try go_frame)
  refine wpAnyH_ready (rs := [6]) (by kernel_rfl) (by simp) ?_
  refine AllReadyH.cons (o := { dst := some 11, op := Go.Op.call { callee := Go.Callee.value (Go.Operand.func 369), args := #[Go.Operand.tmp 10], argTypes := #[142] }, type := 22, pos := "queue.go:46", after := #[{ on := 5, ground := Go.Ground.data }, { on := 5, ground := Go.Ground.chain }], guard := none }) (by rfl) (fun K hK => ?_) AllReadyH.nil
  go_simp
  refine (valuesNil _).mono ?_
  rintro e w6 ⟨rfl, hw6⟩
  have hb6 := hw6 ▸ below_alloc _ _
  clear hw6
  go_wp2_with fail
  refine hK.out _ _ ?_ (fun hHeld => ?_)
  · exact ⟨cell_later hb6 hHeld.1, cell_later hb6 hHeld.2.1, Below.next hHeld.2.2 hb6 hHeld.2.2.size⟩
  clear hK K
  (try go_frame)
  refine wpAnyH_ready (rs := [7]) (by kernel_rfl) (by simp) ?_
  refine AllReadyH.cons (o := { dst := some 12, op := Go.Op.buildSlice 58 2 #[(0, Go.Operand.tmp 7), (1, Go.Operand.tmp 11)], type := 58, pos := "queue.go:46", after := #[{ on := 2, ground := Go.Ground.data }, { on := 6, ground := Go.Ground.data }], guard := none }) (by rfl) (fun K hK => ?_) AllReadyH.nil
  go_simp
  refine hK.out _ _ ?_ (fun hHeld => ?_)
  · exact ⟨cell_later (below_alloc _ _) hHeld.1, cell_later (below_alloc _ _) hHeld.2.1, Below.next hHeld.2.2 (below_alloc _ _) hHeld.2.2.size⟩
  clear hK K
  (try go_frame)
  refine wpAnyH_ready (rs := [8]) (by kernel_rfl) (by simp) ?_
  refine AllReadyH.cons (o := { dst := some 13, op := Go.Op.call { callee := Go.Callee.value (Go.Operand.func 373), args := #[Go.Operand.tmp 12], argTypes := #[58] }, type := 22, pos := "queue.go:46", after := #[{ on := 7, ground := Go.Ground.data }, { on := 6, ground := Go.Ground.chain }], guard := none }) (by rfl) (fun K hK => ?_) AllReadyH.nil
  go_simp
  refine (concatNil w6.heap.size ⟨W0.heap.size, 0, none⟩ ⟨w3.heap.size, 0, none⟩ 0 0 _ ?_ ?_).mono ?_
  · exact (Row.new w6 [_, _] 22).cell_of rfl
  · exact (Row.new w6 [_, _] 22).cell_of rfl
  rintro e w9 ⟨rfl, rfl⟩
  go_wp2_with fail
  refine hK.out _ _ ?_ (fun hHeld => ?_)
  · exact hHeld
  clear hK K
  (try go_frame)
  refine wpAnyH_take (i := 9) (oi := { dst := some 4, op := Go.Op.assign (Go.Operand.tmp 13), type := 22, pos := "queue.go:46", after := #[{ on := 8, ground := Go.Ground.data }, { on := 8, ground := Go.Ground.chain }, { on := 0, ground := Go.Ground.phase }, { on := 1, ground := Go.Ground.phase }, { on := 2, ground := Go.Ground.phase }, { on := 3, ground := Go.Ground.phase }, { on := 4, ground := Go.Ground.phase }, { on := 5, ground := Go.Ground.phase }, { on := 6, ground := Go.Ground.phase }, { on := 7, ground := Go.Ground.phase }, { on := 8, ground := Go.Ground.phase }], guard := none }) (v := ?v503) rfl (by kernel_rfl) (by kernel_rfl) (by kernel_rfl) (fun _ _ _ h => h) (Or.inl ⟨by rfl, ?hy503⟩) (by assumption) ?rest503
  case hy503 => (intro w hSw; (try dsimp only at hSw); go_simp; (try with_reducible rfl))
  (try go_frame)
  refine wpAnyH_done (by kernel_rfl) ?_ _
  (try go_wp2_with fail)
  go_ret
  exact ⟨_, rfl, World.ownsRow_nil _ _ _ _, hHeld.2.2⟩

end Go.Proofs.YtefjhnhdagolhaaGreat

namespace Go.Proofs.YtefjhnhdagolhaaGreat
open Go.RowKit

/-- What can be asked of a new engine, whatever its state's type: which function each method is, and what it answers. -/
structure Eng (base : Nat) (tE : TypeId) (bN fA fO fS fB n : Nat) (cap : Int) (xs : List Int) (w : World) : Prop where
  mA : ∀ W, (method 553 tE (.pointer (some ⟨bN, 0, none⟩)) "Answer").run Tryz.prog W = .ok (fA, .pointer (some ⟨bN, 0, none⟩)) W
  mO : ∀ W, (method 553 tE (.pointer (some ⟨bN, 0, none⟩)) "Order").run Tryz.prog W = .ok (fO, .pointer (some ⟨bN, 0, none⟩)) W
  mS : ∀ W, (method 553 tE (.pointer (some ⟨bN, 0, none⟩)) "State").run Tryz.prog W = .ok (fS, .pointer (some ⟨bN, 0, none⟩)) W
  mB : ∀ W, (method 553 tE (.pointer (some ⟨bN, 0, none⟩)) "Bound").run Tryz.prog W = .ok (fB, .pointer (some ⟨bN, 0, none⟩)) W
  cA : ∀ (t : Value) (W : World), (callFunc fA #[.pointer (some ⟨bN, 0, none⟩), t]).run Tryz.prog W = .ok (.enter fA #[.pointer (some ⟨bN, 0, none⟩), t]) W
  cO : ∀ W, (callFunc fO #[.pointer (some ⟨bN, 0, none⟩)]).run Tryz.prog W = .ok (.enter fO #[.pointer (some ⟨bN, 0, none⟩)]) W
  cS : ∀ W, (callFunc fS #[.pointer (some ⟨bN, 0, none⟩)]).run Tryz.prog W = .ok (.enter fS #[.pointer (some ⟨bN, 0, none⟩)]) W
  cB : ∀ W, (callFunc fB #[.pointer (some ⟨bN, 0, none⟩)]).run Tryz.prog W = .ok (.enter fB #[.pointer (some ⟨bN, 0, none⟩)]) W
  aOut : ∀ (t : Int) (W : World), Keeps base w W → (t < 0 ∨ (n : Int) ≤ t) → Calls Tryz.prog fA #[.pointer (some ⟨bN, 0, none⟩), .int .i64 t] W fun e w' => e = .returned (.tuple #[.agg #[.int .i64 0, .int .i64 0], .int .i64 3]) ∧ Below W.heap.size W w'
  aNew : ∀ (t : Nat) (W : World), Keeps base w W → t < n → Calls Tryz.prog fA #[.pointer (some ⟨bN, 0, none⟩), .int .i64 (t : Int)] W fun e w' => e = .returned (.tuple #[.agg #[.int .i64 0, .int .i64 0], .int .i64 5]) ∧ Below W.heap.size W w'
  ord : ∀ W, Keeps base w W → Calls Tryz.prog fO #[.pointer (some ⟨bN, 0, none⟩)] W fun e w' => e = .returned (.slice none 0 0) ∧ Below W.heap.size W w'
  sta : ∀ W, Keeps base w W → Calls Tryz.prog fS #[.pointer (some ⟨bN, 0, none⟩)] W fun e w' => ∃ v, e = .returned v ∧ w'.ownsRow W.heap.size 3 1 v xs.length (ints xs) ∧ Below W.heap.size W w'
  bnd : ∀ W, Keeps base w W → Calls Tryz.prog fB #[.pointer (some ⟨bN, 0, none⟩)] W fun e w' => e = .returned (.int .i64 (4 + 2 * (cap + 3 + 2 * (((n : Int) + 15) / 16 + 2 * (n : Int) + 1) + ((n : Int) + 15) / 16 + 3 * (n : Int)) + 3)) ∧ Below W.heap.size W w'

end Go.Proofs.YtefjhnhdagolhaaGreat
