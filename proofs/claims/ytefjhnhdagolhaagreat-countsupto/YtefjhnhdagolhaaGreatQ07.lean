import Derived.Test.YtefjhnhdagolhaaGreatQ02
import Derived.Test.YtefjhnhdagolhaaGreatQ03
import Derived.Test.YtefjhnhdagolhaaGreatProg
namespace Go.Proofs.YtefjhnhdagolhaaGreat.list
open Go.RowKit
attribute [local go_sem ↓] Go.wp_at_zero Go.wp_at_succ
def thNew (bS : Nat) (i most : Int) (gD nD gG nG : Nat) : List Value :=
  [.pointer (some ⟨bS, 0, none⟩), .int .i64 i, .int .i64 most, .int .i64 0, .int .i64 0, .int .i64 0, .int .i64 0, .int .i64 0, .bool false, .int .i64 0, .bool false, .int .i64 (2 * i + 1), .int .i64 (2 * i + 2), .int .i64 0,
    .slice (some ⟨gD, 0, none⟩) nD nD] ++ [.pointer none] ++ [.pointer none] ++ [.pointer none] ++ [.pointer none, .slice (some ⟨gG, 0, none⟩) nG nG, .slice none 0 0, .int .i64 0, .int .i64 0, .int .i64 0, .int .i64 0, .int .i64 0, .int .i64 0, .bool false]
end Go.Proofs.YtefjhnhdagolhaaGreat.list
namespace Go.Proofs.YtefjhnhdagolhaaGreat.list
open Go.RowKit
attribute [local go_sem ↓] Go.wp_at_zero Go.wp_at_succ
def tw (n : Nat) : Nat := (n + 15) / 16
def rwn (n : Nat) : Nat := (n + 15) / 16 + 2 * n
def edNew (bB : Nat) : List Value := [.pointer none] ++ [.pointer (some ⟨bB, 0, none⟩)] ++ [.pointer none] ++ [.pointer (some ⟨bB, 0, none⟩)]
def ShNew (base bS bTg bAn bP n : Nat) (oT : TypeId) (ov : Value) (bW : Nat → Nat) (bB bE : Nat) (w' : World) : Prop :=
  Row w' bS 310 [.int .i64 (n : Int), .iface oT ov, .slice (some ⟨bTg, 0, none⟩) (tw n) (tw n), .slice (some ⟨bAn, 0, none⟩) n n, .slice (some ⟨bP, 0, none⟩) (2 * n + 1) (2 * n + 1), .int .i64 0] ∧
  Row w' bTg 387 (zeros (.int .i64 0) (tw n)) ∧ Row w' bAn 388 (zeros (.int .i64 0) (n * 3)) ∧ Row w' bP 318 ((poolAt (2 * n + 1) (rwn n) (2 * n + 1) bW).set 1 (.pointer (some ⟨bE, 0, none⟩))) ∧
  (∀ r, r < 2 * n + 1 → Row w' (bW r) 387 (zeros (.int .i64 0) (rwn n)) ∧ bS < bW r ∧ bW r < bB) ∧ (∀ r s, r < s → s < 2 * n + 1 → bW r < bW s) ∧
  Row w' bB 306 [.int .i64 0, .slice none 0 0, .pointer none] ∧ Row w' bE 241 (edNew bB) ∧
  base ≤ bTg ∧ base ≤ bAn ∧ base ≤ bP ∧ bTg ≠ bAn ∧ bTg ≠ bP ∧ bAn ≠ bP ∧ bTg < bS ∧ bAn < bS ∧ bP < bS ∧ bB < bE
end Go.Proofs.YtefjhnhdagolhaaGreat.list
namespace Go.Proofs.YtefjhnhdagolhaaGreat.list
open Go.RowKit
attribute [local go_sem ↓] Go.wp_at_zero Go.wp_at_succ
def thAll (bS n : Nat) (most : Int) (gD gG : Nat → Nat) (k : Nat) : List Value :=
  (List.range k).flatMap fun (t : Nat) => thNew bS (t : Int) most (gD t) (rwn n) (gG t) (tw n)
def EnI (W1 : World) (bS n : Nat) (most : Int) (v : Value) (k : Nat) (gD gG : Nat → Nat) (w' : World) : Prop :=
  Row w' W1.heap.size 237 [.pointer (some ⟨bS, 0, none⟩), v, .int .i64 most] ∧ w'.ownsRow (W1.heap.size + 1) 245 28 v k (thAll bS n most gD gG k) ∧
  (∀ t, t < k → Row w' (gD t) 3 (zeros (.int .i64 0) (rwn n)) ∧ Row w' (gG t) 3 (zeros (.int .i64 0) (tw n)) ∧ W1.heap.size < gD t ∧ W1.heap.size < gG t ∧ some (gD t) ≠ v.ownBlock ∧ some (gG t) ≠ v.ownBlock ∧ gD t ≠ gG t) ∧
  (∀ s t, s < t → t < k → gD s ≠ gD t ∧ gD s ≠ gG t ∧ gG s ≠ gD t ∧ gG s ≠ gG t) ∧ Below W1.heap.size W1 w'
def EngNew (w : World) (n : Nat) (most : Int) (oT : TypeId) (ov : Value) (b : Nat) (w' : World) : Prop :=
  ∃ W1 bS bTg bAn bP bW bB bE v gD gG, b = W1.heap.size ∧ ShNew w.heap.size bS bTg bAn bP n oT ov bW bB bE W1 ∧ Below w.heap.size w W1 ∧ EnI W1 bS n most v n gD gG w'
end Go.Proofs.YtefjhnhdagolhaaGreat.list
namespace Go.Proofs.YtefjhnhdagolhaaGreat.list
open Go.RowKit
def ObjNew (w : World) (n : Nat) (most : Int) (oT : TypeId) (ov : Value) (b : Nat) (w' : World) : Prop :=
  ∃ bN, Row w' b 74 [.iface 187 (.pointer (some ⟨bN, 0, none⟩))] ∧ EngNew w n most oT ov bN w' ∧ w.heap.size ≤ b
end Go.Proofs.YtefjhnhdagolhaaGreat.list
