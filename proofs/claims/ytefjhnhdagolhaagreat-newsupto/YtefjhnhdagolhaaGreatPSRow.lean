import Derived.Test.YtefjhnhdagolhaaGreatPA
import Derived.Test.YtefjhnhdagolhaaGreatPTRow
namespace Go.Proofs.YtefjhnhdagolhaaGreat.row
open Go.RowKit
attribute [local go_sem ↓] Go.wp_at_zero Go.wp_at_succ

theorem info_word : (Tryz.prog.info? 387).map (fun i => (i.zero, i.size, i.bytes)) = some (some (.agg #[.int .i64 0]), 1, 8) := by kernel_rfl
theorem info_words3 : (Tryz.prog.info? 388).map (fun i => (i.zero, i.size, i.bytes)) = some (some (.agg #[.int .i64 0, .int .i64 0, .int .i64 0]), 3, 24) := by kernel_rfl
theorem info_record : (Tryz.prog.info? 331).map (fun i => (i.zero, i.size, i.bytes)) = some (some (.agg #[.slice none 0 0, .pointer none]), 2, 32) := by kernel_rfl

/-- W and W + 2 n. -/
def tw (n : Nat) : Nat := (n + 15) / 16
def rwn (n : Nat) : Nat := (n + 15) / 16 + 2 * n

/-- While the records get their words: the first k have them. -/
def ShI (W0 : World) (bS bTg bAn bP n : Nat) (oT : TypeId) (ov : Value) (k : Nat) (bW : Nat → Nat) (w' : World) : Prop :=
  Row w' bS 323 [.int .i64 (n : Int), .iface oT ov, .slice (some ⟨bTg, 0, none⟩) (tw n) (tw n), .slice (some ⟨bAn, 0, none⟩) n n, .slice (some ⟨bP, 0, none⟩) (2 * n + 1) (2 * n + 1), .int .i64 0] ∧
  Row w' bTg 387 (zeros (.int .i64 0) (tw n)) ∧ Row w' bAn 388 (zeros (.int .i64 0) (n * 3)) ∧ Row w' bP 331 (poolAt (2 * n + 1) (rwn n) k bW) ∧
  (∀ r, r < k → Row w' (bW r) 387 (zeros (.int .i64 0) (rwn n)) ∧ bS < bW r) ∧ (∀ r s, r < s → s < k → bW r < bW s) ∧ Below W0.heap.size W0 w'

theorem ShI.next {W0 : World} {bS bTg bAn bP n : Nat} {oT : TypeId} {ov : Value} {k : Nat} {bW : Nat → Nat} {w' w3 : World} (h : ShI W0 bS bTg bAn bP n oT ov k bW w') (hb : Below w'.heap.size w' w3)
    (z3 : W0.heap.size ≤ bP) (z5 : bTg ≠ bP) (z6 : bAn ≠ bP) (z9 : bP < bS) :
    ShI W0 bS bTg bAn bP n oT ov (k + 1) (fun r => if r = k then w3.heap.size else bW r) ((w3.alloc (.cells (zeros (.int .i64 0) (rwn n)).toArray 387)).setCell ⟨bP, 2 * k, none⟩ (.slice (some ⟨w3.heap.size, 0, none⟩) (rwn n) (rwn n))) := by
  obtain ⟨hS, hTg, hAn, hP, hW, hI, hB⟩ := h
  have hz := hb.size
  have hlP := hP.lt
  have hlS := hS.lt
  refine ⟨((hS.old hb).alloc _).setOther (by simp; omega) _, ((hTg.old hb).alloc _).setOther z5 _, ((hAn.old hb).alloc _).setOther z6 _, ?_, ?_, ?_, ?_⟩
  · rw [← poolAt_set]; exact ((hP.old hb).alloc _).set _ _
  · intro r hr
    by_cases e : r = k
    · subst e
      simp only [if_true]
      exact ⟨(Row.new' rfl).setOther (by simp; omega) _, by omega⟩
    · simp only [if_neg e]
      obtain ⟨h1, h2⟩ := hW r (by omega)
      exact ⟨((h1.old hb).alloc _).setOther (by simp; omega) _, h2⟩
  · intro r s h1 h2
    by_cases e : s = k
    · subst e
      have hr := (hW r h1).1.lt
      simp only [if_true, if_neg (show ¬ r = s by omega)]
      omega
    · simp only [if_neg e, if_neg (show ¬ r = k by omega)]
      exact hI r s h1 (by omega)
  · exact (Below.alloc (Below.next hB hb hB.size) (Nat.le_trans hB.size hz) _).setCell z3 _

/-- The cells of the first edition. -/
def edNew (bB : Nat) : List Value := [.pointer none, .pointer none] ++ [.pointer (some ⟨bB, 0, none⟩)] ++ [.pointer none, .pointer none] ++ [.pointer (some ⟨bB, 0, none⟩)]
/-- What the threads share, of a new object. -/
def ShNew (base bS bTg bAn bP n : Nat) (oT : TypeId) (ov : Value) (bW : Nat → Nat) (bB bE : Nat) (w' : World) : Prop :=
  Row w' bS 323 [.int .i64 (n : Int), .iface oT ov, .slice (some ⟨bTg, 0, none⟩) (tw n) (tw n), .slice (some ⟨bAn, 0, none⟩) n n, .slice (some ⟨bP, 0, none⟩) (2 * n + 1) (2 * n + 1), .int .i64 0] ∧
  Row w' bTg 387 (zeros (.int .i64 0) (tw n)) ∧ Row w' bAn 388 (zeros (.int .i64 0) (n * 3)) ∧ Row w' bP 331 ((poolAt (2 * n + 1) (rwn n) (2 * n + 1) bW).set 1 (.pointer (some ⟨bE, 0, none⟩))) ∧
  (∀ r, r < 2 * n + 1 → Row w' (bW r) 387 (zeros (.int .i64 0) (rwn n)) ∧ bS < bW r ∧ bW r < bB) ∧ (∀ r s, r < s → s < 2 * n + 1 → bW r < bW s) ∧
  Row w' bB 306 [.int .i64 0, .slice none 0 0, .pointer none] ∧ Row w' bE 255 (edNew bB) ∧
  base ≤ bTg ∧ base ≤ bAn ∧ base ≤ bP ∧ bTg ≠ bAn ∧ bTg ≠ bP ∧ bAn ≠ bP ∧ bTg < bS ∧ bAn < bS ∧ bP < bS ∧ bB < bE

theorem ShNew.base {base base' bS bTg bAn bP n : Nat} {oT : TypeId} {ov : Value} {bW : Nat → Nat} {bB bE : Nat} {w' : World} (h : ShNew base bS bTg bAn bP n oT ov bW bB bE w') (hb : base' ≤ base) : ShNew base' bS bTg bAn bP n oT ov bW bB bE w' := by
  obtain ⟨a1, a2, a3, a4, a5, a6, a7, a8, z1, z2, z3, z⟩ := h
  exact ⟨a1, a2, a3, a4, a5, a6, a7, a8, by omega, by omega, by omega, z⟩

theorem ShI.done {W0 : World} {bS bTg bAn bP n : Nat} {oT : TypeId} {ov : Value} {bW : Nat → Nat} {wr w4 W5 w6 : World} {vs : List Value} (h : ShI W0 bS bTg bAn bP n oT ov (2 * n + 1) bW wr) (hb4 : Below wr.heap.size wr w4)
    (h5 : W5 = (w4.alloc (.cells [Value.int .i64 0, .slice none 0 0, .pointer none].toArray 306)).alloc (.cells vs.toArray 253))
    (h6 : w6 = (W5.alloc (.cells (edNew w4.heap.size).toArray 255)).drew.setCell ⟨bP, 1, none⟩ (.pointer (some ⟨W5.heap.size, 0, none⟩)))
    (z1 : W0.heap.size ≤ bTg) (z2 : W0.heap.size ≤ bAn) (z3 : W0.heap.size ≤ bP) (z4 : bTg ≠ bAn) (z5 : bTg ≠ bP) (z6 : bAn ≠ bP) (z7 : bTg < bS) (z8 : bAn < bS) (z9 : bP < bS) :
    ShNew W0.heap.size bS bTg bAn bP n oT ov bW w4.heap.size W5.heap.size w6 ∧ Below W0.heap.size W0 w6 := by
  obtain ⟨hS, hTg, hAn, hP, hW, hI, hB⟩ := h
  have hz := hb4.size
  have hlP := hP.lt
  have hlS := hS.lt
  have hs5 : W5.heap.size = w4.heap.size + 2 := by rw [h5]; simp
  have hb5 : Below w4.heap.size w4 W5 := by rw [h5]; exact ((Below.refl _ _).alloc (Nat.le_refl _) _).alloc (by simp) _
  have hbB : Row W5 w4.heap.size 306 [.int .i64 0, .slice none 0 0, .pointer none] := by rw [h5]; exact (Row.new' rfl).alloc _
  have old : ∀ {g : Nat} {t : TypeId} {xs : List Value}, Row wr g t xs → g ≠ bP → Row w6 g t xs := fun {g t xs} hr hne => by
    rw [h6]; exact Row.setOther (a := ⟨bP, 1, none⟩) (Row.alloc ((hr.old hb4).old hb5) _).drew hne _
  refine ⟨⟨old hS (by omega), old hTg z5, old hAn z6, ?_, ?_, hI, ?_, ?_, z1, z2, z3, z4, z5, z6, z7, z8, z9, by omega⟩, ?_⟩
  · rw [h6]; exact (Row.alloc ((hP.old hb4).old hb5) _).drew.set _ _
  · intro r hr
    obtain ⟨h1, h2⟩ := hW r hr
    have := h1.lt
    exact ⟨old h1 (by omega), h2, by omega⟩
  · rw [h6]; exact Row.setOther (a := ⟨bP, 1, none⟩) (Row.alloc hbB _).drew (by simp; omega) _
  · rw [h6]; exact Row.setOther (a := ⟨bP, 1, none⟩) (Row.new' (w := W5) rfl).drew (by simp; omega) _
  · rw [h6]
    have hq : Below W0.heap.size W0 W5 := Below.next (Below.next hB hb4 hB.size) hb5 (Nat.le_trans hB.size hz)
    exact (Below.alloc hq hq.size _).drew.setCell z3 _

set_option maxRecDepth 20000 in
set_option maxHeartbeats 4000000 in
theorem newShared_any (oT : TypeId) (ov : Value) (fF : Nat) (rv : Value) (hm : ∀ w, (method 553 oT ov "First").run Tryz.prog w = .ok (fF, rv) w) (hcf : ∀ w, (callFunc fF #[rv]).run Tryz.prog w = .ok (.enter fF #[rv]) w)
    (hF : ∀ w, Calls Tryz.prog fF #[rv] w fun e w' => e = .returned (.agg #[.pointer none, .pointer none]) ∧ Below w.heap.size w w') (n : Nat) (w : World) (_h0 : 1 ≤ n) (_h1 : n ≤ 64) :
    Calls Tryz.prog 137 #[.iface oT ov, .int .i64 (n : Int)] w fun e w' => ∃ bS bTg bAn bP bW bB bE, e = .returned (.pointer (some ⟨bS, 0, none⟩)) ∧ ShNew w.heap.size bS bTg bAn bP n oT ov bW bB bE w' ∧ Below w.heap.size w w' := by
  have hmkW := run_make_rep (P := Tryz.prog) 288 387 (.agg #[.int .i64 0]) 1 8 [.int .i64 0] Tryz.underlying288 info_word rfl (by decide) (((n : Int) + 15) / 16) (tw n) (by unfold tw; omega) (by unfold tw; omega) (by unfold tw; omega)
  have hmkR := run_make_rep (P := Tryz.prog) 288 387 (.agg #[.int .i64 0]) 1 8 [.int .i64 0] Tryz.underlying288 info_word rfl (by decide) (((n : Int) + 15) / 16 + 2 * (n : Int)) (rwn n) (by unfold rwn; omega) (by unfold rwn; omega) (by unfold rwn; omega)
  have hmkA := run_make_rep (P := Tryz.prog) 289 388 (.agg #[.int .i64 0, .int .i64 0, .int .i64 0]) 3 24 [.int .i64 0, .int .i64 0, .int .i64 0] Tryz.underlying289 info_words3 rfl (by decide) (n : Int) n (by omega) (by omega) (by omega)
  have hmkP := run_make_rep (P := Tryz.prog) 321 331 (.agg #[.slice none 0 0, .pointer none]) 2 32 [.slice none 0 0, .pointer none] Tryz.underlying321 info_record rfl (by decide) (2 * (n : Int) + 1) (2 * n + 1) (by omega) (by omega) (by omega)
  rw [rep_one] at hmkW hmkR
  rw [rep_three] at hmkA
  have hw1 : IntKind.i64.wrap (2 * (n : Int)) = 2 * (n : Int) := wrapi _ (by omega) (by omega)
  have hw2 : IntKind.i64.wrap (2 * (n : Int) + 1) = 2 * (n : Int) + 1 := wrapi _ (by omega) (by omega)
  have HF := hide hF
  clear hF
  go_enter Tryz.func137, Tryz.ntmps137
  go_wp2
  generalize hW0 : World.alloc w _ = W0
  have hb0 : Below w.heap.size w W0 := by rw [← hW0]; exact below_alloc w _
  have hs0 : w.heap.size < W0.heap.size := by rw [← hW0]; simp
  have hc0 : W0.cell? ⟨w.heap.size, 0, none⟩ = some (.int .i64 (n : Int)) := by rw [← hW0]; exact (Row.new w [_] 287).cell_of rfl
  clear hW0
  go_cut [6] (fun s w' => ∃ bS bTg bAn bP, s = .pointer (some ⟨bS, 0, none⟩) ∧
    Row w' bS 323 [.int .i64 (n : Int), .iface oT ov, .slice (some ⟨bTg, 0, none⟩) (tw n) (tw n), .slice (some ⟨bAn, 0, none⟩) n n, .slice (some ⟨bP, 0, none⟩) (2 * n + 1) (2 * n + 1), .int .i64 0] ∧
    Below W0.heap.size W0 w' ∧ W0.heap.size ≤ bTg ∧ W0.heap.size ≤ bAn ∧ W0.heap.size ≤ bP ∧ bTg ≠ bAn ∧ bTg ≠ bP ∧ bAn ≠ bP ∧ bTg < bS ∧ bAn < bS ∧ bP < bS ∧
    Row w' bTg 387 (zeros (.int .i64 0) (tw n)) ∧ Row w' bAn 388 (zeros (.int .i64 0) (n * 3)) ∧ Row w' bP 331 (rep [.slice none 0 0, .pointer none] ((2 * n + 1) * 2)))
  case first =>
    refine wp_region_held_drew (S := (fun w' => Below W0.heap.size W0 w' ∧ w'.cell? ⟨w.heap.size, 0, none⟩ = some (.int .i64 (n : Int)))) (by kernel_rfl) ?_ (fun hHeld => ?_)
    · exact ⟨Below.drew (Below.refl _ _), hc0⟩
    refine wpAnyH_take (i := 0) (oi := { dst := some 11, op := Go.Op.load 287 (Go.Operand.tmp 5), type := 287, pos := "shared.go:17", after := #[], guard := none }) (v := ?v191) rfl (by kernel_rfl) (by kernel_rfl) (by kernel_rfl) (fun _ _ _ h => h) (Or.inl ⟨by rfl, ?hy191⟩) (by assumption) ?rest191
    case hy191 => (intro w hSw; (try dsimp only at hSw); go_simp; (try with_reducible rfl))
    (try go_frame)
    refine wpAnyH_take (i := 1) (oi := { dst := some 12, op := Go.Op.move (Go.Operand.tmp 0), type := 190, pos := "shared.go:17", after := #[], guard := none }) (v := ?v192) rfl (by kernel_rfl) (by kernel_rfl) (by kernel_rfl) (fun _ _ _ h => h) (Or.inl ⟨by rfl, ?hy192⟩) (by assumption) ?rest192
    case hy192 => (intro w hSw; (try dsimp only at hSw); go_simp; (try with_reducible rfl))
    (try go_frame)
    refine wpAnyH_take (i := 2) (oi := { dst := some 13, op := Go.Op.load 287 (Go.Operand.tmp 5), type := 287, pos := "shared.go:17", after := #[], guard := none }) (v := ?v193) rfl (by kernel_rfl) (by kernel_rfl) (by kernel_rfl) (fun _ _ _ h => h) (Or.inl ⟨by rfl, ?hy193⟩) (by assumption) ?rest193
    case hy193 => (intro w hSw; (try dsimp only at hSw); go_simp; (try with_reducible rfl))
    (try go_frame)
    refine wpAnyH_take (i := 5) (oi := { dst := some 16, op := Go.Op.move (Go.Operand.tmp 1), type := 3, pos := "shared.go:17", after := #[], guard := none }) (v := ?v194) rfl (by kernel_rfl) (by kernel_rfl) (by kernel_rfl) (fun _ _ _ h => h) (Or.inl ⟨by rfl, ?hy194⟩) (by assumption) ?rest194
    case hy194 => (intro w hSw; (try dsimp only at hSw); go_simp; (try with_reducible rfl))
    (try go_frame)
    refine wpAnyH_take (i := 7) (oi := { dst := some 18, op := Go.Op.move (Go.Operand.tmp 1), type := 3, pos := "shared.go:17", after := #[], guard := none }) (v := ?v195) rfl (by kernel_rfl) (by kernel_rfl) (by kernel_rfl) (fun _ _ _ h => h) (Or.inl ⟨by rfl, ?hy195⟩) (by assumption) ?rest195
    case hy195 => (intro w hSw; (try dsimp only at hSw); go_simp; (try with_reducible rfl))
    (try go_frame)
    refine wpAnyH_take (i := 8) (oi := { dst := some 19, op := Go.Op.binOp Go.BinOp.mul 3 (Go.Operand.const (Go.Value.int Go.IntKind.i64 2)) (Go.Operand.tmp 18) 3, type := 3, pos := "shared.go:17", after := #[{ on := 7, ground := Go.Ground.data }], guard := none }) (v := ?v196) rfl (by kernel_rfl) (by kernel_rfl) (by kernel_rfl) (fun _ _ _ h => h) (Or.inl ⟨by rfl, ?hy196⟩) (by assumption) ?rest196
    case hy196 => (intro w hSw; (try dsimp only at hSw); go_simp; (try with_reducible rfl))
    (try go_frame)
    refine wpAnyH_take (i := 9) (oi := { dst := some 20, op := Go.Op.binOp Go.BinOp.add 3 (Go.Operand.tmp 19) (Go.Operand.const (Go.Value.int Go.IntKind.i64 1)) 3, type := 3, pos := "shared.go:17", after := #[{ on := 8, ground := Go.Ground.data }], guard := none }) (v := ?v197) rfl (by kernel_rfl) (by kernel_rfl) (by kernel_rfl) (fun _ _ _ h => h) (Or.inl ⟨by rfl, ?hy197⟩) (by assumption) ?rest197
    case hy197 => (intro w hSw; (try dsimp only at hSw); go_simp; (try with_reducible rfl))
    (try go_frame)
    refine wpAnyH_ready (rs := [3, 6, 10]) (by kernel_rfl) (by simp) ?_
    refine AllReadyH.cons (o := { dst := some 14, op := Go.Op.call { callee := Go.Callee.value (Go.Operand.func 156), args := #[Go.Operand.tmp 13], argTypes := #[287] }, type := 3, pos := "shared.go:20", after := #[{ on := 2, ground := Go.Ground.data }], guard := none }) (by rfl) (fun K hK => ?_) (AllReadyH.cons (o := { dst := some 17, op := Go.Op.makeSlice 289 (Go.Operand.tmp 16) (Go.Operand.tmp 16), type := 289, pos := "shared.go:17", after := #[{ on := 5, ground := Go.Ground.data }, { on := 5, ground := Go.Ground.data }], guard := none }) (by rfl) (fun K hK => ?_) (AllReadyH.cons (o := { dst := some 21, op := Go.Op.makeSlice 321 (Go.Operand.tmp 20) (Go.Operand.tmp 20), type := 321, pos := "shared.go:17", after := #[{ on := 9, ground := Go.Ground.data }, { on := 9, ground := Go.Ground.data }], guard := none }) (by rfl) (fun K hK => ?_) AllReadyH.nil))
    · go_simp
      refine (toggleWords_any (n : Int) _ (by omega) (by omega)).mono ?_
      rintro e w2 ⟨rfl, hb2⟩
      have hz2 := hb2.size
      (try simp at hz2)
      go_wp2_with fail
      refine hK.out _ _ ?_ (fun hHeld => ?_)
      · exact ⟨Below.next hHeld.1 hb2 hHeld.1.size, cell_later hb2 hHeld.2⟩
      clear hK K
      (try go_frame)
      refine wpAnyH_ready (rs := [4, 6, 10]) (by kernel_rfl) (by simp) ?_
      refine AllReadyH.cons (o := { dst := some 15, op := Go.Op.makeSlice 288 (Go.Operand.tmp 14) (Go.Operand.tmp 14), type := 288, pos := "shared.go:17", after := #[{ on := 3, ground := Go.Ground.data }, { on := 3, ground := Go.Ground.data }], guard := none }) (by rfl) (fun K hK => ?_) (AllReadyH.cons (o := { dst := some 17, op := Go.Op.makeSlice 289 (Go.Operand.tmp 16) (Go.Operand.tmp 16), type := 289, pos := "shared.go:17", after := #[{ on := 5, ground := Go.Ground.data }, { on := 5, ground := Go.Ground.data }], guard := none }) (by rfl) (fun K hK => ?_) (AllReadyH.cons (o := { dst := some 21, op := Go.Op.makeSlice 321 (Go.Operand.tmp 20) (Go.Operand.tmp 20), type := 321, pos := "shared.go:17", after := #[{ on := 9, ground := Go.Ground.data }, { on := 9, ground := Go.Ground.data }], guard := none }) (by rfl) (fun K hK => ?_) AllReadyH.nil))
      · go_simp
        refine hK.out _ _ ?_ (fun hHeld => ?_)
        · exact ⟨hHeld.1.alloc hHeld.1.size _, cell_later (below_alloc _ _) hHeld.2⟩
        clear hK K
        (try go_frame)
        refine wpAnyH_ready (rs := [6, 10]) (by kernel_rfl) (by simp) ?_
        refine AllReadyH.cons (o := { dst := some 17, op := Go.Op.makeSlice 289 (Go.Operand.tmp 16) (Go.Operand.tmp 16), type := 289, pos := "shared.go:17", after := #[{ on := 5, ground := Go.Ground.data }, { on := 5, ground := Go.Ground.data }], guard := none }) (by rfl) (fun K hK => ?_) (AllReadyH.cons (o := { dst := some 21, op := Go.Op.makeSlice 321 (Go.Operand.tmp 20) (Go.Operand.tmp 20), type := 321, pos := "shared.go:17", after := #[{ on := 9, ground := Go.Ground.data }, { on := 9, ground := Go.Ground.data }], guard := none }) (by rfl) (fun K hK => ?_) AllReadyH.nil)
        · go_simp
          refine hK.out _ _ ?_ (fun hHeld => ?_)
          · exact ⟨hHeld.1.alloc hHeld.1.size _, cell_later (below_alloc _ _) hHeld.2⟩
          clear hK K
          (try go_frame)
          refine wpAnyH_ready (rs := [10]) (by kernel_rfl) (by simp) ?_
          refine AllReadyH.cons (o := { dst := some 21, op := Go.Op.makeSlice 321 (Go.Operand.tmp 20) (Go.Operand.tmp 20), type := 321, pos := "shared.go:17", after := #[{ on := 9, ground := Go.Ground.data }, { on := 9, ground := Go.Ground.data }], guard := none }) (by rfl) (fun K hK => ?_) AllReadyH.nil
          go_simp
          refine hK.out _ _ ?_ (fun hHeld => ?_)
          · exact ⟨hHeld.1.alloc hHeld.1.size _, cell_later (below_alloc _ _) hHeld.2⟩
          clear hK K
          (try go_frame)
          refine wpAnyH_take (i := 11) (oi := { dst := some 22, op := Go.Op.build 323 #[(0, Go.Operand.tmp 11), (1, Go.Operand.tmp 12), (2, Go.Operand.tmp 15), (3, Go.Operand.tmp 17), (4, Go.Operand.tmp 21)], type := 323, pos := "shared.go:17", after := #[{ on := 0, ground := Go.Ground.data }, { on := 1, ground := Go.Ground.data }, { on := 4, ground := Go.Ground.data }, { on := 6, ground := Go.Ground.data }, { on := 10, ground := Go.Ground.data }], guard := none }) (v := ?v198) rfl (by kernel_rfl) (by kernel_rfl) (by kernel_rfl) (fun _ _ _ h => h) (Or.inl ⟨by rfl, ?hy198⟩) (by assumption) ?rest198
          case hy198 => (intro w hSw; (try dsimp only at hSw); go_simp; (try with_reducible rfl))
          (try go_frame)
          refine wpAnyH_ready (rs := [12]) (by kernel_rfl) (by simp) ?_
          refine AllReadyH.cons (o := { dst := some 23, op := Go.Op.box 323 (Go.Operand.tmp 22), type := 247, pos := "shared.go:17", after := #[{ on := 11, ground := Go.Ground.data }], guard := none }) (by rfl) (fun K hK => ?_) AllReadyH.nil
          go_simp
          refine hK.out _ _ ?_ (fun hHeld => ?_)
          · exact ⟨hHeld.1.alloc hHeld.1.size _, cell_later (below_alloc _ _) hHeld.2⟩
          clear hK K
          (try go_frame)
          refine wpAnyH_take (i := 13) (oi := { dst := some 6, op := Go.Op.assign (Go.Operand.tmp 23), type := 247, pos := "shared.go:17", after := #[{ on := 12, ground := Go.Ground.data }, { on := 3, ground := Go.Ground.chain }, { on := 0, ground := Go.Ground.phase }, { on := 1, ground := Go.Ground.phase }, { on := 2, ground := Go.Ground.phase }, { on := 3, ground := Go.Ground.phase }, { on := 4, ground := Go.Ground.phase }, { on := 5, ground := Go.Ground.phase }, { on := 6, ground := Go.Ground.phase }, { on := 7, ground := Go.Ground.phase }, { on := 8, ground := Go.Ground.phase }, { on := 9, ground := Go.Ground.phase }, { on := 10, ground := Go.Ground.phase }, { on := 11, ground := Go.Ground.phase }, { on := 12, ground := Go.Ground.phase }], guard := none }) (v := ?v199) rfl (by kernel_rfl) (by kernel_rfl) (by kernel_rfl) (fun _ _ _ h => h) (Or.inl ⟨by rfl, ?hy199⟩) (by assumption) ?rest199
          case hy199 => (intro w hSw; (try dsimp only at hSw); go_simp; (try with_reducible rfl))
          (try go_frame)
          refine wpAnyH_done (by kernel_rfl) ?_ _
          (try go_wp2_with fail)
          go_meet
          case rel =>
            refine ⟨_, _, _, _, rfl, Row.new' (by simp), hHeld.1, ?_⟩
            (refine ⟨?_, ?_, ?_, ?_, ?_, ?_, ?_, ?_, ?_, ?_, ?_, ?_⟩) <;> first | (simp; omega) | omega | (repeat (first | exact Row.new' (by simp) | refine Row.alloc ?_ _ | refine Row.old ?_ hb2))
        · go_simp
          refine hK.out _ _ ?_ (fun hHeld => ?_)
          · exact ⟨hHeld.1.alloc hHeld.1.size _, cell_later (below_alloc _ _) hHeld.2⟩
          clear hK K
          (try go_frame)
          refine wpAnyH_ready (rs := [6]) (by kernel_rfl) (by simp) ?_
          refine AllReadyH.cons (o := { dst := some 17, op := Go.Op.makeSlice 289 (Go.Operand.tmp 16) (Go.Operand.tmp 16), type := 289, pos := "shared.go:17", after := #[{ on := 5, ground := Go.Ground.data }, { on := 5, ground := Go.Ground.data }], guard := none }) (by rfl) (fun K hK => ?_) AllReadyH.nil
          go_simp
          refine hK.out _ _ ?_ (fun hHeld => ?_)
          · exact ⟨hHeld.1.alloc hHeld.1.size _, cell_later (below_alloc _ _) hHeld.2⟩
          clear hK K
          (try go_frame)
          refine wpAnyH_take (i := 11) (oi := { dst := some 22, op := Go.Op.build 323 #[(0, Go.Operand.tmp 11), (1, Go.Operand.tmp 12), (2, Go.Operand.tmp 15), (3, Go.Operand.tmp 17), (4, Go.Operand.tmp 21)], type := 323, pos := "shared.go:17", after := #[{ on := 0, ground := Go.Ground.data }, { on := 1, ground := Go.Ground.data }, { on := 4, ground := Go.Ground.data }, { on := 6, ground := Go.Ground.data }, { on := 10, ground := Go.Ground.data }], guard := none }) (v := ?v200) rfl (by kernel_rfl) (by kernel_rfl) (by kernel_rfl) (fun _ _ _ h => h) (Or.inl ⟨by rfl, ?hy200⟩) (by assumption) ?rest200
          case hy200 => (intro w hSw; (try dsimp only at hSw); go_simp; (try with_reducible rfl))
          (try go_frame)
          refine wpAnyH_ready (rs := [12]) (by kernel_rfl) (by simp) ?_
          refine AllReadyH.cons (o := { dst := some 23, op := Go.Op.box 323 (Go.Operand.tmp 22), type := 247, pos := "shared.go:17", after := #[{ on := 11, ground := Go.Ground.data }], guard := none }) (by rfl) (fun K hK => ?_) AllReadyH.nil
          go_simp
          refine hK.out _ _ ?_ (fun hHeld => ?_)
          · exact ⟨hHeld.1.alloc hHeld.1.size _, cell_later (below_alloc _ _) hHeld.2⟩
          clear hK K
          (try go_frame)
          refine wpAnyH_take (i := 13) (oi := { dst := some 6, op := Go.Op.assign (Go.Operand.tmp 23), type := 247, pos := "shared.go:17", after := #[{ on := 12, ground := Go.Ground.data }, { on := 3, ground := Go.Ground.chain }, { on := 0, ground := Go.Ground.phase }, { on := 1, ground := Go.Ground.phase }, { on := 2, ground := Go.Ground.phase }, { on := 3, ground := Go.Ground.phase }, { on := 4, ground := Go.Ground.phase }, { on := 5, ground := Go.Ground.phase }, { on := 6, ground := Go.Ground.phase }, { on := 7, ground := Go.Ground.phase }, { on := 8, ground := Go.Ground.phase }, { on := 9, ground := Go.Ground.phase }, { on := 10, ground := Go.Ground.phase }, { on := 11, ground := Go.Ground.phase }, { on := 12, ground := Go.Ground.phase }], guard := none }) (v := ?v201) rfl (by kernel_rfl) (by kernel_rfl) (by kernel_rfl) (fun _ _ _ h => h) (Or.inl ⟨by rfl, ?hy201⟩) (by assumption) ?rest201
          case hy201 => (intro w hSw; (try dsimp only at hSw); go_simp; (try with_reducible rfl))
          (try go_frame)
          refine wpAnyH_done (by kernel_rfl) ?_ _
          (try go_wp2_with fail)
          go_meet
          case rel =>
            refine ⟨_, _, _, _, rfl, Row.new' (by simp), hHeld.1, ?_⟩
            (refine ⟨?_, ?_, ?_, ?_, ?_, ?_, ?_, ?_, ?_, ?_, ?_, ?_⟩) <;> first | (simp; omega) | omega | (repeat (first | exact Row.new' (by simp) | refine Row.alloc ?_ _ | refine Row.old ?_ hb2))
      · go_simp
        refine hK.out _ _ ?_ (fun hHeld => ?_)
        · exact ⟨hHeld.1.alloc hHeld.1.size _, cell_later (below_alloc _ _) hHeld.2⟩
        clear hK K
        (try go_frame)
        refine wpAnyH_ready (rs := [4, 10]) (by kernel_rfl) (by simp) ?_
        refine AllReadyH.cons (o := { dst := some 15, op := Go.Op.makeSlice 288 (Go.Operand.tmp 14) (Go.Operand.tmp 14), type := 288, pos := "shared.go:17", after := #[{ on := 3, ground := Go.Ground.data }, { on := 3, ground := Go.Ground.data }], guard := none }) (by rfl) (fun K hK => ?_) (AllReadyH.cons (o := { dst := some 21, op := Go.Op.makeSlice 321 (Go.Operand.tmp 20) (Go.Operand.tmp 20), type := 321, pos := "shared.go:17", after := #[{ on := 9, ground := Go.Ground.data }, { on := 9, ground := Go.Ground.data }], guard := none }) (by rfl) (fun K hK => ?_) AllReadyH.nil)
        · go_simp
          refine hK.out _ _ ?_ (fun hHeld => ?_)
          · exact ⟨hHeld.1.alloc hHeld.1.size _, cell_later (below_alloc _ _) hHeld.2⟩
          clear hK K
          (try go_frame)
          refine wpAnyH_ready (rs := [10]) (by kernel_rfl) (by simp) ?_
          refine AllReadyH.cons (o := { dst := some 21, op := Go.Op.makeSlice 321 (Go.Operand.tmp 20) (Go.Operand.tmp 20), type := 321, pos := "shared.go:17", after := #[{ on := 9, ground := Go.Ground.data }, { on := 9, ground := Go.Ground.data }], guard := none }) (by rfl) (fun K hK => ?_) AllReadyH.nil
          go_simp
          refine hK.out _ _ ?_ (fun hHeld => ?_)
          · exact ⟨hHeld.1.alloc hHeld.1.size _, cell_later (below_alloc _ _) hHeld.2⟩
          clear hK K
          (try go_frame)
          refine wpAnyH_take (i := 11) (oi := { dst := some 22, op := Go.Op.build 323 #[(0, Go.Operand.tmp 11), (1, Go.Operand.tmp 12), (2, Go.Operand.tmp 15), (3, Go.Operand.tmp 17), (4, Go.Operand.tmp 21)], type := 323, pos := "shared.go:17", after := #[{ on := 0, ground := Go.Ground.data }, { on := 1, ground := Go.Ground.data }, { on := 4, ground := Go.Ground.data }, { on := 6, ground := Go.Ground.data }, { on := 10, ground := Go.Ground.data }], guard := none }) (v := ?v202) rfl (by kernel_rfl) (by kernel_rfl) (by kernel_rfl) (fun _ _ _ h => h) (Or.inl ⟨by rfl, ?hy202⟩) (by assumption) ?rest202
          case hy202 => (intro w hSw; (try dsimp only at hSw); go_simp; (try with_reducible rfl))
          (try go_frame)
          refine wpAnyH_ready (rs := [12]) (by kernel_rfl) (by simp) ?_
          refine AllReadyH.cons (o := { dst := some 23, op := Go.Op.box 323 (Go.Operand.tmp 22), type := 247, pos := "shared.go:17", after := #[{ on := 11, ground := Go.Ground.data }], guard := none }) (by rfl) (fun K hK => ?_) AllReadyH.nil
          go_simp
          refine hK.out _ _ ?_ (fun hHeld => ?_)
          · exact ⟨hHeld.1.alloc hHeld.1.size _, cell_later (below_alloc _ _) hHeld.2⟩
          clear hK K
          (try go_frame)
          refine wpAnyH_take (i := 13) (oi := { dst := some 6, op := Go.Op.assign (Go.Operand.tmp 23), type := 247, pos := "shared.go:17", after := #[{ on := 12, ground := Go.Ground.data }, { on := 3, ground := Go.Ground.chain }, { on := 0, ground := Go.Ground.phase }, { on := 1, ground := Go.Ground.phase }, { on := 2, ground := Go.Ground.phase }, { on := 3, ground := Go.Ground.phase }, { on := 4, ground := Go.Ground.phase }, { on := 5, ground := Go.Ground.phase }, { on := 6, ground := Go.Ground.phase }, { on := 7, ground := Go.Ground.phase }, { on := 8, ground := Go.Ground.phase }, { on := 9, ground := Go.Ground.phase }, { on := 10, ground := Go.Ground.phase }, { on := 11, ground := Go.Ground.phase }, { on := 12, ground := Go.Ground.phase }], guard := none }) (v := ?v203) rfl (by kernel_rfl) (by kernel_rfl) (by kernel_rfl) (fun _ _ _ h => h) (Or.inl ⟨by rfl, ?hy203⟩) (by assumption) ?rest203
          case hy203 => (intro w hSw; (try dsimp only at hSw); go_simp; (try with_reducible rfl))
          (try go_frame)
          refine wpAnyH_done (by kernel_rfl) ?_ _
          (try go_wp2_with fail)
          go_meet
          case rel =>
            refine ⟨_, _, _, _, rfl, Row.new' (by simp), hHeld.1, ?_⟩
            (refine ⟨?_, ?_, ?_, ?_, ?_, ?_, ?_, ?_, ?_, ?_, ?_, ?_⟩) <;> first | (simp; omega) | omega | (repeat (first | exact Row.new' (by simp) | refine Row.alloc ?_ _ | refine Row.old ?_ hb2))
        · go_simp
          refine hK.out _ _ ?_ (fun hHeld => ?_)
          · exact ⟨hHeld.1.alloc hHeld.1.size _, cell_later (below_alloc _ _) hHeld.2⟩
          clear hK K
          (try go_frame)
          refine wpAnyH_ready (rs := [4]) (by kernel_rfl) (by simp) ?_
          refine AllReadyH.cons (o := { dst := some 15, op := Go.Op.makeSlice 288 (Go.Operand.tmp 14) (Go.Operand.tmp 14), type := 288, pos := "shared.go:17", after := #[{ on := 3, ground := Go.Ground.data }, { on := 3, ground := Go.Ground.data }], guard := none }) (by rfl) (fun K hK => ?_) AllReadyH.nil
          go_simp
          refine hK.out _ _ ?_ (fun hHeld => ?_)
          · exact ⟨hHeld.1.alloc hHeld.1.size _, cell_later (below_alloc _ _) hHeld.2⟩
          clear hK K
          (try go_frame)
          refine wpAnyH_take (i := 11) (oi := { dst := some 22, op := Go.Op.build 323 #[(0, Go.Operand.tmp 11), (1, Go.Operand.tmp 12), (2, Go.Operand.tmp 15), (3, Go.Operand.tmp 17), (4, Go.Operand.tmp 21)], type := 323, pos := "shared.go:17", after := #[{ on := 0, ground := Go.Ground.data }, { on := 1, ground := Go.Ground.data }, { on := 4, ground := Go.Ground.data }, { on := 6, ground := Go.Ground.data }, { on := 10, ground := Go.Ground.data }], guard := none }) (v := ?v204) rfl (by kernel_rfl) (by kernel_rfl) (by kernel_rfl) (fun _ _ _ h => h) (Or.inl ⟨by rfl, ?hy204⟩) (by assumption) ?rest204
          case hy204 => (intro w hSw; (try dsimp only at hSw); go_simp; (try with_reducible rfl))
          (try go_frame)
          refine wpAnyH_ready (rs := [12]) (by kernel_rfl) (by simp) ?_
          refine AllReadyH.cons (o := { dst := some 23, op := Go.Op.box 323 (Go.Operand.tmp 22), type := 247, pos := "shared.go:17", after := #[{ on := 11, ground := Go.Ground.data }], guard := none }) (by rfl) (fun K hK => ?_) AllReadyH.nil
          go_simp
          refine hK.out _ _ ?_ (fun hHeld => ?_)
          · exact ⟨hHeld.1.alloc hHeld.1.size _, cell_later (below_alloc _ _) hHeld.2⟩
          clear hK K
          (try go_frame)
          refine wpAnyH_take (i := 13) (oi := { dst := some 6, op := Go.Op.assign (Go.Operand.tmp 23), type := 247, pos := "shared.go:17", after := #[{ on := 12, ground := Go.Ground.data }, { on := 3, ground := Go.Ground.chain }, { on := 0, ground := Go.Ground.phase }, { on := 1, ground := Go.Ground.phase }, { on := 2, ground := Go.Ground.phase }, { on := 3, ground := Go.Ground.phase }, { on := 4, ground := Go.Ground.phase }, { on := 5, ground := Go.Ground.phase }, { on := 6, ground := Go.Ground.phase }, { on := 7, ground := Go.Ground.phase }, { on := 8, ground := Go.Ground.phase }, { on := 9, ground := Go.Ground.phase }, { on := 10, ground := Go.Ground.phase }, { on := 11, ground := Go.Ground.phase }, { on := 12, ground := Go.Ground.phase }], guard := none }) (v := ?v205) rfl (by kernel_rfl) (by kernel_rfl) (by kernel_rfl) (fun _ _ _ h => h) (Or.inl ⟨by rfl, ?hy205⟩) (by assumption) ?rest205
          case hy205 => (intro w hSw; (try dsimp only at hSw); go_simp; (try with_reducible rfl))
          (try go_frame)
          refine wpAnyH_done (by kernel_rfl) ?_ _
          (try go_wp2_with fail)
          go_meet
          case rel =>
            refine ⟨_, _, _, _, rfl, Row.new' (by simp), hHeld.1, ?_⟩
            (refine ⟨?_, ?_, ?_, ?_, ?_, ?_, ?_, ?_, ?_, ?_, ?_, ?_⟩) <;> first | (simp; omega) | omega | (repeat (first | exact Row.new' (by simp) | refine Row.alloc ?_ _ | refine Row.old ?_ hb2))
      · go_simp
        refine hK.out _ _ ?_ (fun hHeld => ?_)
        · exact ⟨hHeld.1.alloc hHeld.1.size _, cell_later (below_alloc _ _) hHeld.2⟩
        clear hK K
        (try go_frame)
        refine wpAnyH_ready (rs := [4, 6]) (by kernel_rfl) (by simp) ?_
        refine AllReadyH.cons (o := { dst := some 15, op := Go.Op.makeSlice 288 (Go.Operand.tmp 14) (Go.Operand.tmp 14), type := 288, pos := "shared.go:17", after := #[{ on := 3, ground := Go.Ground.data }, { on := 3, ground := Go.Ground.data }], guard := none }) (by rfl) (fun K hK => ?_) (AllReadyH.cons (o := { dst := some 17, op := Go.Op.makeSlice 289 (Go.Operand.tmp 16) (Go.Operand.tmp 16), type := 289, pos := "shared.go:17", after := #[{ on := 5, ground := Go.Ground.data }, { on := 5, ground := Go.Ground.data }], guard := none }) (by rfl) (fun K hK => ?_) AllReadyH.nil)
        · go_simp
          refine hK.out _ _ ?_ (fun hHeld => ?_)
          · exact ⟨hHeld.1.alloc hHeld.1.size _, cell_later (below_alloc _ _) hHeld.2⟩
          clear hK K
          (try go_frame)
          refine wpAnyH_ready (rs := [6]) (by kernel_rfl) (by simp) ?_
          refine AllReadyH.cons (o := { dst := some 17, op := Go.Op.makeSlice 289 (Go.Operand.tmp 16) (Go.Operand.tmp 16), type := 289, pos := "shared.go:17", after := #[{ on := 5, ground := Go.Ground.data }, { on := 5, ground := Go.Ground.data }], guard := none }) (by rfl) (fun K hK => ?_) AllReadyH.nil
          go_simp
          refine hK.out _ _ ?_ (fun hHeld => ?_)
          · exact ⟨hHeld.1.alloc hHeld.1.size _, cell_later (below_alloc _ _) hHeld.2⟩
          clear hK K
          (try go_frame)
          refine wpAnyH_take (i := 11) (oi := { dst := some 22, op := Go.Op.build 323 #[(0, Go.Operand.tmp 11), (1, Go.Operand.tmp 12), (2, Go.Operand.tmp 15), (3, Go.Operand.tmp 17), (4, Go.Operand.tmp 21)], type := 323, pos := "shared.go:17", after := #[{ on := 0, ground := Go.Ground.data }, { on := 1, ground := Go.Ground.data }, { on := 4, ground := Go.Ground.data }, { on := 6, ground := Go.Ground.data }, { on := 10, ground := Go.Ground.data }], guard := none }) (v := ?v206) rfl (by kernel_rfl) (by kernel_rfl) (by kernel_rfl) (fun _ _ _ h => h) (Or.inl ⟨by rfl, ?hy206⟩) (by assumption) ?rest206
          case hy206 => (intro w hSw; (try dsimp only at hSw); go_simp; (try with_reducible rfl))
          (try go_frame)
          refine wpAnyH_ready (rs := [12]) (by kernel_rfl) (by simp) ?_
          refine AllReadyH.cons (o := { dst := some 23, op := Go.Op.box 323 (Go.Operand.tmp 22), type := 247, pos := "shared.go:17", after := #[{ on := 11, ground := Go.Ground.data }], guard := none }) (by rfl) (fun K hK => ?_) AllReadyH.nil
          go_simp
          refine hK.out _ _ ?_ (fun hHeld => ?_)
          · exact ⟨hHeld.1.alloc hHeld.1.size _, cell_later (below_alloc _ _) hHeld.2⟩
          clear hK K
          (try go_frame)
          refine wpAnyH_take (i := 13) (oi := { dst := some 6, op := Go.Op.assign (Go.Operand.tmp 23), type := 247, pos := "shared.go:17", after := #[{ on := 12, ground := Go.Ground.data }, { on := 3, ground := Go.Ground.chain }, { on := 0, ground := Go.Ground.phase }, { on := 1, ground := Go.Ground.phase }, { on := 2, ground := Go.Ground.phase }, { on := 3, ground := Go.Ground.phase }, { on := 4, ground := Go.Ground.phase }, { on := 5, ground := Go.Ground.phase }, { on := 6, ground := Go.Ground.phase }, { on := 7, ground := Go.Ground.phase }, { on := 8, ground := Go.Ground.phase }, { on := 9, ground := Go.Ground.phase }, { on := 10, ground := Go.Ground.phase }, { on := 11, ground := Go.Ground.phase }, { on := 12, ground := Go.Ground.phase }], guard := none }) (v := ?v207) rfl (by kernel_rfl) (by kernel_rfl) (by kernel_rfl) (fun _ _ _ h => h) (Or.inl ⟨by rfl, ?hy207⟩) (by assumption) ?rest207
          case hy207 => (intro w hSw; (try dsimp only at hSw); go_simp; (try with_reducible rfl))
          (try go_frame)
          refine wpAnyH_done (by kernel_rfl) ?_ _
          (try go_wp2_with fail)
          go_meet
          case rel =>
            refine ⟨_, _, _, _, rfl, Row.new' (by simp), hHeld.1, ?_⟩
            (refine ⟨?_, ?_, ?_, ?_, ?_, ?_, ?_, ?_, ?_, ?_, ?_, ?_⟩) <;> first | (simp; omega) | omega | (repeat (first | exact Row.new' (by simp) | refine Row.alloc ?_ _ | refine Row.old ?_ hb2))
        · go_simp
          refine hK.out _ _ ?_ (fun hHeld => ?_)
          · exact ⟨hHeld.1.alloc hHeld.1.size _, cell_later (below_alloc _ _) hHeld.2⟩
          clear hK K
          (try go_frame)
          refine wpAnyH_ready (rs := [4]) (by kernel_rfl) (by simp) ?_
          refine AllReadyH.cons (o := { dst := some 15, op := Go.Op.makeSlice 288 (Go.Operand.tmp 14) (Go.Operand.tmp 14), type := 288, pos := "shared.go:17", after := #[{ on := 3, ground := Go.Ground.data }, { on := 3, ground := Go.Ground.data }], guard := none }) (by rfl) (fun K hK => ?_) AllReadyH.nil
          go_simp
          refine hK.out _ _ ?_ (fun hHeld => ?_)
          · exact ⟨hHeld.1.alloc hHeld.1.size _, cell_later (below_alloc _ _) hHeld.2⟩
          clear hK K
          (try go_frame)
          refine wpAnyH_take (i := 11) (oi := { dst := some 22, op := Go.Op.build 323 #[(0, Go.Operand.tmp 11), (1, Go.Operand.tmp 12), (2, Go.Operand.tmp 15), (3, Go.Operand.tmp 17), (4, Go.Operand.tmp 21)], type := 323, pos := "shared.go:17", after := #[{ on := 0, ground := Go.Ground.data }, { on := 1, ground := Go.Ground.data }, { on := 4, ground := Go.Ground.data }, { on := 6, ground := Go.Ground.data }, { on := 10, ground := Go.Ground.data }], guard := none }) (v := ?v208) rfl (by kernel_rfl) (by kernel_rfl) (by kernel_rfl) (fun _ _ _ h => h) (Or.inl ⟨by rfl, ?hy208⟩) (by assumption) ?rest208
          case hy208 => (intro w hSw; (try dsimp only at hSw); go_simp; (try with_reducible rfl))
          (try go_frame)
          refine wpAnyH_ready (rs := [12]) (by kernel_rfl) (by simp) ?_
          refine AllReadyH.cons (o := { dst := some 23, op := Go.Op.box 323 (Go.Operand.tmp 22), type := 247, pos := "shared.go:17", after := #[{ on := 11, ground := Go.Ground.data }], guard := none }) (by rfl) (fun K hK => ?_) AllReadyH.nil
          go_simp
          refine hK.out _ _ ?_ (fun hHeld => ?_)
          · exact ⟨hHeld.1.alloc hHeld.1.size _, cell_later (below_alloc _ _) hHeld.2⟩
          clear hK K
          (try go_frame)
          refine wpAnyH_take (i := 13) (oi := { dst := some 6, op := Go.Op.assign (Go.Operand.tmp 23), type := 247, pos := "shared.go:17", after := #[{ on := 12, ground := Go.Ground.data }, { on := 3, ground := Go.Ground.chain }, { on := 0, ground := Go.Ground.phase }, { on := 1, ground := Go.Ground.phase }, { on := 2, ground := Go.Ground.phase }, { on := 3, ground := Go.Ground.phase }, { on := 4, ground := Go.Ground.phase }, { on := 5, ground := Go.Ground.phase }, { on := 6, ground := Go.Ground.phase }, { on := 7, ground := Go.Ground.phase }, { on := 8, ground := Go.Ground.phase }, { on := 9, ground := Go.Ground.phase }, { on := 10, ground := Go.Ground.phase }, { on := 11, ground := Go.Ground.phase }, { on := 12, ground := Go.Ground.phase }], guard := none }) (v := ?v209) rfl (by kernel_rfl) (by kernel_rfl) (by kernel_rfl) (fun _ _ _ h => h) (Or.inl ⟨by rfl, ?hy209⟩) (by assumption) ?rest209
          case hy209 => (intro w hSw; (try dsimp only at hSw); go_simp; (try with_reducible rfl))
          (try go_frame)
          refine wpAnyH_done (by kernel_rfl) ?_ _
          (try go_wp2_with fail)
          go_meet
          case rel =>
            refine ⟨_, _, _, _, rfl, Row.new' (by simp), hHeld.1, ?_⟩
            (refine ⟨?_, ?_, ?_, ?_, ?_, ?_, ?_, ?_, ?_, ?_, ?_, ?_⟩) <;> first | (simp; omega) | omega | (repeat (first | exact Row.new' (by simp) | refine Row.alloc ?_ _ | refine Row.old ?_ hb2))
    · go_simp
      refine hK.out _ _ ?_ (fun hHeld => ?_)
      · exact ⟨hHeld.1.alloc hHeld.1.size _, cell_later (below_alloc _ _) hHeld.2⟩
      clear hK K
      (try go_frame)
      refine wpAnyH_ready (rs := [3, 10]) (by kernel_rfl) (by simp) ?_
      refine AllReadyH.cons (o := { dst := some 14, op := Go.Op.call { callee := Go.Callee.value (Go.Operand.func 156), args := #[Go.Operand.tmp 13], argTypes := #[287] }, type := 3, pos := "shared.go:20", after := #[{ on := 2, ground := Go.Ground.data }], guard := none }) (by rfl) (fun K hK => ?_) (AllReadyH.cons (o := { dst := some 21, op := Go.Op.makeSlice 321 (Go.Operand.tmp 20) (Go.Operand.tmp 20), type := 321, pos := "shared.go:17", after := #[{ on := 9, ground := Go.Ground.data }, { on := 9, ground := Go.Ground.data }], guard := none }) (by rfl) (fun K hK => ?_) AllReadyH.nil)
      · go_simp
        refine (toggleWords_any (n : Int) _ (by omega) (by omega)).mono ?_
        rintro e w2 ⟨rfl, hb2⟩
        have hz2 := hb2.size
        (try simp at hz2)
        go_wp2_with fail
        refine hK.out _ _ ?_ (fun hHeld => ?_)
        · exact ⟨Below.next hHeld.1 hb2 hHeld.1.size, cell_later hb2 hHeld.2⟩
        clear hK K
        (try go_frame)
        refine wpAnyH_ready (rs := [4, 10]) (by kernel_rfl) (by simp) ?_
        refine AllReadyH.cons (o := { dst := some 15, op := Go.Op.makeSlice 288 (Go.Operand.tmp 14) (Go.Operand.tmp 14), type := 288, pos := "shared.go:17", after := #[{ on := 3, ground := Go.Ground.data }, { on := 3, ground := Go.Ground.data }], guard := none }) (by rfl) (fun K hK => ?_) (AllReadyH.cons (o := { dst := some 21, op := Go.Op.makeSlice 321 (Go.Operand.tmp 20) (Go.Operand.tmp 20), type := 321, pos := "shared.go:17", after := #[{ on := 9, ground := Go.Ground.data }, { on := 9, ground := Go.Ground.data }], guard := none }) (by rfl) (fun K hK => ?_) AllReadyH.nil)
        · go_simp
          refine hK.out _ _ ?_ (fun hHeld => ?_)
          · exact ⟨hHeld.1.alloc hHeld.1.size _, cell_later (below_alloc _ _) hHeld.2⟩
          clear hK K
          (try go_frame)
          refine wpAnyH_ready (rs := [10]) (by kernel_rfl) (by simp) ?_
          refine AllReadyH.cons (o := { dst := some 21, op := Go.Op.makeSlice 321 (Go.Operand.tmp 20) (Go.Operand.tmp 20), type := 321, pos := "shared.go:17", after := #[{ on := 9, ground := Go.Ground.data }, { on := 9, ground := Go.Ground.data }], guard := none }) (by rfl) (fun K hK => ?_) AllReadyH.nil
          go_simp
          refine hK.out _ _ ?_ (fun hHeld => ?_)
          · exact ⟨hHeld.1.alloc hHeld.1.size _, cell_later (below_alloc _ _) hHeld.2⟩
          clear hK K
          (try go_frame)
          refine wpAnyH_take (i := 11) (oi := { dst := some 22, op := Go.Op.build 323 #[(0, Go.Operand.tmp 11), (1, Go.Operand.tmp 12), (2, Go.Operand.tmp 15), (3, Go.Operand.tmp 17), (4, Go.Operand.tmp 21)], type := 323, pos := "shared.go:17", after := #[{ on := 0, ground := Go.Ground.data }, { on := 1, ground := Go.Ground.data }, { on := 4, ground := Go.Ground.data }, { on := 6, ground := Go.Ground.data }, { on := 10, ground := Go.Ground.data }], guard := none }) (v := ?v210) rfl (by kernel_rfl) (by kernel_rfl) (by kernel_rfl) (fun _ _ _ h => h) (Or.inl ⟨by rfl, ?hy210⟩) (by assumption) ?rest210
          case hy210 => (intro w hSw; (try dsimp only at hSw); go_simp; (try with_reducible rfl))
          (try go_frame)
          refine wpAnyH_ready (rs := [12]) (by kernel_rfl) (by simp) ?_
          refine AllReadyH.cons (o := { dst := some 23, op := Go.Op.box 323 (Go.Operand.tmp 22), type := 247, pos := "shared.go:17", after := #[{ on := 11, ground := Go.Ground.data }], guard := none }) (by rfl) (fun K hK => ?_) AllReadyH.nil
          go_simp
          refine hK.out _ _ ?_ (fun hHeld => ?_)
          · exact ⟨hHeld.1.alloc hHeld.1.size _, cell_later (below_alloc _ _) hHeld.2⟩
          clear hK K
          (try go_frame)
          refine wpAnyH_take (i := 13) (oi := { dst := some 6, op := Go.Op.assign (Go.Operand.tmp 23), type := 247, pos := "shared.go:17", after := #[{ on := 12, ground := Go.Ground.data }, { on := 3, ground := Go.Ground.chain }, { on := 0, ground := Go.Ground.phase }, { on := 1, ground := Go.Ground.phase }, { on := 2, ground := Go.Ground.phase }, { on := 3, ground := Go.Ground.phase }, { on := 4, ground := Go.Ground.phase }, { on := 5, ground := Go.Ground.phase }, { on := 6, ground := Go.Ground.phase }, { on := 7, ground := Go.Ground.phase }, { on := 8, ground := Go.Ground.phase }, { on := 9, ground := Go.Ground.phase }, { on := 10, ground := Go.Ground.phase }, { on := 11, ground := Go.Ground.phase }, { on := 12, ground := Go.Ground.phase }], guard := none }) (v := ?v211) rfl (by kernel_rfl) (by kernel_rfl) (by kernel_rfl) (fun _ _ _ h => h) (Or.inl ⟨by rfl, ?hy211⟩) (by assumption) ?rest211
          case hy211 => (intro w hSw; (try dsimp only at hSw); go_simp; (try with_reducible rfl))
          (try go_frame)
          refine wpAnyH_done (by kernel_rfl) ?_ _
          (try go_wp2_with fail)
          go_meet
          case rel =>
            refine ⟨_, _, _, _, rfl, Row.new' (by simp), hHeld.1, ?_⟩
            (refine ⟨?_, ?_, ?_, ?_, ?_, ?_, ?_, ?_, ?_, ?_, ?_, ?_⟩) <;> first | (simp; omega) | omega | (repeat (first | exact Row.new' (by simp) | refine Row.alloc ?_ _ | refine Row.old ?_ hb2))
        · go_simp
          refine hK.out _ _ ?_ (fun hHeld => ?_)
          · exact ⟨hHeld.1.alloc hHeld.1.size _, cell_later (below_alloc _ _) hHeld.2⟩
          clear hK K
          (try go_frame)
          refine wpAnyH_ready (rs := [4]) (by kernel_rfl) (by simp) ?_
          refine AllReadyH.cons (o := { dst := some 15, op := Go.Op.makeSlice 288 (Go.Operand.tmp 14) (Go.Operand.tmp 14), type := 288, pos := "shared.go:17", after := #[{ on := 3, ground := Go.Ground.data }, { on := 3, ground := Go.Ground.data }], guard := none }) (by rfl) (fun K hK => ?_) AllReadyH.nil
          go_simp
          refine hK.out _ _ ?_ (fun hHeld => ?_)
          · exact ⟨hHeld.1.alloc hHeld.1.size _, cell_later (below_alloc _ _) hHeld.2⟩
          clear hK K
          (try go_frame)
          refine wpAnyH_take (i := 11) (oi := { dst := some 22, op := Go.Op.build 323 #[(0, Go.Operand.tmp 11), (1, Go.Operand.tmp 12), (2, Go.Operand.tmp 15), (3, Go.Operand.tmp 17), (4, Go.Operand.tmp 21)], type := 323, pos := "shared.go:17", after := #[{ on := 0, ground := Go.Ground.data }, { on := 1, ground := Go.Ground.data }, { on := 4, ground := Go.Ground.data }, { on := 6, ground := Go.Ground.data }, { on := 10, ground := Go.Ground.data }], guard := none }) (v := ?v212) rfl (by kernel_rfl) (by kernel_rfl) (by kernel_rfl) (fun _ _ _ h => h) (Or.inl ⟨by rfl, ?hy212⟩) (by assumption) ?rest212
          case hy212 => (intro w hSw; (try dsimp only at hSw); go_simp; (try with_reducible rfl))
          (try go_frame)
          refine wpAnyH_ready (rs := [12]) (by kernel_rfl) (by simp) ?_
          refine AllReadyH.cons (o := { dst := some 23, op := Go.Op.box 323 (Go.Operand.tmp 22), type := 247, pos := "shared.go:17", after := #[{ on := 11, ground := Go.Ground.data }], guard := none }) (by rfl) (fun K hK => ?_) AllReadyH.nil
          go_simp
          refine hK.out _ _ ?_ (fun hHeld => ?_)
          · exact ⟨hHeld.1.alloc hHeld.1.size _, cell_later (below_alloc _ _) hHeld.2⟩
          clear hK K
          (try go_frame)
          refine wpAnyH_take (i := 13) (oi := { dst := some 6, op := Go.Op.assign (Go.Operand.tmp 23), type := 247, pos := "shared.go:17", after := #[{ on := 12, ground := Go.Ground.data }, { on := 3, ground := Go.Ground.chain }, { on := 0, ground := Go.Ground.phase }, { on := 1, ground := Go.Ground.phase }, { on := 2, ground := Go.Ground.phase }, { on := 3, ground := Go.Ground.phase }, { on := 4, ground := Go.Ground.phase }, { on := 5, ground := Go.Ground.phase }, { on := 6, ground := Go.Ground.phase }, { on := 7, ground := Go.Ground.phase }, { on := 8, ground := Go.Ground.phase }, { on := 9, ground := Go.Ground.phase }, { on := 10, ground := Go.Ground.phase }, { on := 11, ground := Go.Ground.phase }, { on := 12, ground := Go.Ground.phase }], guard := none }) (v := ?v213) rfl (by kernel_rfl) (by kernel_rfl) (by kernel_rfl) (fun _ _ _ h => h) (Or.inl ⟨by rfl, ?hy213⟩) (by assumption) ?rest213
          case hy213 => (intro w hSw; (try dsimp only at hSw); go_simp; (try with_reducible rfl))
          (try go_frame)
          refine wpAnyH_done (by kernel_rfl) ?_ _
          (try go_wp2_with fail)
          go_meet
          case rel =>
            refine ⟨_, _, _, _, rfl, Row.new' (by simp), hHeld.1, ?_⟩
            (refine ⟨?_, ?_, ?_, ?_, ?_, ?_, ?_, ?_, ?_, ?_, ?_, ?_⟩) <;> first | (simp; omega) | omega | (repeat (first | exact Row.new' (by simp) | refine Row.alloc ?_ _ | refine Row.old ?_ hb2))
      · go_simp
        refine hK.out _ _ ?_ (fun hHeld => ?_)
        · exact ⟨hHeld.1.alloc hHeld.1.size _, cell_later (below_alloc _ _) hHeld.2⟩
        clear hK K
        (try go_frame)
        refine wpAnyH_ready (rs := [3]) (by kernel_rfl) (by simp) ?_
        refine AllReadyH.cons (o := { dst := some 14, op := Go.Op.call { callee := Go.Callee.value (Go.Operand.func 156), args := #[Go.Operand.tmp 13], argTypes := #[287] }, type := 3, pos := "shared.go:20", after := #[{ on := 2, ground := Go.Ground.data }], guard := none }) (by rfl) (fun K hK => ?_) AllReadyH.nil
        go_simp
        refine (toggleWords_any (n : Int) _ (by omega) (by omega)).mono ?_
        rintro e w2 ⟨rfl, hb2⟩
        have hz2 := hb2.size
        (try simp at hz2)
        go_wp2_with fail
        refine hK.out _ _ ?_ (fun hHeld => ?_)
        · exact ⟨Below.next hHeld.1 hb2 hHeld.1.size, cell_later hb2 hHeld.2⟩
        clear hK K
        (try go_frame)
        refine wpAnyH_ready (rs := [4]) (by kernel_rfl) (by simp) ?_
        refine AllReadyH.cons (o := { dst := some 15, op := Go.Op.makeSlice 288 (Go.Operand.tmp 14) (Go.Operand.tmp 14), type := 288, pos := "shared.go:17", after := #[{ on := 3, ground := Go.Ground.data }, { on := 3, ground := Go.Ground.data }], guard := none }) (by rfl) (fun K hK => ?_) AllReadyH.nil
        go_simp
        refine hK.out _ _ ?_ (fun hHeld => ?_)
        · exact ⟨hHeld.1.alloc hHeld.1.size _, cell_later (below_alloc _ _) hHeld.2⟩
        clear hK K
        (try go_frame)
        refine wpAnyH_take (i := 11) (oi := { dst := some 22, op := Go.Op.build 323 #[(0, Go.Operand.tmp 11), (1, Go.Operand.tmp 12), (2, Go.Operand.tmp 15), (3, Go.Operand.tmp 17), (4, Go.Operand.tmp 21)], type := 323, pos := "shared.go:17", after := #[{ on := 0, ground := Go.Ground.data }, { on := 1, ground := Go.Ground.data }, { on := 4, ground := Go.Ground.data }, { on := 6, ground := Go.Ground.data }, { on := 10, ground := Go.Ground.data }], guard := none }) (v := ?v214) rfl (by kernel_rfl) (by kernel_rfl) (by kernel_rfl) (fun _ _ _ h => h) (Or.inl ⟨by rfl, ?hy214⟩) (by assumption) ?rest214
        case hy214 => (intro w hSw; (try dsimp only at hSw); go_simp; (try with_reducible rfl))
        (try go_frame)
        refine wpAnyH_ready (rs := [12]) (by kernel_rfl) (by simp) ?_
        refine AllReadyH.cons (o := { dst := some 23, op := Go.Op.box 323 (Go.Operand.tmp 22), type := 247, pos := "shared.go:17", after := #[{ on := 11, ground := Go.Ground.data }], guard := none }) (by rfl) (fun K hK => ?_) AllReadyH.nil
        go_simp
        refine hK.out _ _ ?_ (fun hHeld => ?_)
        · exact ⟨hHeld.1.alloc hHeld.1.size _, cell_later (below_alloc _ _) hHeld.2⟩
        clear hK K
        (try go_frame)
        refine wpAnyH_take (i := 13) (oi := { dst := some 6, op := Go.Op.assign (Go.Operand.tmp 23), type := 247, pos := "shared.go:17", after := #[{ on := 12, ground := Go.Ground.data }, { on := 3, ground := Go.Ground.chain }, { on := 0, ground := Go.Ground.phase }, { on := 1, ground := Go.Ground.phase }, { on := 2, ground := Go.Ground.phase }, { on := 3, ground := Go.Ground.phase }, { on := 4, ground := Go.Ground.phase }, { on := 5, ground := Go.Ground.phase }, { on := 6, ground := Go.Ground.phase }, { on := 7, ground := Go.Ground.phase }, { on := 8, ground := Go.Ground.phase }, { on := 9, ground := Go.Ground.phase }, { on := 10, ground := Go.Ground.phase }, { on := 11, ground := Go.Ground.phase }, { on := 12, ground := Go.Ground.phase }], guard := none }) (v := ?v215) rfl (by kernel_rfl) (by kernel_rfl) (by kernel_rfl) (fun _ _ _ h => h) (Or.inl ⟨by rfl, ?hy215⟩) (by assumption) ?rest215
        case hy215 => (intro w hSw; (try dsimp only at hSw); go_simp; (try with_reducible rfl))
        (try go_frame)
        refine wpAnyH_done (by kernel_rfl) ?_ _
        (try go_wp2_with fail)
        go_meet
        case rel =>
          refine ⟨_, _, _, _, rfl, Row.new' (by simp), hHeld.1, ?_⟩
          (refine ⟨?_, ?_, ?_, ?_, ?_, ?_, ?_, ?_, ?_, ?_, ?_, ?_⟩) <;> first | (simp; omega) | omega | (repeat (first | exact Row.new' (by simp) | refine Row.alloc ?_ _ | refine Row.old ?_ hb2))
    · go_simp
      refine hK.out _ _ ?_ (fun hHeld => ?_)
      · exact ⟨hHeld.1.alloc hHeld.1.size _, cell_later (below_alloc _ _) hHeld.2⟩
      clear hK K
      (try go_frame)
      refine wpAnyH_ready (rs := [3, 6]) (by kernel_rfl) (by simp) ?_
      refine AllReadyH.cons (o := { dst := some 14, op := Go.Op.call { callee := Go.Callee.value (Go.Operand.func 156), args := #[Go.Operand.tmp 13], argTypes := #[287] }, type := 3, pos := "shared.go:20", after := #[{ on := 2, ground := Go.Ground.data }], guard := none }) (by rfl) (fun K hK => ?_) (AllReadyH.cons (o := { dst := some 17, op := Go.Op.makeSlice 289 (Go.Operand.tmp 16) (Go.Operand.tmp 16), type := 289, pos := "shared.go:17", after := #[{ on := 5, ground := Go.Ground.data }, { on := 5, ground := Go.Ground.data }], guard := none }) (by rfl) (fun K hK => ?_) AllReadyH.nil)
      · go_simp
        refine (toggleWords_any (n : Int) _ (by omega) (by omega)).mono ?_
        rintro e w2 ⟨rfl, hb2⟩
        have hz2 := hb2.size
        (try simp at hz2)
        go_wp2_with fail
        refine hK.out _ _ ?_ (fun hHeld => ?_)
        · exact ⟨Below.next hHeld.1 hb2 hHeld.1.size, cell_later hb2 hHeld.2⟩
        clear hK K
        (try go_frame)
        refine wpAnyH_ready (rs := [4, 6]) (by kernel_rfl) (by simp) ?_
        refine AllReadyH.cons (o := { dst := some 15, op := Go.Op.makeSlice 288 (Go.Operand.tmp 14) (Go.Operand.tmp 14), type := 288, pos := "shared.go:17", after := #[{ on := 3, ground := Go.Ground.data }, { on := 3, ground := Go.Ground.data }], guard := none }) (by rfl) (fun K hK => ?_) (AllReadyH.cons (o := { dst := some 17, op := Go.Op.makeSlice 289 (Go.Operand.tmp 16) (Go.Operand.tmp 16), type := 289, pos := "shared.go:17", after := #[{ on := 5, ground := Go.Ground.data }, { on := 5, ground := Go.Ground.data }], guard := none }) (by rfl) (fun K hK => ?_) AllReadyH.nil)
        · go_simp
          refine hK.out _ _ ?_ (fun hHeld => ?_)
          · exact ⟨hHeld.1.alloc hHeld.1.size _, cell_later (below_alloc _ _) hHeld.2⟩
          clear hK K
          (try go_frame)
          refine wpAnyH_ready (rs := [6]) (by kernel_rfl) (by simp) ?_
          refine AllReadyH.cons (o := { dst := some 17, op := Go.Op.makeSlice 289 (Go.Operand.tmp 16) (Go.Operand.tmp 16), type := 289, pos := "shared.go:17", after := #[{ on := 5, ground := Go.Ground.data }, { on := 5, ground := Go.Ground.data }], guard := none }) (by rfl) (fun K hK => ?_) AllReadyH.nil
          go_simp
          refine hK.out _ _ ?_ (fun hHeld => ?_)
          · exact ⟨hHeld.1.alloc hHeld.1.size _, cell_later (below_alloc _ _) hHeld.2⟩
          clear hK K
          (try go_frame)
          refine wpAnyH_take (i := 11) (oi := { dst := some 22, op := Go.Op.build 323 #[(0, Go.Operand.tmp 11), (1, Go.Operand.tmp 12), (2, Go.Operand.tmp 15), (3, Go.Operand.tmp 17), (4, Go.Operand.tmp 21)], type := 323, pos := "shared.go:17", after := #[{ on := 0, ground := Go.Ground.data }, { on := 1, ground := Go.Ground.data }, { on := 4, ground := Go.Ground.data }, { on := 6, ground := Go.Ground.data }, { on := 10, ground := Go.Ground.data }], guard := none }) (v := ?v216) rfl (by kernel_rfl) (by kernel_rfl) (by kernel_rfl) (fun _ _ _ h => h) (Or.inl ⟨by rfl, ?hy216⟩) (by assumption) ?rest216
          case hy216 => (intro w hSw; (try dsimp only at hSw); go_simp; (try with_reducible rfl))
          (try go_frame)
          refine wpAnyH_ready (rs := [12]) (by kernel_rfl) (by simp) ?_
          refine AllReadyH.cons (o := { dst := some 23, op := Go.Op.box 323 (Go.Operand.tmp 22), type := 247, pos := "shared.go:17", after := #[{ on := 11, ground := Go.Ground.data }], guard := none }) (by rfl) (fun K hK => ?_) AllReadyH.nil
          go_simp
          refine hK.out _ _ ?_ (fun hHeld => ?_)
          · exact ⟨hHeld.1.alloc hHeld.1.size _, cell_later (below_alloc _ _) hHeld.2⟩
          clear hK K
          (try go_frame)
          refine wpAnyH_take (i := 13) (oi := { dst := some 6, op := Go.Op.assign (Go.Operand.tmp 23), type := 247, pos := "shared.go:17", after := #[{ on := 12, ground := Go.Ground.data }, { on := 3, ground := Go.Ground.chain }, { on := 0, ground := Go.Ground.phase }, { on := 1, ground := Go.Ground.phase }, { on := 2, ground := Go.Ground.phase }, { on := 3, ground := Go.Ground.phase }, { on := 4, ground := Go.Ground.phase }, { on := 5, ground := Go.Ground.phase }, { on := 6, ground := Go.Ground.phase }, { on := 7, ground := Go.Ground.phase }, { on := 8, ground := Go.Ground.phase }, { on := 9, ground := Go.Ground.phase }, { on := 10, ground := Go.Ground.phase }, { on := 11, ground := Go.Ground.phase }, { on := 12, ground := Go.Ground.phase }], guard := none }) (v := ?v217) rfl (by kernel_rfl) (by kernel_rfl) (by kernel_rfl) (fun _ _ _ h => h) (Or.inl ⟨by rfl, ?hy217⟩) (by assumption) ?rest217
          case hy217 => (intro w hSw; (try dsimp only at hSw); go_simp; (try with_reducible rfl))
          (try go_frame)
          refine wpAnyH_done (by kernel_rfl) ?_ _
          (try go_wp2_with fail)
          go_meet
          case rel =>
            refine ⟨_, _, _, _, rfl, Row.new' (by simp), hHeld.1, ?_⟩
            (refine ⟨?_, ?_, ?_, ?_, ?_, ?_, ?_, ?_, ?_, ?_, ?_, ?_⟩) <;> first | (simp; omega) | omega | (repeat (first | exact Row.new' (by simp) | refine Row.alloc ?_ _ | refine Row.old ?_ hb2))
        · go_simp
          refine hK.out _ _ ?_ (fun hHeld => ?_)
          · exact ⟨hHeld.1.alloc hHeld.1.size _, cell_later (below_alloc _ _) hHeld.2⟩
          clear hK K
          (try go_frame)
          refine wpAnyH_ready (rs := [4]) (by kernel_rfl) (by simp) ?_
          refine AllReadyH.cons (o := { dst := some 15, op := Go.Op.makeSlice 288 (Go.Operand.tmp 14) (Go.Operand.tmp 14), type := 288, pos := "shared.go:17", after := #[{ on := 3, ground := Go.Ground.data }, { on := 3, ground := Go.Ground.data }], guard := none }) (by rfl) (fun K hK => ?_) AllReadyH.nil
          go_simp
          refine hK.out _ _ ?_ (fun hHeld => ?_)
          · exact ⟨hHeld.1.alloc hHeld.1.size _, cell_later (below_alloc _ _) hHeld.2⟩
          clear hK K
          (try go_frame)
          refine wpAnyH_take (i := 11) (oi := { dst := some 22, op := Go.Op.build 323 #[(0, Go.Operand.tmp 11), (1, Go.Operand.tmp 12), (2, Go.Operand.tmp 15), (3, Go.Operand.tmp 17), (4, Go.Operand.tmp 21)], type := 323, pos := "shared.go:17", after := #[{ on := 0, ground := Go.Ground.data }, { on := 1, ground := Go.Ground.data }, { on := 4, ground := Go.Ground.data }, { on := 6, ground := Go.Ground.data }, { on := 10, ground := Go.Ground.data }], guard := none }) (v := ?v218) rfl (by kernel_rfl) (by kernel_rfl) (by kernel_rfl) (fun _ _ _ h => h) (Or.inl ⟨by rfl, ?hy218⟩) (by assumption) ?rest218
          case hy218 => (intro w hSw; (try dsimp only at hSw); go_simp; (try with_reducible rfl))
          (try go_frame)
          refine wpAnyH_ready (rs := [12]) (by kernel_rfl) (by simp) ?_
          refine AllReadyH.cons (o := { dst := some 23, op := Go.Op.box 323 (Go.Operand.tmp 22), type := 247, pos := "shared.go:17", after := #[{ on := 11, ground := Go.Ground.data }], guard := none }) (by rfl) (fun K hK => ?_) AllReadyH.nil
          go_simp
          refine hK.out _ _ ?_ (fun hHeld => ?_)
          · exact ⟨hHeld.1.alloc hHeld.1.size _, cell_later (below_alloc _ _) hHeld.2⟩
          clear hK K
          (try go_frame)
          refine wpAnyH_take (i := 13) (oi := { dst := some 6, op := Go.Op.assign (Go.Operand.tmp 23), type := 247, pos := "shared.go:17", after := #[{ on := 12, ground := Go.Ground.data }, { on := 3, ground := Go.Ground.chain }, { on := 0, ground := Go.Ground.phase }, { on := 1, ground := Go.Ground.phase }, { on := 2, ground := Go.Ground.phase }, { on := 3, ground := Go.Ground.phase }, { on := 4, ground := Go.Ground.phase }, { on := 5, ground := Go.Ground.phase }, { on := 6, ground := Go.Ground.phase }, { on := 7, ground := Go.Ground.phase }, { on := 8, ground := Go.Ground.phase }, { on := 9, ground := Go.Ground.phase }, { on := 10, ground := Go.Ground.phase }, { on := 11, ground := Go.Ground.phase }, { on := 12, ground := Go.Ground.phase }], guard := none }) (v := ?v219) rfl (by kernel_rfl) (by kernel_rfl) (by kernel_rfl) (fun _ _ _ h => h) (Or.inl ⟨by rfl, ?hy219⟩) (by assumption) ?rest219
          case hy219 => (intro w hSw; (try dsimp only at hSw); go_simp; (try with_reducible rfl))
          (try go_frame)
          refine wpAnyH_done (by kernel_rfl) ?_ _
          (try go_wp2_with fail)
          go_meet
          case rel =>
            refine ⟨_, _, _, _, rfl, Row.new' (by simp), hHeld.1, ?_⟩
            (refine ⟨?_, ?_, ?_, ?_, ?_, ?_, ?_, ?_, ?_, ?_, ?_, ?_⟩) <;> first | (simp; omega) | omega | (repeat (first | exact Row.new' (by simp) | refine Row.alloc ?_ _ | refine Row.old ?_ hb2))
      · go_simp
        refine hK.out _ _ ?_ (fun hHeld => ?_)
        · exact ⟨hHeld.1.alloc hHeld.1.size _, cell_later (below_alloc _ _) hHeld.2⟩
        clear hK K
        (try go_frame)
        refine wpAnyH_ready (rs := [3]) (by kernel_rfl) (by simp) ?_
        refine AllReadyH.cons (o := { dst := some 14, op := Go.Op.call { callee := Go.Callee.value (Go.Operand.func 156), args := #[Go.Operand.tmp 13], argTypes := #[287] }, type := 3, pos := "shared.go:20", after := #[{ on := 2, ground := Go.Ground.data }], guard := none }) (by rfl) (fun K hK => ?_) AllReadyH.nil
        go_simp
        refine (toggleWords_any (n : Int) _ (by omega) (by omega)).mono ?_
        rintro e w2 ⟨rfl, hb2⟩
        have hz2 := hb2.size
        (try simp at hz2)
        go_wp2_with fail
        refine hK.out _ _ ?_ (fun hHeld => ?_)
        · exact ⟨Below.next hHeld.1 hb2 hHeld.1.size, cell_later hb2 hHeld.2⟩
        clear hK K
        (try go_frame)
        refine wpAnyH_ready (rs := [4]) (by kernel_rfl) (by simp) ?_
        refine AllReadyH.cons (o := { dst := some 15, op := Go.Op.makeSlice 288 (Go.Operand.tmp 14) (Go.Operand.tmp 14), type := 288, pos := "shared.go:17", after := #[{ on := 3, ground := Go.Ground.data }, { on := 3, ground := Go.Ground.data }], guard := none }) (by rfl) (fun K hK => ?_) AllReadyH.nil
        go_simp
        refine hK.out _ _ ?_ (fun hHeld => ?_)
        · exact ⟨hHeld.1.alloc hHeld.1.size _, cell_later (below_alloc _ _) hHeld.2⟩
        clear hK K
        (try go_frame)
        refine wpAnyH_take (i := 11) (oi := { dst := some 22, op := Go.Op.build 323 #[(0, Go.Operand.tmp 11), (1, Go.Operand.tmp 12), (2, Go.Operand.tmp 15), (3, Go.Operand.tmp 17), (4, Go.Operand.tmp 21)], type := 323, pos := "shared.go:17", after := #[{ on := 0, ground := Go.Ground.data }, { on := 1, ground := Go.Ground.data }, { on := 4, ground := Go.Ground.data }, { on := 6, ground := Go.Ground.data }, { on := 10, ground := Go.Ground.data }], guard := none }) (v := ?v220) rfl (by kernel_rfl) (by kernel_rfl) (by kernel_rfl) (fun _ _ _ h => h) (Or.inl ⟨by rfl, ?hy220⟩) (by assumption) ?rest220
        case hy220 => (intro w hSw; (try dsimp only at hSw); go_simp; (try with_reducible rfl))
        (try go_frame)
        refine wpAnyH_ready (rs := [12]) (by kernel_rfl) (by simp) ?_
        refine AllReadyH.cons (o := { dst := some 23, op := Go.Op.box 323 (Go.Operand.tmp 22), type := 247, pos := "shared.go:17", after := #[{ on := 11, ground := Go.Ground.data }], guard := none }) (by rfl) (fun K hK => ?_) AllReadyH.nil
        go_simp
        refine hK.out _ _ ?_ (fun hHeld => ?_)
        · exact ⟨hHeld.1.alloc hHeld.1.size _, cell_later (below_alloc _ _) hHeld.2⟩
        clear hK K
        (try go_frame)
        refine wpAnyH_take (i := 13) (oi := { dst := some 6, op := Go.Op.assign (Go.Operand.tmp 23), type := 247, pos := "shared.go:17", after := #[{ on := 12, ground := Go.Ground.data }, { on := 3, ground := Go.Ground.chain }, { on := 0, ground := Go.Ground.phase }, { on := 1, ground := Go.Ground.phase }, { on := 2, ground := Go.Ground.phase }, { on := 3, ground := Go.Ground.phase }, { on := 4, ground := Go.Ground.phase }, { on := 5, ground := Go.Ground.phase }, { on := 6, ground := Go.Ground.phase }, { on := 7, ground := Go.Ground.phase }, { on := 8, ground := Go.Ground.phase }, { on := 9, ground := Go.Ground.phase }, { on := 10, ground := Go.Ground.phase }, { on := 11, ground := Go.Ground.phase }, { on := 12, ground := Go.Ground.phase }], guard := none }) (v := ?v221) rfl (by kernel_rfl) (by kernel_rfl) (by kernel_rfl) (fun _ _ _ h => h) (Or.inl ⟨by rfl, ?hy221⟩) (by assumption) ?rest221
        case hy221 => (intro w hSw; (try dsimp only at hSw); go_simp; (try with_reducible rfl))
        (try go_frame)
        refine wpAnyH_done (by kernel_rfl) ?_ _
        (try go_wp2_with fail)
        go_meet
        case rel =>
          refine ⟨_, _, _, _, rfl, Row.new' (by simp), hHeld.1, ?_⟩
          (refine ⟨?_, ?_, ?_, ?_, ?_, ?_, ?_, ?_, ?_, ?_, ?_, ?_⟩) <;> first | (simp; omega) | omega | (repeat (first | exact Row.new' (by simp) | refine Row.alloc ?_ _ | refine Row.old ?_ hb2))
  case rest =>
    obtain ⟨bS, bTg, bAn, bP, rfl, hS, hB, z1, z2, z3, z4, z5, z6, z7, z8, z9, hTg, hAn, hP⟩ := hcut
    rw [poolAt_zero _ (rwn n) (fun _ => 0)] at hP
    have hI0 : ShI W0 bS bTg bAn bP n oT ov 0 (fun _ => 0) wc := ⟨hS, hTg, hAn, hP, fun r hr => absurd hr (by omega), fun r s _ h => absurd h (by omega), hB⟩
    have hcS0 := hS.cell_of (i := 4) rfl
    clear hS hTg hAn hP hB
    go_wp2
    go_loopw [29] (fun i w' => ∃ k bW, k ≤ 2 * n + 1 ∧ i = .int .i64 (k : Int) ∧ ShI W0 bS bTg bAn bP n oT ov k bW w') (fun i _ => 2 * n + 1 - (intOf i).toNat)
    case atStart => exact ⟨0, _, Nat.zero_le _, rfl, hI0⟩
    case round =>
      obtain ⟨k, bW, hk, rfl, hI⟩ := hrel
      by_cases hlt : k < 2 * n + 1
      · have hlt' : (k : Int) < 2 * (n : Int) + 1 := by omega
        have hlt'' : (k : Int) < (2 * n + 1 : Nat) := by omega
        have hk0 : (0 : Int) ≤ (k : Int) := by omega
        have hcS : wr.cell? ⟨bS, 4, none⟩ = some (.slice (some ⟨bP, 0, none⟩) (2 * n + 1) (2 * n + 1)) := hI.1.cell_of rfl
        have hcN : wr.cell? ⟨w.heap.size, 0, none⟩ = some (.int .i64 (n : Int)) := cell_later hI.2.2.2.2.2.2 hc0
        have hth : wr.there bP (k * 2) 1 := hI.2.2.2.1.there (by rw [length_poolAt]; omega)
        have hsz : (Tryz.prog.info? 288).map (·.size) = some 1 := by kernel_rfl
        have hneS : bS ≠ bP := by omega
        have hneN : w.heap.size ≠ bP := by omega
        have HI := hide hI
        clear hI
        go_wp2
        refine wp_region_held_drew (S := (fun w' => w'.cell? ⟨bS, 4, none⟩ = some (.slice (some ⟨bP, 0, none⟩) (2 * n + 1) (2 * n + 1)) ∧ w'.cell? ⟨w.heap.size, 0, none⟩ = some (.int .i64 (n : Int)) ∧ w'.there bP (k * 2) 1)) (by kernel_rfl) ?_ (fun hHeld => ?_)
        · exact ⟨hcS, hcN, hth⟩
        refine wpAnyH_take (i := 0) (oi := { dst := some 32, op := Go.Op.move (Go.Operand.tmp 6), type := 247, pos := "shared.go:25", after := #[], guard := none }) (v := ?v222) rfl (by kernel_rfl) (by kernel_rfl) (by kernel_rfl) (fun _ _ _ h => h) (Or.inl ⟨by rfl, ?hy222⟩) (by assumption) ?rest222
        case hy222 => (intro w hSw; (try dsimp only at hSw); go_simp; (try with_reducible rfl))
        (try go_frame)
        refine wpAnyH_take (i := 1) (oi := { dst := some 33, op := Go.Op.nilCheck (Go.Operand.tmp 32), type := 0, pos := "shared.go:25", after := #[{ on := 0, ground := Go.Ground.data }], guard := none }) (v := ?v223) rfl (by kernel_rfl) (by kernel_rfl) (by kernel_rfl) (fun _ _ _ h => h) (Or.inl ⟨by rfl, ?hy223⟩) (by assumption) ?rest223
        case hy223 => (intro w hSw; (try dsimp only at hSw); go_simp; (try with_reducible rfl))
        (try go_frame)
        refine wpAnyH_take (i := 2) (oi := { dst := some 34, op := Go.Op.fieldAddr 323 (Go.Operand.tmp 33) 4, type := 0, pos := "shared.go:25", after := #[{ on := 1, ground := Go.Ground.data }], guard := none }) (v := ?v224) rfl (by kernel_rfl) (by kernel_rfl) (by kernel_rfl) (fun _ _ _ h => h) (Or.inl ⟨by rfl, ?hy224⟩) (by assumption) ?rest224
        case hy224 => (intro w hSw; (try dsimp only at hSw); go_simp; (try with_reducible rfl))
        (try go_frame)
        refine wpAnyH_take (i := 3) (oi := { dst := some 35, op := Go.Op.load 321 (Go.Operand.tmp 34), type := 321, pos := "shared.go:25", after := #[{ on := 2, ground := Go.Ground.data }], guard := none }) (v := ?v225) rfl (by kernel_rfl) (by kernel_rfl) (by kernel_rfl) (fun _ _ _ h => h) (Or.inl ⟨by rfl, ?hy225⟩) (by assumption) ?rest225
        case hy225 => (intro w hSw; (try dsimp only at hSw); go_simp; (try with_reducible rfl))
        (try go_frame)
        refine wpAnyH_take (i := 4) (oi := { dst := some 36, op := Go.Op.move (Go.Operand.tmp 7), type := 3, pos := "shared.go:25", after := #[], guard := none }) (v := ?v226) rfl (by kernel_rfl) (by kernel_rfl) (by kernel_rfl) (fun _ _ _ h => h) (Or.inl ⟨by rfl, ?hy226⟩) (by assumption) ?rest226
        case hy226 => (intro w hSw; (try dsimp only at hSw); go_simp; (try with_reducible rfl))
        (try go_frame)
        refine wpAnyH_take (i := 5) (oi := { dst := some 37, op := Go.Op.load 287 (Go.Operand.tmp 5), type := 287, pos := "shared.go:25", after := #[], guard := none }) (v := ?v227) rfl (by kernel_rfl) (by kernel_rfl) (by kernel_rfl) (fun _ _ _ h => h) (Or.inl ⟨by rfl, ?hy227⟩) (by assumption) ?rest227
        case hy227 => (intro w hSw; (try dsimp only at hSw); go_simp; (try with_reducible rfl))
        (try go_frame)
        refine wpAnyH_ready (rs := [6]) (by kernel_rfl) (by simp) ?_
        refine AllReadyH.cons (o := { dst := some 38, op := Go.Op.call { callee := Go.Callee.value (Go.Operand.func 157), args := #[Go.Operand.tmp 37], argTypes := #[287] }, type := 3, pos := "shared.go:25", after := #[{ on := 5, ground := Go.Ground.data }], guard := none }) (by rfl) (fun K hK => ?_) AllReadyH.nil
        go_simp
        refine (recordWords_any (n : Int) _ (by omega) (by omega)).mono ?_
        rintro e w3 ⟨rfl, hb3⟩
        go_wp2_with fail
        refine hK.out _ _ ?_ (fun hHeld => ?_)
        · exact ⟨cell_later hb3 hHeld.1, cell_later hb3 hHeld.2.1, there_later hb3 hHeld.2.2⟩
        clear hK K
        (try go_frame)
        refine wpAnyH_ready (rs := [7]) (by kernel_rfl) (by simp) ?_
        refine AllReadyH.cons (o := { dst := some 39, op := Go.Op.makeSlice 288 (Go.Operand.tmp 38) (Go.Operand.tmp 38), type := 288, pos := "shared.go:25", after := #[{ on := 6, ground := Go.Ground.data }, { on := 6, ground := Go.Ground.data }], guard := none }) (by rfl) (fun K hK => ?_) AllReadyH.nil
        go_simp
        refine hK.out _ _ ?_ (fun hHeld => ?_)
        · exact ⟨cell_later (below_alloc _ _) hHeld.1, cell_later (below_alloc _ _) hHeld.2.1, World.there_alloc hHeld.2.2 _⟩
        clear hK K
        (try go_frame)
        refine wpAnyH_take (i := 8) (oi := { dst := some 40, op := Go.Op.indexAddr 321 (Go.Operand.tmp 35) (Go.Operand.tmp 36), type := 0, pos := "shared.go:25", after := #[{ on := 3, ground := Go.Ground.data }, { on := 4, ground := Go.Ground.data }, { on := 0, ground := Go.Ground.phase }, { on := 1, ground := Go.Ground.phase }, { on := 2, ground := Go.Ground.phase }, { on := 3, ground := Go.Ground.phase }, { on := 4, ground := Go.Ground.phase }, { on := 5, ground := Go.Ground.phase }, { on := 6, ground := Go.Ground.phase }, { on := 7, ground := Go.Ground.phase }], guard := none }) (v := ?v228) rfl (by kernel_rfl) (by kernel_rfl) (by kernel_rfl) (fun _ _ _ h => h) (Or.inl ⟨by rfl, ?hy228⟩) (by assumption) ?rest228
        case hy228 => (intro w hSw; (try dsimp only at hSw); go_simp; (try with_reducible rfl))
        (try go_frame)
        refine wpAnyH_take (i := 9) (oi := { dst := some 41, op := Go.Op.fieldAddr 331 (Go.Operand.tmp 40) 0, type := 0, pos := "shared.go:25", after := #[{ on := 8, ground := Go.Ground.data }, { on := 0, ground := Go.Ground.phase }, { on := 1, ground := Go.Ground.phase }, { on := 2, ground := Go.Ground.phase }, { on := 3, ground := Go.Ground.phase }, { on := 4, ground := Go.Ground.phase }, { on := 5, ground := Go.Ground.phase }, { on := 6, ground := Go.Ground.phase }, { on := 7, ground := Go.Ground.phase }], guard := none }) (v := ?v229) rfl (by kernel_rfl) (by kernel_rfl) (by kernel_rfl) (fun _ _ _ h => h) (Or.inl ⟨by rfl, ?hy229⟩) (by assumption) ?rest229
        case hy229 => (intro w hSw; (try dsimp only at hSw); go_simp; (try with_reducible rfl))
        (try go_frame)
        refine wpAnyH_ready (rs := [10]) (by kernel_rfl) (by simp) ?_
        refine AllReadyH.cons (o := { dst := none, op := Go.Op.store 288 (Go.Operand.tmp 41) (Go.Operand.tmp 39), type := 0, pos := "shared.go:25", after := #[{ on := 9, ground := Go.Ground.data }, { on := 7, ground := Go.Ground.data }, { on := 6, ground := Go.Ground.chain }, { on := 0, ground := Go.Ground.phase }, { on := 1, ground := Go.Ground.phase }, { on := 2, ground := Go.Ground.phase }, { on := 3, ground := Go.Ground.phase }, { on := 4, ground := Go.Ground.phase }, { on := 5, ground := Go.Ground.phase }, { on := 6, ground := Go.Ground.phase }, { on := 7, ground := Go.Ground.phase }], guard := none }) (by rfl) (fun K hK => ?_) AllReadyH.nil
        rw [if_pos (by rfl)]
        refine wp_store_one _ _ _ rfl bP (k * 2) _ rfl rfl rfl rfl hHeld.2.2 hsz ?_
        refine hK.out _ _ ?_ (fun hHeld => ?_)
        · exact ⟨(World.cell?_setCell_far _ _ _ _ (Ne.symm hneS)).trans hHeld.1, (World.cell?_setCell_far _ _ _ _ (Ne.symm hneN)).trans hHeld.2.1, there_set hHeld.2.2 _ rfl _⟩
        clear hK K
        (try go_frame)
        refine wpAnyH_done (by kernel_rfl) ?_ _
        (try go_wp2_with fail)
        go_roundw
        case rel =>
          rw [Nat.mul_comm k 2]
          exact ⟨k + 1, _, by omega, by go_num, ShI.next HI.out (Below.undrew hb3) z3 (by omega) (by omega) (by omega)⟩
        case measure => simp [intOf]; omega
      · have hke : k = 2 * n + 1 := by omega
        subst hke
        have hI' := hI
        clear hI hlt
        have hcP : wr.cell? ⟨bS, 4, none⟩ = some (.slice (some ⟨bP, 0, none⟩) (2 * n + 1) (2 * n + 1)) := hI'.1.cell_of rfl
        have HI := hide hI'
        clear hI'
        have hlt' : ¬ ((2 * n + 1 : Nat) : Int) < 2 * (n : Int) + 1 := by omega
        go_wp2_with fail
        refine (HF.out _).mono ?_
        rintro e w4 ⟨rfl, hb4⟩
        go_wp2_with fail
        generalize hW5 : World.alloc (World.alloc w4 _) _ = W5
        have hI := HI.out
        have hb5 : Below w4.heap.size w4 W5 := by rw [← hW5]; exact ((Below.refl _ _).alloc (Nat.le_refl _) _).alloc (by simp) _
        have hcS5 : W5.cell? ⟨bS, 4, none⟩ = some (.slice (some ⟨bP, 0, none⟩) (2 * n + 1) (2 * n + 1)) := cell_later hb5 (cell_later hb4 hcP)
        have hcP1 : W5.cell? ⟨bP, 1, none⟩ = some (.pointer none) := cell_later hb5 (cell_later hb4 (hI.2.2.2.1.cell_of (poolAt_odd (j := 0) (by omega))))
        have hfP1 : W5.frozen? ⟨bP, 1, none⟩ = false := ((hI.2.2.2.1.old hb4).old hb5).frozen 1
        obtain ⟨bV, hbV⟩ : ∃ bV, bV = w4.heap.size + 1 := ⟨_, rfl⟩
        have hV : ∃ vs, W5 = (w4.alloc (.cells [Value.int .i64 0, .slice none 0 0, .pointer none].toArray 306)).alloc (.cells vs.toArray 253) ∧ vs = [.pointer none, .pointer none] ++ [.pointer (some ⟨w4.heap.size, 0, none⟩)] := ⟨_, hW5.symm, rfl⟩
        obtain ⟨vs, hV5, hvs⟩ := hV
        have hVr : Row W5 bV 253 ([.pointer none, .pointer none] ++ [.pointer (some ⟨w4.heap.size, 0, none⟩)]) := by rw [hV5, ← hvs, hbV]; exact Row.new' (by simp)
        have hVc : ∀ w', Below W5.heap.size W5 w' → w'.cell? ⟨bV, 0, none⟩ = some (.pointer none) ∧ w'.cell? ⟨bV, 1, none⟩ = some (.pointer none) ∧ w'.cell? ⟨bV, 2, none⟩ = some (.pointer (some ⟨w4.heap.size, 0, none⟩)) := by
          intro w' hw'
          have hq := hVr.old hw'
          simp only [hq.cell]
          simp
        have HW5 := hide hV5
        clear hW5 hV5 hI hvs hcP
        have hltP : bP < W5.heap.size := World.block_lt_of_cell? W5 _ hcP1
        have hneS : bS ≠ bP := by omega
        have hneV : bV ≠ bP := by have h7 := (unhide HI).2.2.2.1.lt; have h8 := hb4.size; omega
        have hpos : (0 : Int) < 2 * (n : Int) + 1 := by omega
        rw [← hbV]
        clear hbV
        have hV0 := hVc W5 (Below.refl _ _)
        clear hVc
        refine wp_region_held_drew (S := (fun w' => w'.cell? ⟨bS, 4, none⟩ = some (.slice (some ⟨bP, 0, none⟩) (2 * n + 1) (2 * n + 1)) ∧ w'.cell? ⟨bV, 0, none⟩ = some (.pointer none) ∧ w'.cell? ⟨bV, 1, none⟩ = some (.pointer none) ∧ w'.cell? ⟨bV, 2, none⟩ = some (.pointer (some ⟨w4.heap.size, 0, none⟩)))) (by kernel_rfl) ?_ (fun hHeld => ?_)
        · exact ⟨hcS5, hV0⟩
        refine wpAnyH_take (i := 0) (oi := { dst := some 48, op := Go.Op.move (Go.Operand.tmp 6), type := 247, pos := "shared.go:28", after := #[], guard := none }) (v := ?v230) rfl (by kernel_rfl) (by kernel_rfl) (by kernel_rfl) (fun _ _ _ h => h) (Or.inl ⟨by rfl, ?hy230⟩) (by assumption) ?rest230
        case hy230 => (intro w hSw; (try dsimp only at hSw); go_simp; (try with_reducible rfl))
        (try go_frame)
        refine wpAnyH_take (i := 1) (oi := { dst := some 49, op := Go.Op.nilCheck (Go.Operand.tmp 48), type := 0, pos := "shared.go:28", after := #[{ on := 0, ground := Go.Ground.data }], guard := none }) (v := ?v231) rfl (by kernel_rfl) (by kernel_rfl) (by kernel_rfl) (fun _ _ _ h => h) (Or.inl ⟨by rfl, ?hy231⟩) (by assumption) ?rest231
        case hy231 => (intro w hSw; (try dsimp only at hSw); go_simp; (try with_reducible rfl))
        (try go_frame)
        refine wpAnyH_take (i := 2) (oi := { dst := some 50, op := Go.Op.fieldAddr 323 (Go.Operand.tmp 49) 4, type := 0, pos := "shared.go:28", after := #[{ on := 1, ground := Go.Ground.data }], guard := none }) (v := ?v232) rfl (by kernel_rfl) (by kernel_rfl) (by kernel_rfl) (fun _ _ _ h => h) (Or.inl ⟨by rfl, ?hy232⟩) (by assumption) ?rest232
        case hy232 => (intro w hSw; (try dsimp only at hSw); go_simp; (try with_reducible rfl))
        (try go_frame)
        refine wpAnyH_take (i := 3) (oi := { dst := some 51, op := Go.Op.load 321 (Go.Operand.tmp 50), type := 321, pos := "shared.go:28", after := #[{ on := 2, ground := Go.Ground.data }], guard := none }) (v := ?v233) rfl (by kernel_rfl) (by kernel_rfl) (by kernel_rfl) (fun _ _ _ h => h) (Or.inl ⟨by rfl, ?hy233⟩) (by assumption) ?rest233
        case hy233 => (intro w hSw; (try dsimp only at hSw); go_simp; (try with_reducible rfl))
        (try go_frame)
        refine wpAnyH_take (i := 4) (oi := { dst := some 52, op := Go.Op.indexAddr 321 (Go.Operand.tmp 51) (Go.Operand.const (Go.Value.int Go.IntKind.i64 0)), type := 0, pos := "shared.go:28", after := #[{ on := 3, ground := Go.Ground.data }], guard := none }) (v := ?v234) rfl (by kernel_rfl) (by kernel_rfl) (by kernel_rfl) (fun _ _ _ h => h) (Or.inl ⟨by rfl, ?hy234⟩) (by assumption) ?rest234
        case hy234 => (intro w hSw; (try dsimp only at hSw); go_simp; (try with_reducible rfl))
        (try go_frame)
        refine wpAnyH_take (i := 5) (oi := { dst := some 53, op := Go.Op.fieldAddr 331 (Go.Operand.tmp 52) 1, type := 0, pos := "shared.go:28", after := #[{ on := 4, ground := Go.Ground.data }], guard := none }) (v := ?v235) rfl (by kernel_rfl) (by kernel_rfl) (by kernel_rfl) (fun _ _ _ h => h) (Or.inl ⟨by rfl, ?hy235⟩) (by assumption) ?rest235
        case hy235 => (intro w hSw; (try dsimp only at hSw); go_simp; (try with_reducible rfl))
        (try go_frame)
        refine wpAnyH_take (i := 6) (oi := { dst := some 54, op := Go.Op.fieldAddr 329 (Go.Operand.tmp 53) 0, type := 0, pos := "shared.go:28", after := #[{ on := 5, ground := Go.Ground.data }], guard := none }) (v := ?v236) rfl (by kernel_rfl) (by kernel_rfl) (by kernel_rfl) (fun _ _ _ h => h) (Or.inl ⟨by rfl, ?hy236⟩) (by assumption) ?rest236
        case hy236 => (intro w hSw; (try dsimp only at hSw); go_simp; (try with_reducible rfl))
        (try go_frame)
        refine wpAnyH_take (i := 7) (oi := { dst := some 55, op := Go.Op.load 253 (Go.Operand.tmp 8), type := 253, pos := "shared.go:28", after := #[], guard := none }) (v := ?v237) rfl (by kernel_rfl) (by kernel_rfl) (by kernel_rfl) (fun _ _ _ h => h) (Or.inl ⟨by rfl, ?hy237⟩) (by assumption) ?rest237
        case hy237 => (intro w hSw; (try dsimp only at hSw); go_simp; (try with_reducible rfl))
        (try go_frame)
        refine wpAnyH_take (i := 8) (oi := { dst := some 56, op := Go.Op.load 253 (Go.Operand.tmp 8), type := 253, pos := "shared.go:28", after := #[], guard := none }) (v := ?v238) rfl (by kernel_rfl) (by kernel_rfl) (by kernel_rfl) (fun _ _ _ h => h) (Or.inl ⟨by rfl, ?hy238⟩) (by assumption) ?rest238
        case hy238 => (intro w hSw; (try dsimp only at hSw); go_simp; (try with_reducible rfl))
        (try go_frame)
        refine wpAnyH_take (i := 9) (oi := { dst := some 57, op := Go.Op.build 255 #[(0, Go.Operand.tmp 55), (1, Go.Operand.tmp 56)], type := 255, pos := "shared.go:28", after := #[{ on := 7, ground := Go.Ground.data }, { on := 8, ground := Go.Ground.data }], guard := none }) (v := ?v239) rfl (by kernel_rfl) (by kernel_rfl) (by kernel_rfl) (fun _ _ _ h => h) (Or.inl ⟨by rfl, ?hy239⟩) (by assumption) ?rest239
        case hy239 => (intro w hSw; (try dsimp only at hSw); go_simp; (try with_reducible rfl))
        (try go_frame)
        refine wpAnyH_ready (rs := [10]) (by kernel_rfl) (by simp) ?_
        refine AllReadyH.cons (o := { dst := some 58, op := Go.Op.box 255 (Go.Operand.tmp 57), type := 324, pos := "shared.go:28", after := #[{ on := 9, ground := Go.Ground.data }], guard := none }) (by rfl) (fun K hK => ?_) AllReadyH.nil
        go_simp
        refine hK.out _ _ ?_ (fun hHeld => ?_)
        · (repeat' apply And.intro) <;> (first | exact cell_later (below_alloc _ _) hHeld.1 | exact cell_later (below_alloc _ _) hHeld.2.1 | exact cell_later (below_alloc _ _) hHeld.2.2 | exact cell_later (below_alloc _ _) hHeld.2.2.1 | exact cell_later (below_alloc _ _) hHeld.2.2.2)
        clear hK K
        (try go_frame)
        refine wpAnyH_ready (rs := [11]) (by kernel_rfl) (by simp) ?_
        refine AllReadyH.cons (o := { dst := some 59, op := Go.Op.call { callee := Go.Callee.value (Go.Operand.func 160), args := #[Go.Operand.tmp 54, Go.Operand.tmp 58], argTypes := #[327, 324] }, type := 0, pos := "shared.go:28", after := #[{ on := 6, ground := Go.Ground.data }, { on := 10, ground := Go.Ground.data }], guard := none }) (by rfl) (fun K hK => ?_) AllReadyH.nil
        go_simp
        refine (atomStore bP 1 W5.heap.size (.pointer none) ((edNew w4.heap.size).getD 0 undef) _ ?_ ?_ ?_).mono ?_
        · exact cell_later (Below.drew (below_alloc _ _)) hcP1
        · exact ((Below.drew (below_alloc W5 _)).frozen (p := ⟨bP, 1, none⟩) hltP).trans hfP1
        · exact (Row.new' (w := W5) (xs := edNew w4.heap.size) (t := 255) rfl).drew.cell_of rfl
        rintro e w6 ⟨rfl, hw6⟩
        have H6 := hide hw6
        clear hw6
        go_wp2_with fail
        refine hK.out _ _ ?_ (fun hHeld => ?_)
        · (rw [H6.out]; (repeat' apply And.intro) <;> (refine (World.cell?_setCell_far _ _ _ _ (by first | exact Ne.symm hneS | exact Ne.symm hneV)).trans ?_; first | exact hHeld.1 | exact hHeld.2.1 | exact hHeld.2.2 | exact hHeld.2.2.1 | exact hHeld.2.2.2))
        clear hK K
        (try go_frame)
        refine wpAnyH_done (by kernel_rfl) ?_ _
        (try go_wp2_with fail)
        go_ret
        have hfin := ShI.done HI.out hb4 HW5.out H6.out (by omega) (by omega) z3 (by omega) (by omega) (by omega) (by omega) (by omega) (by omega)
        exact ⟨bS, bTg, bAn, bP, bW, w4.heap.size, W5.heap.size, rfl, hfin.1.base (by omega), hb0.trans (hfin.2.mono (by omega))⟩

end Go.Proofs.YtefjhnhdagolhaaGreat.row
