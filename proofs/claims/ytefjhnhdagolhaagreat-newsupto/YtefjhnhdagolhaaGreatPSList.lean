import Derived.Test.YtefjhnhdagolhaaGreatPA
import Derived.Test.YtefjhnhdagolhaaGreatPTList
namespace Go.Proofs.YtefjhnhdagolhaaGreat.list
open Go.RowKit
attribute [local go_sem ↓] Go.wp_at_zero Go.wp_at_succ

theorem info_word : (Tryz.prog.info? 387).map (fun i => (i.zero, i.size, i.bytes)) = some (some (.agg #[.int .i64 0]), 1, 8) := by kernel_rfl
theorem info_words3 : (Tryz.prog.info? 388).map (fun i => (i.zero, i.size, i.bytes)) = some (some (.agg #[.int .i64 0, .int .i64 0, .int .i64 0]), 3, 24) := by kernel_rfl
theorem info_record : (Tryz.prog.info? 318).map (fun i => (i.zero, i.size, i.bytes)) = some (some (.agg #[.slice none 0 0, .pointer none]), 2, 32) := by kernel_rfl

/-- W and W + 2 n. -/
def tw (n : Nat) : Nat := (n + 15) / 16
def rwn (n : Nat) : Nat := (n + 15) / 16 + 2 * n

/-- While the records get their words: the first k have them. -/
def ShI (W0 : World) (bS bTg bAn bP n : Nat) (oT : TypeId) (ov : Value) (k : Nat) (bW : Nat → Nat) (w' : World) : Prop :=
  Row w' bS 310 [.int .i64 (n : Int), .iface oT ov, .slice (some ⟨bTg, 0, none⟩) (tw n) (tw n), .slice (some ⟨bAn, 0, none⟩) n n, .slice (some ⟨bP, 0, none⟩) (2 * n + 1) (2 * n + 1), .int .i64 0] ∧
  Row w' bTg 387 (zeros (.int .i64 0) (tw n)) ∧ Row w' bAn 388 (zeros (.int .i64 0) (n * 3)) ∧ Row w' bP 318 (poolAt (2 * n + 1) (rwn n) k bW) ∧
  (∀ r, r < k → Row w' (bW r) 387 (zeros (.int .i64 0) (rwn n)) ∧ bS < bW r) ∧ (∀ r s, r < s → s < k → bW r < bW s) ∧ Below W0.heap.size W0 w'

theorem ShI.next {W0 : World} {bS bTg bAn bP n : Nat} {oT : TypeId} {ov : Value} {k : Nat} {bW : Nat → Nat} {w' w3 : World} (h : ShI W0 bS bTg bAn bP n oT ov k bW w') (hb : Below w'.heap.size w' w3)
    (z3 : W0.heap.size ≤ bP) (z5 : bTg ≠ bP) (z6 : bAn ≠ bP) (z9 : bP < bS) :
    ShI W0 bS bTg bAn bP n oT ov (k + 1) (fun r => if r = k then w3.heap.size else bW r) ((w3.alloc (.cells (zeros (.int .i64 0) (rwn n)).toArray 387)).setCell ⟨bP, 2 * k, none⟩ (.slice (some ⟨w3.heap.size, 0, none⟩) (rwn n) (rwn n))) := by
  obtain ⟨hS, hTg, hAn, hP, hW, hI, hB⟩ := h
  have hz := hb.size
  have hlP := hP.lt
  have hlS := hS.lt
  refine ⟨((hS.old hb).alloc _).setOther (by simp; omega) _, ((hTg.old hb).alloc _).setOther z5 _, ((hAn.old hb).alloc _).setOther z6 _, ?_, ?_, ?_, ?_⟩
  · rw [← poolAt_set]; exact ((hP.old hb).alloc _).set _ _
  · intro r hr
    by_cases e : r = k
    · subst e
      simp only [if_true]
      exact ⟨(Row.new' rfl).setOther (by simp; omega) _, by omega⟩
    · simp only [if_neg e]
      obtain ⟨h1, h2⟩ := hW r (by omega)
      exact ⟨((h1.old hb).alloc _).setOther (by simp; omega) _, h2⟩
  · intro r s h1 h2
    by_cases e : s = k
    · subst e
      have hr := (hW r h1).1.lt
      simp only [if_true, if_neg (show ¬ r = s by omega)]
      omega
    · simp only [if_neg e, if_neg (show ¬ r = k by omega)]
      exact hI r s h1 (by omega)
  · exact (Below.alloc (Below.next hB hb hB.size) (Nat.le_trans hB.size hz) _).setCell z3 _

/-- The cells of the first edition. -/
def edNew (bB : Nat) : List Value := [.pointer none] ++ [.pointer (some ⟨bB, 0, none⟩)] ++ [.pointer none] ++ [.pointer (some ⟨bB, 0, none⟩)]
/-- What the threads share, of a new object. -/
def ShNew (base bS bTg bAn bP n : Nat) (oT : TypeId) (ov : Value) (bW : Nat → Nat) (bB bE : Nat) (w' : World) : Prop :=
  Row w' bS 310 [.int .i64 (n : Int), .iface oT ov, .slice (some ⟨bTg, 0, none⟩) (tw n) (tw n), .slice (some ⟨bAn, 0, none⟩) n n, .slice (some ⟨bP, 0, none⟩) (2 * n + 1) (2 * n + 1), .int .i64 0] ∧
  Row w' bTg 387 (zeros (.int .i64 0) (tw n)) ∧ Row w' bAn 388 (zeros (.int .i64 0) (n * 3)) ∧ Row w' bP 318 ((poolAt (2 * n + 1) (rwn n) (2 * n + 1) bW).set 1 (.pointer (some ⟨bE, 0, none⟩))) ∧
  (∀ r, r < 2 * n + 1 → Row w' (bW r) 387 (zeros (.int .i64 0) (rwn n)) ∧ bS < bW r ∧ bW r < bB) ∧ (∀ r s, r < s → s < 2 * n + 1 → bW r < bW s) ∧
  Row w' bB 306 [.int .i64 0, .slice none 0 0, .pointer none] ∧ Row w' bE 241 (edNew bB) ∧
  base ≤ bTg ∧ base ≤ bAn ∧ base ≤ bP ∧ bTg ≠ bAn ∧ bTg ≠ bP ∧ bAn ≠ bP ∧ bTg < bS ∧ bAn < bS ∧ bP < bS ∧ bB < bE

theorem ShNew.base {base base' bS bTg bAn bP n : Nat} {oT : TypeId} {ov : Value} {bW : Nat → Nat} {bB bE : Nat} {w' : World} (h : ShNew base bS bTg bAn bP n oT ov bW bB bE w') (hb : base' ≤ base) : ShNew base' bS bTg bAn bP n oT ov bW bB bE w' := by
  obtain ⟨a1, a2, a3, a4, a5, a6, a7, a8, z1, z2, z3, z⟩ := h
  exact ⟨a1, a2, a3, a4, a5, a6, a7, a8, by omega, by omega, by omega, z⟩

theorem ShI.done {W0 : World} {bS bTg bAn bP n : Nat} {oT : TypeId} {ov : Value} {bW : Nat → Nat} {wr w4 W5 w6 : World} {vs : List Value} (h : ShI W0 bS bTg bAn bP n oT ov (2 * n + 1) bW wr) (hb4 : Below wr.heap.size wr w4)
    (h5 : W5 = (w4.alloc (.cells [Value.int .i64 0, .slice none 0 0, .pointer none].toArray 306)).alloc (.cells vs.toArray 239))
    (h6 : w6 = (W5.alloc (.cells (edNew w4.heap.size).toArray 241)).drew.setCell ⟨bP, 1, none⟩ (.pointer (some ⟨W5.heap.size, 0, none⟩)))
    (z1 : W0.heap.size ≤ bTg) (z2 : W0.heap.size ≤ bAn) (z3 : W0.heap.size ≤ bP) (z4 : bTg ≠ bAn) (z5 : bTg ≠ bP) (z6 : bAn ≠ bP) (z7 : bTg < bS) (z8 : bAn < bS) (z9 : bP < bS) :
    ShNew W0.heap.size bS bTg bAn bP n oT ov bW w4.heap.size W5.heap.size w6 ∧ Below W0.heap.size W0 w6 := by
  obtain ⟨hS, hTg, hAn, hP, hW, hI, hB⟩ := h
  have hz := hb4.size
  have hlP := hP.lt
  have hlS := hS.lt
  have hs5 : W5.heap.size = w4.heap.size + 2 := by rw [h5]; simp
  have hb5 : Below w4.heap.size w4 W5 := by rw [h5]; exact ((Below.refl _ _).alloc (Nat.le_refl _) _).alloc (by simp) _
  have hbB : Row W5 w4.heap.size 306 [.int .i64 0, .slice none 0 0, .pointer none] := by rw [h5]; exact (Row.new' rfl).alloc _
  have old : ∀ {g : Nat} {t : TypeId} {xs : List Value}, Row wr g t xs → g ≠ bP → Row w6 g t xs := fun {g t xs} hr hne => by
    rw [h6]; exact Row.setOther (a := ⟨bP, 1, none⟩) (Row.alloc ((hr.old hb4).old hb5) _).drew hne _
  refine ⟨⟨old hS (by omega), old hTg z5, old hAn z6, ?_, ?_, hI, ?_, ?_, z1, z2, z3, z4, z5, z6, z7, z8, z9, by omega⟩, ?_⟩
  · rw [h6]; exact (Row.alloc ((hP.old hb4).old hb5) _).drew.set _ _
  · intro r hr
    obtain ⟨h1, h2⟩ := hW r hr
    have := h1.lt
    exact ⟨old h1 (by omega), h2, by omega⟩
  · rw [h6]; exact Row.setOther (a := ⟨bP, 1, none⟩) (Row.alloc hbB _).drew (by simp; omega) _
  · rw [h6]; exact Row.setOther (a := ⟨bP, 1, none⟩) (Row.new' (w := W5) rfl).drew (by simp; omega) _
  · rw [h6]
    have hq : Below W0.heap.size W0 W5 := Below.next (Below.next hB hb4 hB.size) hb5 (Nat.le_trans hB.size hz)
    exact (Below.alloc hq hq.size _).drew.setCell z3 _

set_option maxRecDepth 20000 in
set_option maxHeartbeats 4000000 in
theorem newShared_any (oT : TypeId) (ov : Value) (fF : Nat) (rv : Value) (hm : ∀ w, (method 553 oT ov "First").run Tryz.prog w = .ok (fF, rv) w) (hcf : ∀ w, (callFunc fF #[rv]).run Tryz.prog w = .ok (.enter fF #[rv]) w)
    (hF : ∀ w, Calls Tryz.prog fF #[rv] w fun e w' => e = .returned (.pointer none) ∧ Below w.heap.size w w') (n : Nat) (w : World) (_h0 : 1 ≤ n) (_h1 : n ≤ 64) :
    Calls Tryz.prog 135 #[.iface oT ov, .int .i64 (n : Int)] w fun e w' => ∃ bS bTg bAn bP bW bB bE, e = .returned (.pointer (some ⟨bS, 0, none⟩)) ∧ ShNew w.heap.size bS bTg bAn bP n oT ov bW bB bE w' ∧ Below w.heap.size w w' := by
  have hmkW := run_make_rep (P := Tryz.prog) 288 387 (.agg #[.int .i64 0]) 1 8 [.int .i64 0] Tryz.underlying288 info_word rfl (by decide) (((n : Int) + 15) / 16) (tw n) (by unfold tw; omega) (by unfold tw; omega) (by unfold tw; omega)
  have hmkR := run_make_rep (P := Tryz.prog) 288 387 (.agg #[.int .i64 0]) 1 8 [.int .i64 0] Tryz.underlying288 info_word rfl (by decide) (((n : Int) + 15) / 16 + 2 * (n : Int)) (rwn n) (by unfold rwn; omega) (by unfold rwn; omega) (by unfold rwn; omega)
  have hmkA := run_make_rep (P := Tryz.prog) 289 388 (.agg #[.int .i64 0, .int .i64 0, .int .i64 0]) 3 24 [.int .i64 0, .int .i64 0, .int .i64 0] Tryz.underlying289 info_words3 rfl (by decide) (n : Int) n (by omega) (by omega) (by omega)
  have hmkP := run_make_rep (P := Tryz.prog) 308 318 (.agg #[.slice none 0 0, .pointer none]) 2 32 [.slice none 0 0, .pointer none] Tryz.underlying308 info_record rfl (by decide) (2 * (n : Int) + 1) (2 * n + 1) (by omega) (by omega) (by omega)
  rw [rep_one] at hmkW hmkR
  rw [rep_three] at hmkA
  have hw1 : IntKind.i64.wrap (2 * (n : Int)) = 2 * (n : Int) := wrapi _ (by omega) (by omega)
  have hw2 : IntKind.i64.wrap (2 * (n : Int) + 1) = 2 * (n : Int) + 1 := wrapi _ (by omega) (by omega)
  have HF := hide hF
  clear hF
  go_enter Tryz.func135, Tryz.ntmps135
  go_wp2
  generalize hW0 : World.alloc w _ = W0
  have hb0 : Below w.heap.size w W0 := by rw [← hW0]; exact below_alloc w _
  have hs0 : w.heap.size < W0.heap.size := by rw [← hW0]; simp
  have hc0 : W0.cell? ⟨w.heap.size, 0, none⟩ = some (.int .i64 (n : Int)) := by rw [← hW0]; exact (Row.new w [_] 287).cell_of rfl
  clear hW0
  go_cut [6] (fun s w' => ∃ bS bTg bAn bP, s = .pointer (some ⟨bS, 0, none⟩) ∧
    Row w' bS 310 [.int .i64 (n : Int), .iface oT ov, .slice (some ⟨bTg, 0, none⟩) (tw n) (tw n), .slice (some ⟨bAn, 0, none⟩) n n, .slice (some ⟨bP, 0, none⟩) (2 * n + 1) (2 * n + 1), .int .i64 0] ∧
    Below W0.heap.size W0 w' ∧ W0.heap.size ≤ bTg ∧ W0.heap.size ≤ bAn ∧ W0.heap.size ≤ bP ∧ bTg ≠ bAn ∧ bTg ≠ bP ∧ bAn ≠ bP ∧ bTg < bS ∧ bAn < bS ∧ bP < bS ∧
    Row w' bTg 387 (zeros (.int .i64 0) (tw n)) ∧ Row w' bAn 388 (zeros (.int .i64 0) (n * 3)) ∧ Row w' bP 318 (rep [.slice none 0 0, .pointer none] ((2 * n + 1) * 2)))
  case first =>
    refine wp_region_held_drew (S := (fun w' => Below W0.heap.size W0 w' ∧ w'.cell? ⟨w.heap.size, 0, none⟩ = some (.int .i64 (n : Int)))) (by kernel_rfl) ?_ (fun hHeld => ?_)
    · exact ⟨Below.drew (Below.refl _ _), hc0⟩
    refine wpAnyH_take (i := 0) (oi := { dst := some 11, op := Go.Op.load 287 (Go.Operand.tmp 5), type := 287, pos := "shared.go:17", after := #[], guard := none }) (v := ?v142) rfl (by kernel_rfl) (by kernel_rfl) (by kernel_rfl) (fun _ _ _ h => h) (Or.inl ⟨by rfl, ?hy142⟩) (by assumption) ?rest142
    case hy142 => (intro w hSw; (try dsimp only at hSw); go_simp; (try with_reducible rfl))
    (try go_frame)
    refine wpAnyH_take (i := 1) (oi := { dst := some 12, op := Go.Op.move (Go.Operand.tmp 0), type := 186, pos := "shared.go:17", after := #[], guard := none }) (v := ?v143) rfl (by kernel_rfl) (by kernel_rfl) (by kernel_rfl) (fun _ _ _ h => h) (Or.inl ⟨by rfl, ?hy143⟩) (by assumption) ?rest143
    case hy143 => (intro w hSw; (try dsimp only at hSw); go_simp; (try with_reducible rfl))
    (try go_frame)
    refine wpAnyH_take (i := 2) (oi := { dst := some 13, op := Go.Op.load 287 (Go.Operand.tmp 5), type := 287, pos := "shared.go:17", after := #[], guard := none }) (v := ?v144) rfl (by kernel_rfl) (by kernel_rfl) (by kernel_rfl) (fun _ _ _ h => h) (Or.inl ⟨by rfl, ?hy144⟩) (by assumption) ?rest144
    case hy144 => (intro w hSw; (try dsimp only at hSw); go_simp; (try with_reducible rfl))
    (try go_frame)
    refine wpAnyH_take (i := 5) (oi := { dst := some 16, op := Go.Op.move (Go.Operand.tmp 1), type := 3, pos := "shared.go:17", after := #[], guard := none }) (v := ?v145) rfl (by kernel_rfl) (by kernel_rfl) (by kernel_rfl) (fun _ _ _ h => h) (Or.inl ⟨by rfl, ?hy145⟩) (by assumption) ?rest145
    case hy145 => (intro w hSw; (try dsimp only at hSw); go_simp; (try with_reducible rfl))
    (try go_frame)
    refine wpAnyH_take (i := 7) (oi := { dst := some 18, op := Go.Op.move (Go.Operand.tmp 1), type := 3, pos := "shared.go:17", after := #[], guard := none }) (v := ?v146) rfl (by kernel_rfl) (by kernel_rfl) (by kernel_rfl) (fun _ _ _ h => h) (Or.inl ⟨by rfl, ?hy146⟩) (by assumption) ?rest146
    case hy146 => (intro w hSw; (try dsimp only at hSw); go_simp; (try with_reducible rfl))
    (try go_frame)
    refine wpAnyH_take (i := 8) (oi := { dst := some 19, op := Go.Op.binOp Go.BinOp.mul 3 (Go.Operand.const (Go.Value.int Go.IntKind.i64 2)) (Go.Operand.tmp 18) 3, type := 3, pos := "shared.go:17", after := #[{ on := 7, ground := Go.Ground.data }], guard := none }) (v := ?v147) rfl (by kernel_rfl) (by kernel_rfl) (by kernel_rfl) (fun _ _ _ h => h) (Or.inl ⟨by rfl, ?hy147⟩) (by assumption) ?rest147
    case hy147 => (intro w hSw; (try dsimp only at hSw); go_simp; (try with_reducible rfl))
    (try go_frame)
    refine wpAnyH_take (i := 9) (oi := { dst := some 20, op := Go.Op.binOp Go.BinOp.add 3 (Go.Operand.tmp 19) (Go.Operand.const (Go.Value.int Go.IntKind.i64 1)) 3, type := 3, pos := "shared.go:17", after := #[{ on := 8, ground := Go.Ground.data }], guard := none }) (v := ?v148) rfl (by kernel_rfl) (by kernel_rfl) (by kernel_rfl) (fun _ _ _ h => h) (Or.inl ⟨by rfl, ?hy148⟩) (by assumption) ?rest148
    case hy148 => (intro w hSw; (try dsimp only at hSw); go_simp; (try with_reducible rfl))
    (try go_frame)
    refine wpAnyH_ready (rs := [3, 6, 10]) (by kernel_rfl) (by simp) ?_
    refine AllReadyH.cons (o := { dst := some 14, op := Go.Op.call { callee := Go.Callee.value (Go.Operand.func 156), args := #[Go.Operand.tmp 13], argTypes := #[287] }, type := 3, pos := "shared.go:20", after := #[{ on := 2, ground := Go.Ground.data }], guard := none }) (by rfl) (fun K hK => ?_) (AllReadyH.cons (o := { dst := some 17, op := Go.Op.makeSlice 289 (Go.Operand.tmp 16) (Go.Operand.tmp 16), type := 289, pos := "shared.go:17", after := #[{ on := 5, ground := Go.Ground.data }, { on := 5, ground := Go.Ground.data }], guard := none }) (by rfl) (fun K hK => ?_) (AllReadyH.cons (o := { dst := some 21, op := Go.Op.makeSlice 308 (Go.Operand.tmp 20) (Go.Operand.tmp 20), type := 308, pos := "shared.go:17", after := #[{ on := 9, ground := Go.Ground.data }, { on := 9, ground := Go.Ground.data }], guard := none }) (by rfl) (fun K hK => ?_) AllReadyH.nil))
    · go_simp
      refine (toggleWords_any (n : Int) _ (by omega) (by omega)).mono ?_
      rintro e w2 ⟨rfl, hb2⟩
      have hz2 := hb2.size
      (try simp at hz2)
      go_wp2_with fail
      refine hK.out _ _ ?_ (fun hHeld => ?_)
      · exact ⟨Below.next hHeld.1 hb2 hHeld.1.size, cell_later hb2 hHeld.2⟩
      clear hK K
      (try go_frame)
      refine wpAnyH_ready (rs := [4, 6, 10]) (by kernel_rfl) (by simp) ?_
      refine AllReadyH.cons (o := { dst := some 15, op := Go.Op.makeSlice 288 (Go.Operand.tmp 14) (Go.Operand.tmp 14), type := 288, pos := "shared.go:17", after := #[{ on := 3, ground := Go.Ground.data }, { on := 3, ground := Go.Ground.data }], guard := none }) (by rfl) (fun K hK => ?_) (AllReadyH.cons (o := { dst := some 17, op := Go.Op.makeSlice 289 (Go.Operand.tmp 16) (Go.Operand.tmp 16), type := 289, pos := "shared.go:17", after := #[{ on := 5, ground := Go.Ground.data }, { on := 5, ground := Go.Ground.data }], guard := none }) (by rfl) (fun K hK => ?_) (AllReadyH.cons (o := { dst := some 21, op := Go.Op.makeSlice 308 (Go.Operand.tmp 20) (Go.Operand.tmp 20), type := 308, pos := "shared.go:17", after := #[{ on := 9, ground := Go.Ground.data }, { on := 9, ground := Go.Ground.data }], guard := none }) (by rfl) (fun K hK => ?_) AllReadyH.nil))
      · go_simp
        refine hK.out _ _ ?_ (fun hHeld => ?_)
        · exact ⟨hHeld.1.alloc hHeld.1.size _, cell_later (below_alloc _ _) hHeld.2⟩
        clear hK K
        (try go_frame)
        refine wpAnyH_ready (rs := [6, 10]) (by kernel_rfl) (by simp) ?_
        refine AllReadyH.cons (o := { dst := some 17, op := Go.Op.makeSlice 289 (Go.Operand.tmp 16) (Go.Operand.tmp 16), type := 289, pos := "shared.go:17", after := #[{ on := 5, ground := Go.Ground.data }, { on := 5, ground := Go.Ground.data }], guard := none }) (by rfl) (fun K hK => ?_) (AllReadyH.cons (o := { dst := some 21, op := Go.Op.makeSlice 308 (Go.Operand.tmp 20) (Go.Operand.tmp 20), type := 308, pos := "shared.go:17", after := #[{ on := 9, ground := Go.Ground.data }, { on := 9, ground := Go.Ground.data }], guard := none }) (by rfl) (fun K hK => ?_) AllReadyH.nil)
        · go_simp
          refine hK.out _ _ ?_ (fun hHeld => ?_)
          · exact ⟨hHeld.1.alloc hHeld.1.size _, cell_later (below_alloc _ _) hHeld.2⟩
          clear hK K
          (try go_frame)
          refine wpAnyH_ready (rs := [10]) (by kernel_rfl) (by simp) ?_
          refine AllReadyH.cons (o := { dst := some 21, op := Go.Op.makeSlice 308 (Go.Operand.tmp 20) (Go.Operand.tmp 20), type := 308, pos := "shared.go:17", after := #[{ on := 9, ground := Go.Ground.data }, { on := 9, ground := Go.Ground.data }], guard := none }) (by rfl) (fun K hK => ?_) AllReadyH.nil
          go_simp
          refine hK.out _ _ ?_ (fun hHeld => ?_)
          · exact ⟨hHeld.1.alloc hHeld.1.size _, cell_later (below_alloc _ _) hHeld.2⟩
          clear hK K
          (try go_frame)
          refine wpAnyH_take (i := 11) (oi := { dst := some 22, op := Go.Op.build 310 #[(0, Go.Operand.tmp 11), (1, Go.Operand.tmp 12), (2, Go.Operand.tmp 15), (3, Go.Operand.tmp 17), (4, Go.Operand.tmp 21)], type := 310, pos := "shared.go:17", after := #[{ on := 0, ground := Go.Ground.data }, { on := 1, ground := Go.Ground.data }, { on := 4, ground := Go.Ground.data }, { on := 6, ground := Go.Ground.data }, { on := 10, ground := Go.Ground.data }], guard := none }) (v := ?v149) rfl (by kernel_rfl) (by kernel_rfl) (by kernel_rfl) (fun _ _ _ h => h) (Or.inl ⟨by rfl, ?hy149⟩) (by assumption) ?rest149
          case hy149 => (intro w hSw; (try dsimp only at hSw); go_simp; (try with_reducible rfl))
          (try go_frame)
          refine wpAnyH_ready (rs := [12]) (by kernel_rfl) (by simp) ?_
          refine AllReadyH.cons (o := { dst := some 23, op := Go.Op.box 310 (Go.Operand.tmp 22), type := 233, pos := "shared.go:17", after := #[{ on := 11, ground := Go.Ground.data }], guard := none }) (by rfl) (fun K hK => ?_) AllReadyH.nil
          go_simp
          refine hK.out _ _ ?_ (fun hHeld => ?_)
          · exact ⟨hHeld.1.alloc hHeld.1.size _, cell_later (below_alloc _ _) hHeld.2⟩
          clear hK K
          (try go_frame)
          refine wpAnyH_take (i := 13) (oi := { dst := some 6, op := Go.Op.assign (Go.Operand.tmp 23), type := 233, pos := "shared.go:17", after := #[{ on := 12, ground := Go.Ground.data }, { on := 3, ground := Go.Ground.chain }, { on := 0, ground := Go.Ground.phase }, { on := 1, ground := Go.Ground.phase }, { on := 2, ground := Go.Ground.phase }, { on := 3, ground := Go.Ground.phase }, { on := 4, ground := Go.Ground.phase }, { on := 5, ground := Go.Ground.phase }, { on := 6, ground := Go.Ground.phase }, { on := 7, ground := Go.Ground.phase }, { on := 8, ground := Go.Ground.phase }, { on := 9, ground := Go.Ground.phase }, { on := 10, ground := Go.Ground.phase }, { on := 11, ground := Go.Ground.phase }, { on := 12, ground := Go.Ground.phase }], guard := none }) (v := ?v150) rfl (by kernel_rfl) (by kernel_rfl) (by kernel_rfl) (fun _ _ _ h => h) (Or.inl ⟨by rfl, ?hy150⟩) (by assumption) ?rest150
          case hy150 => (intro w hSw; (try dsimp only at hSw); go_simp; (try with_reducible rfl))
          (try go_frame)
          refine wpAnyH_done (by kernel_rfl) ?_ _
          (try go_wp2_with fail)
          go_meet
          case rel =>
            refine ⟨_, _, _, _, rfl, Row.new' (by simp), hHeld.1, ?_⟩
            (refine ⟨?_, ?_, ?_, ?_, ?_, ?_, ?_, ?_, ?_, ?_, ?_, ?_⟩) <;> first | (simp; omega) | omega | (repeat (first | exact Row.new' (by simp) | refine Row.alloc ?_ _ | refine Row.old ?_ hb2))
        · go_simp
          refine hK.out _ _ ?_ (fun hHeld => ?_)
          · exact ⟨hHeld.1.alloc hHeld.1.size _, cell_later (below_alloc _ _) hHeld.2⟩
          clear hK K
          (try go_frame)
          refine wpAnyH_ready (rs := [6]) (by kernel_rfl) (by simp) ?_
          refine AllReadyH.cons (o := { dst := some 17, op := Go.Op.makeSlice 289 (Go.Operand.tmp 16) (Go.Operand.tmp 16), type := 289, pos := "shared.go:17", after := #[{ on := 5, ground := Go.Ground.data }, { on := 5, ground := Go.Ground.data }], guard := none }) (by rfl) (fun K hK => ?_) AllReadyH.nil
          go_simp
          refine hK.out _ _ ?_ (fun hHeld => ?_)
          · exact ⟨hHeld.1.alloc hHeld.1.size _, cell_later (below_alloc _ _) hHeld.2⟩
          clear hK K
          (try go_frame)
          refine wpAnyH_take (i := 11) (oi := { dst := some 22, op := Go.Op.build 310 #[(0, Go.Operand.tmp 11), (1, Go.Operand.tmp 12), (2, Go.Operand.tmp 15), (3, Go.Operand.tmp 17), (4, Go.Operand.tmp 21)], type := 310, pos := "shared.go:17", after := #[{ on := 0, ground := Go.Ground.data }, { on := 1, ground := Go.Ground.data }, { on := 4, ground := Go.Ground.data }, { on := 6, ground := Go.Ground.data }, { on := 10, ground := Go.Ground.data }], guard := none }) (v := ?v151) rfl (by kernel_rfl) (by kernel_rfl) (by kernel_rfl) (fun _ _ _ h => h) (Or.inl ⟨by rfl, ?hy151⟩) (by assumption) ?rest151
          case hy151 => (intro w hSw; (try dsimp only at hSw); go_simp; (try with_reducible rfl))
          (try go_frame)
          refine wpAnyH_ready (rs := [12]) (by kernel_rfl) (by simp) ?_
          refine AllReadyH.cons (o := { dst := some 23, op := Go.Op.box 310 (Go.Operand.tmp 22), type := 233, pos := "shared.go:17", after := #[{ on := 11, ground := Go.Ground.data }], guard := none }) (by rfl) (fun K hK => ?_) AllReadyH.nil
          go_simp
          refine hK.out _ _ ?_ (fun hHeld => ?_)
          · exact ⟨hHeld.1.alloc hHeld.1.size _, cell_later (below_alloc _ _) hHeld.2⟩
          clear hK K
          (try go_frame)
          refine wpAnyH_take (i := 13) (oi := { dst := some 6, op := Go.Op.assign (Go.Operand.tmp 23), type := 233, pos := "shared.go:17", after := #[{ on := 12, ground := Go.Ground.data }, { on := 3, ground := Go.Ground.chain }, { on := 0, ground := Go.Ground.phase }, { on := 1, ground := Go.Ground.phase }, { on := 2, ground := Go.Ground.phase }, { on := 3, ground := Go.Ground.phase }, { on := 4, ground := Go.Ground.phase }, { on := 5, ground := Go.Ground.phase }, { on := 6, ground := Go.Ground.phase }, { on := 7, ground := Go.Ground.phase }, { on := 8, ground := Go.Ground.phase }, { on := 9, ground := Go.Ground.phase }, { on := 10, ground := Go.Ground.phase }, { on := 11, ground := Go.Ground.phase }, { on := 12, ground := Go.Ground.phase }], guard := none }) (v := ?v152) rfl (by kernel_rfl) (by kernel_rfl) (by kernel_rfl) (fun _ _ _ h => h) (Or.inl ⟨by rfl, ?hy152⟩) (by assumption) ?rest152
          case hy152 => (intro w hSw; (try dsimp only at hSw); go_simp; (try with_reducible rfl))
          (try go_frame)
          refine wpAnyH_done (by kernel_rfl) ?_ _
          (try go_wp2_with fail)
          go_meet
          case rel =>
            refine ⟨_, _, _, _, rfl, Row.new' (by simp), hHeld.1, ?_⟩
            (refine ⟨?_, ?_, ?_, ?_, ?_, ?_, ?_, ?_, ?_, ?_, ?_, ?_⟩) <;> first | (simp; omega) | omega | (repeat (first | exact Row.new' (by simp) | refine Row.alloc ?_ _ | refine Row.old ?_ hb2))
      · go_simp
        refine hK.out _ _ ?_ (fun hHeld => ?_)
        · exact ⟨hHeld.1.alloc hHeld.1.size _, cell_later (below_alloc _ _) hHeld.2⟩
        clear hK K
        (try go_frame)
        refine wpAnyH_ready (rs := [4, 10]) (by kernel_rfl) (by simp) ?_
        refine AllReadyH.cons (o := { dst := some 15, op := Go.Op.makeSlice 288 (Go.Operand.tmp 14) (Go.Operand.tmp 14), type := 288, pos := "shared.go:17", after := #[{ on := 3, ground := Go.Ground.data }, { on := 3, ground := Go.Ground.data }], guard := none }) (by rfl) (fun K hK => ?_) (AllReadyH.cons (o := { dst := some 21, op := Go.Op.makeSlice 308 (Go.Operand.tmp 20) (Go.Operand.tmp 20), type := 308, pos := "shared.go:17", after := #[{ on := 9, ground := Go.Ground.data }, { on := 9, ground := Go.Ground.data }], guard := none }) (by rfl) (fun K hK => ?_) AllReadyH.nil)
        · go_simp
          refine hK.out _ _ ?_ (fun hHeld => ?_)
          · exact ⟨hHeld.1.alloc hHeld.1.size _, cell_later (below_alloc _ _) hHeld.2⟩
          clear hK K
          (try go_frame)
          refine wpAnyH_ready (rs := [10]) (by kernel_rfl) (by simp) ?_
          refine AllReadyH.cons (o := { dst := some 21, op := Go.Op.makeSlice 308 (Go.Operand.tmp 20) (Go.Operand.tmp 20), type := 308, pos := "shared.go:17", after := #[{ on := 9, ground := Go.Ground.data }, { on := 9, ground := Go.Ground.data }], guard := none }) (by rfl) (fun K hK => ?_) AllReadyH.nil
          go_simp
          refine hK.out _ _ ?_ (fun hHeld => ?_)
          · exact ⟨hHeld.1.alloc hHeld.1.size _, cell_later (below_alloc _ _) hHeld.2⟩
          clear hK K
          (try go_frame)
          refine wpAnyH_take (i := 11) (oi := { dst := some 22, op := Go.Op.build 310 #[(0, Go.Operand.tmp 11), (1, Go.Operand.tmp 12), (2, Go.Operand.tmp 15), (3, Go.Operand.tmp 17), (4, Go.Operand.tmp 21)], type := 310, pos := "shared.go:17", after := #[{ on := 0, ground := Go.Ground.data }, { on := 1, ground := Go.Ground.data }, { on := 4, ground := Go.Ground.data }, { on := 6, ground := Go.Ground.data }, { on := 10, ground := Go.Ground.data }], guard := none }) (v := ?v153) rfl (by kernel_rfl) (by kernel_rfl) (by kernel_rfl) (fun _ _ _ h => h) (Or.inl ⟨by rfl, ?hy153⟩) (by assumption) ?rest153
          case hy153 => (intro w hSw; (try dsimp only at hSw); go_simp; (try with_reducible rfl))
          (try go_frame)
          refine wpAnyH_ready (rs := [12]) (by kernel_rfl) (by simp) ?_
          refine AllReadyH.cons (o := { dst := some 23, op := Go.Op.box 310 (Go.Operand.tmp 22), type := 233, pos := "shared.go:17", after := #[{ on := 11, ground := Go.Ground.data }], guard := none }) (by rfl) (fun K hK => ?_) AllReadyH.nil
          go_simp
          refine hK.out _ _ ?_ (fun hHeld => ?_)
          · exact ⟨hHeld.1.alloc hHeld.1.size _, cell_later (below_alloc _ _) hHeld.2⟩
          clear hK K
          (try go_frame)
          refine wpAnyH_take (i := 13) (oi := { dst := some 6, op := Go.Op.assign (Go.Operand.tmp 23), type := 233, pos := "shared.go:17", after := #[{ on := 12, ground := Go.Ground.data }, { on := 3, ground := Go.Ground.chain }, { on := 0, ground := Go.Ground.phase }, { on := 1, ground := Go.Ground.phase }, { on := 2, ground := Go.Ground.phase }, { on := 3, ground := Go.Ground.phase }, { on := 4, ground := Go.Ground.phase }, { on := 5, ground := Go.Ground.phase }, { on := 6, ground := Go.Ground.phase }, { on := 7, ground := Go.Ground.phase }, { on := 8, ground := Go.Ground.phase }, { on := 9, ground := Go.Ground.phase }, { on := 10, ground := Go.Ground.phase }, { on := 11, ground := Go.Ground.phase }, { on := 12, ground := Go.Ground.phase }], guard := none }) (v := ?v154) rfl (by kernel_rfl) (by kernel_rfl) (by kernel_rfl) (fun _ _ _ h => h) (Or.inl ⟨by rfl, ?hy154⟩) (by assumption) ?rest154
          case hy154 => (intro w hSw; (try dsimp only at hSw); go_simp; (try with_reducible rfl))
          (try go_frame)
          refine wpAnyH_done (by kernel_rfl) ?_ _
          (try go_wp2_with fail)
          go_meet
          case rel =>
            refine ⟨_, _, _, _, rfl, Row.new' (by simp), hHeld.1, ?_⟩
            (refine ⟨?_, ?_, ?_, ?_, ?_, ?_, ?_, ?_, ?_, ?_, ?_, ?_⟩) <;> first | (simp; omega) | omega | (repeat (first | exact Row.new' (by simp) | refine Row.alloc ?_ _ | refine Row.old ?_ hb2))
        · go_simp
          refine hK.out _ _ ?_ (fun hHeld => ?_)
          · exact ⟨hHeld.1.alloc hHeld.1.size _, cell_later (below_alloc _ _) hHeld.2⟩
          clear hK K
          (try go_frame)
          refine wpAnyH_ready (rs := [4]) (by kernel_rfl) (by simp) ?_
          refine AllReadyH.cons (o := { dst := some 15, op := Go.Op.makeSlice 288 (Go.Operand.tmp 14) (Go.Operand.tmp 14), type := 288, pos := "shared.go:17", after := #[{ on := 3, ground := Go.Ground.data }, { on := 3, ground := Go.Ground.data }], guard := none }) (by rfl) (fun K hK => ?_) AllReadyH.nil
          go_simp
          refine hK.out _ _ ?_ (fun hHeld => ?_)
          · exact ⟨hHeld.1.alloc hHeld.1.size _, cell_later (below_alloc _ _) hHeld.2⟩
          clear hK K
          (try go_frame)
          refine wpAnyH_take (i := 11) (oi := { dst := some 22, op := Go.Op.build 310 #[(0, Go.Operand.tmp 11), (1, Go.Operand.tmp 12), (2, Go.Operand.tmp 15), (3, Go.Operand.tmp 17), (4, Go.Operand.tmp 21)], type := 310, pos := "shared.go:17", after := #[{ on := 0, ground := Go.Ground.data }, { on := 1, ground := Go.Ground.data }, { on := 4, ground := Go.Ground.data }, { on := 6, ground := Go.Ground.data }, { on := 10, ground := Go.Ground.data }], guard := none }) (v := ?v155) rfl (by kernel_rfl) (by kernel_rfl) (by kernel_rfl) (fun _ _ _ h => h) (Or.inl ⟨by rfl, ?hy155⟩) (by assumption) ?rest155
          case hy155 => (intro w hSw; (try dsimp only at hSw); go_simp; (try with_reducible rfl))
          (try go_frame)
          refine wpAnyH_ready (rs := [12]) (by kernel_rfl) (by simp) ?_
          refine AllReadyH.cons (o := { dst := some 23, op := Go.Op.box 310 (Go.Operand.tmp 22), type := 233, pos := "shared.go:17", after := #[{ on := 11, ground := Go.Ground.data }], guard := none }) (by rfl) (fun K hK => ?_) AllReadyH.nil
          go_simp
          refine hK.out _ _ ?_ (fun hHeld => ?_)
          · exact ⟨hHeld.1.alloc hHeld.1.size _, cell_later (below_alloc _ _) hHeld.2⟩
          clear hK K
          (try go_frame)
          refine wpAnyH_take (i := 13) (oi := { dst := some 6, op := Go.Op.assign (Go.Operand.tmp 23), type := 233, pos := "shared.go:17", after := #[{ on := 12, ground := Go.Ground.data }, { on := 3, ground := Go.Ground.chain }, { on := 0, ground := Go.Ground.phase }, { on := 1, ground := Go.Ground.phase }, { on := 2, ground := Go.Ground.phase }, { on := 3, ground := Go.Ground.phase }, { on := 4, ground := Go.Ground.phase }, { on := 5, ground := Go.Ground.phase }, { on := 6, ground := Go.Ground.phase }, { on := 7, ground := Go.Ground.phase }, { on := 8, ground := Go.Ground.phase }, { on := 9, ground := Go.Ground.phase }, { on := 10, ground := Go.Ground.phase }, { on := 11, ground := Go.Ground.phase }, { on := 12, ground := Go.Ground.phase }], guard := none }) (v := ?v156) rfl (by kernel_rfl) (by kernel_rfl) (by kernel_rfl) (fun _ _ _ h => h) (Or.inl ⟨by rfl, ?hy156⟩) (by assumption) ?rest156
          case hy156 => (intro w hSw; (try dsimp only at hSw); go_simp; (try with_reducible rfl))
          (try go_frame)
          refine wpAnyH_done (by kernel_rfl) ?_ _
          (try go_wp2_with fail)
          go_meet
          case rel =>
            refine ⟨_, _, _, _, rfl, Row.new' (by simp), hHeld.1, ?_⟩
            (refine ⟨?_, ?_, ?_, ?_, ?_, ?_, ?_, ?_, ?_, ?_, ?_, ?_⟩) <;> first | (simp; omega) | omega | (repeat (first | exact Row.new' (by simp) | refine Row.alloc ?_ _ | refine Row.old ?_ hb2))
      · go_simp
        refine hK.out _ _ ?_ (fun hHeld => ?_)
        · exact ⟨hHeld.1.alloc hHeld.1.size _, cell_later (below_alloc _ _) hHeld.2⟩
        clear hK K
        (try go_frame)
        refine wpAnyH_ready (rs := [4, 6]) (by kernel_rfl) (by simp) ?_
        refine AllReadyH.cons (o := { dst := some 15, op := Go.Op.makeSlice 288 (Go.Operand.tmp 14) (Go.Operand.tmp 14), type := 288, pos := "shared.go:17", after := #[{ on := 3, ground := Go.Ground.data }, { on := 3, ground := Go.Ground.data }], guard := none }) (by rfl) (fun K hK => ?_) (AllReadyH.cons (o := { dst := some 17, op := Go.Op.makeSlice 289 (Go.Operand.tmp 16) (Go.Operand.tmp 16), type := 289, pos := "shared.go:17", after := #[{ on := 5, ground := Go.Ground.data }, { on := 5, ground := Go.Ground.data }], guard := none }) (by rfl) (fun K hK => ?_) AllReadyH.nil)
        · go_simp
          refine hK.out _ _ ?_ (fun hHeld => ?_)
          · exact ⟨hHeld.1.alloc hHeld.1.size _, cell_later (below_alloc _ _) hHeld.2⟩
          clear hK K
          (try go_frame)
          refine wpAnyH_ready (rs := [6]) (by kernel_rfl) (by simp) ?_
          refine AllReadyH.cons (o := { dst := some 17, op := Go.Op.makeSlice 289 (Go.Operand.tmp 16) (Go.Operand.tmp 16), type := 289, pos := "shared.go:17", after := #[{ on := 5, ground := Go.Ground.data }, { on := 5, ground := Go.Ground.data }], guard := none }) (by rfl) (fun K hK => ?_) AllReadyH.nil
          go_simp
          refine hK.out _ _ ?_ (fun hHeld => ?_)
          · exact ⟨hHeld.1.alloc hHeld.1.size _, cell_later (below_alloc _ _) hHeld.2⟩
          clear hK K
          (try go_frame)
          refine wpAnyH_take (i := 11) (oi := { dst := some 22, op := Go.Op.build 310 #[(0, Go.Operand.tmp 11), (1, Go.Operand.tmp 12), (2, Go.Operand.tmp 15), (3, Go.Operand.tmp 17), (4, Go.Operand.tmp 21)], type := 310, pos := "shared.go:17", after := #[{ on := 0, ground := Go.Ground.data }, { on := 1, ground := Go.Ground.data }, { on := 4, ground := Go.Ground.data }, { on := 6, ground := Go.Ground.data }, { on := 10, ground := Go.Ground.data }], guard := none }) (v := ?v157) rfl (by kernel_rfl) (by kernel_rfl) (by kernel_rfl) (fun _ _ _ h => h) (Or.inl ⟨by rfl, ?hy157⟩) (by assumption) ?rest157
          case hy157 => (intro w hSw; (try dsimp only at hSw); go_simp; (try with_reducible rfl))
          (try go_frame)
          refine wpAnyH_ready (rs := [12]) (by kernel_rfl) (by simp) ?_
          refine AllReadyH.cons (o := { dst := some 23, op := Go.Op.box 310 (Go.Operand.tmp 22), type := 233, pos := "shared.go:17", after := #[{ on := 11, ground := Go.Ground.data }], guard := none }) (by rfl) (fun K hK => ?_) AllReadyH.nil
          go_simp
          refine hK.out _ _ ?_ (fun hHeld => ?_)
          · exact ⟨hHeld.1.alloc hHeld.1.size _, cell_later (below_alloc _ _) hHeld.2⟩
          clear hK K
          (try go_frame)
          refine wpAnyH_take (i := 13) (oi := { dst := some 6, op := Go.Op.assign (Go.Operand.tmp 23), type := 233, pos := "shared.go:17", after := #[{ on := 12, ground := Go.Ground.data }, { on := 3, ground := Go.Ground.chain }, { on := 0, ground := Go.Ground.phase }, { on := 1, ground := Go.Ground.phase }, { on := 2, ground := Go.Ground.phase }, { on := 3, ground := Go.Ground.phase }, { on := 4, ground := Go.Ground.phase }, { on := 5, ground := Go.Ground.phase }, { on := 6, ground := Go.Ground.phase }, { on := 7, ground := Go.Ground.phase }, { on := 8, ground := Go.Ground.phase }, { on := 9, ground := Go.Ground.phase }, { on := 10, ground := Go.Ground.phase }, { on := 11, ground := Go.Ground.phase }, { on := 12, ground := Go.Ground.phase }], guard := none }) (v := ?v158) rfl (by kernel_rfl) (by kernel_rfl) (by kernel_rfl) (fun _ _ _ h => h) (Or.inl ⟨by rfl, ?hy158⟩) (by assumption) ?rest158
          case hy158 => (intro w hSw; (try dsimp only at hSw); go_simp; (try with_reducible rfl))
          (try go_frame)
          refine wpAnyH_done (by kernel_rfl) ?_ _
          (try go_wp2_with fail)
          go_meet
          case rel =>
            refine ⟨_, _, _, _, rfl, Row.new' (by simp), hHeld.1, ?_⟩
            (refine ⟨?_, ?_, ?_, ?_, ?_, ?_, ?_, ?_, ?_, ?_, ?_, ?_⟩) <;> first | (simp; omega) | omega | (repeat (first | exact Row.new' (by simp) | refine Row.alloc ?_ _ | refine Row.old ?_ hb2))
        · go_simp
          refine hK.out _ _ ?_ (fun hHeld => ?_)
          · exact ⟨hHeld.1.alloc hHeld.1.size _, cell_later (below_alloc _ _) hHeld.2⟩
          clear hK K
          (try go_frame)
          refine wpAnyH_ready (rs := [4]) (by kernel_rfl) (by simp) ?_
          refine AllReadyH.cons (o := { dst := some 15, op := Go.Op.makeSlice 288 (Go.Operand.tmp 14) (Go.Operand.tmp 14), type := 288, pos := "shared.go:17", after := #[{ on := 3, ground := Go.Ground.data }, { on := 3, ground := Go.Ground.data }], guard := none }) (by rfl) (fun K hK => ?_) AllReadyH.nil
          go_simp
          refine hK.out _ _ ?_ (fun hHeld => ?_)
          · exact ⟨hHeld.1.alloc hHeld.1.size _, cell_later (below_alloc _ _) hHeld.2⟩
          clear hK K
          (try go_frame)
          refine wpAnyH_take (i := 11) (oi := { dst := some 22, op := Go.Op.build 310 #[(0, Go.Operand.tmp 11), (1, Go.Operand.tmp 12), (2, Go.Operand.tmp 15), (3, Go.Operand.tmp 17), (4, Go.Operand.tmp 21)], type := 310, pos := "shared.go:17", after := #[{ on := 0, ground := Go.Ground.data }, { on := 1, ground := Go.Ground.data }, { on := 4, ground := Go.Ground.data }, { on := 6, ground := Go.Ground.data }, { on := 10, ground := Go.Ground.data }], guard := none }) (v := ?v159) rfl (by kernel_rfl) (by kernel_rfl) (by kernel_rfl) (fun _ _ _ h => h) (Or.inl ⟨by rfl, ?hy159⟩) (by assumption) ?rest159
          case hy159 => (intro w hSw; (try dsimp only at hSw); go_simp; (try with_reducible rfl))
          (try go_frame)
          refine wpAnyH_ready (rs := [12]) (by kernel_rfl) (by simp) ?_
          refine AllReadyH.cons (o := { dst := some 23, op := Go.Op.box 310 (Go.Operand.tmp 22), type := 233, pos := "shared.go:17", after := #[{ on := 11, ground := Go.Ground.data }], guard := none }) (by rfl) (fun K hK => ?_) AllReadyH.nil
          go_simp
          refine hK.out _ _ ?_ (fun hHeld => ?_)
          · exact ⟨hHeld.1.alloc hHeld.1.size _, cell_later (below_alloc _ _) hHeld.2⟩
          clear hK K
          (try go_frame)
          refine wpAnyH_take (i := 13) (oi := { dst := some 6, op := Go.Op.assign (Go.Operand.tmp 23), type := 233, pos := "shared.go:17", after := #[{ on := 12, ground := Go.Ground.data }, { on := 3, ground := Go.Ground.chain }, { on := 0, ground := Go.Ground.phase }, { on := 1, ground := Go.Ground.phase }, { on := 2, ground := Go.Ground.phase }, { on := 3, ground := Go.Ground.phase }, { on := 4, ground := Go.Ground.phase }, { on := 5, ground := Go.Ground.phase }, { on := 6, ground := Go.Ground.phase }, { on := 7, ground := Go.Ground.phase }, { on := 8, ground := Go.Ground.phase }, { on := 9, ground := Go.Ground.phase }, { on := 10, ground := Go.Ground.phase }, { on := 11, ground := Go.Ground.phase }, { on := 12, ground := Go.Ground.phase }], guard := none }) (v := ?v160) rfl (by kernel_rfl) (by kernel_rfl) (by kernel_rfl) (fun _ _ _ h => h) (Or.inl ⟨by rfl, ?hy160⟩) (by assumption) ?rest160
          case hy160 => (intro w hSw; (try dsimp only at hSw); go_simp; (try with_reducible rfl))
          (try go_frame)
          refine wpAnyH_done (by kernel_rfl) ?_ _
          (try go_wp2_with fail)
          go_meet
          case rel =>
            refine ⟨_, _, _, _, rfl, Row.new' (by simp), hHeld.1, ?_⟩
            (refine ⟨?_, ?_, ?_, ?_, ?_, ?_, ?_, ?_, ?_, ?_, ?_, ?_⟩) <;> first | (simp; omega) | omega | (repeat (first | exact Row.new' (by simp) | refine Row.alloc ?_ _ | refine Row.old ?_ hb2))
    · go_simp
      refine hK.out _ _ ?_ (fun hHeld => ?_)
      · exact ⟨hHeld.1.alloc hHeld.1.size _, cell_later (below_alloc _ _) hHeld.2⟩
      clear hK K
      (try go_frame)
      refine wpAnyH_ready (rs := [3, 10]) (by kernel_rfl) (by simp) ?_
      refine AllReadyH.cons (o := { dst := some 14, op := Go.Op.call { callee := Go.Callee.value (Go.Operand.func 156), args := #[Go.Operand.tmp 13], argTypes := #[287] }, type := 3, pos := "shared.go:20", after := #[{ on := 2, ground := Go.Ground.data }], guard := none }) (by rfl) (fun K hK => ?_) (AllReadyH.cons (o := { dst := some 21, op := Go.Op.makeSlice 308 (Go.Operand.tmp 20) (Go.Operand.tmp 20), type := 308, pos := "shared.go:17", after := #[{ on := 9, ground := Go.Ground.data }, { on := 9, ground := Go.Ground.data }], guard := none }) (by rfl) (fun K hK => ?_) AllReadyH.nil)
      · go_simp
        refine (toggleWords_any (n : Int) _ (by omega) (by omega)).mono ?_
        rintro e w2 ⟨rfl, hb2⟩
        have hz2 := hb2.size
        (try simp at hz2)
        go_wp2_with fail
        refine hK.out _ _ ?_ (fun hHeld => ?_)
        · exact ⟨Below.next hHeld.1 hb2 hHeld.1.size, cell_later hb2 hHeld.2⟩
        clear hK K
        (try go_frame)
        refine wpAnyH_ready (rs := [4, 10]) (by kernel_rfl) (by simp) ?_
        refine AllReadyH.cons (o := { dst := some 15, op := Go.Op.makeSlice 288 (Go.Operand.tmp 14) (Go.Operand.tmp 14), type := 288, pos := "shared.go:17", after := #[{ on := 3, ground := Go.Ground.data }, { on := 3, ground := Go.Ground.data }], guard := none }) (by rfl) (fun K hK => ?_) (AllReadyH.cons (o := { dst := some 21, op := Go.Op.makeSlice 308 (Go.Operand.tmp 20) (Go.Operand.tmp 20), type := 308, pos := "shared.go:17", after := #[{ on := 9, ground := Go.Ground.data }, { on := 9, ground := Go.Ground.data }], guard := none }) (by rfl) (fun K hK => ?_) AllReadyH.nil)
        · go_simp
          refine hK.out _ _ ?_ (fun hHeld => ?_)
          · exact ⟨hHeld.1.alloc hHeld.1.size _, cell_later (below_alloc _ _) hHeld.2⟩
          clear hK K
          (try go_frame)
          refine wpAnyH_ready (rs := [10]) (by kernel_rfl) (by simp) ?_
          refine AllReadyH.cons (o := { dst := some 21, op := Go.Op.makeSlice 308 (Go.Operand.tmp 20) (Go.Operand.tmp 20), type := 308, pos := "shared.go:17", after := #[{ on := 9, ground := Go.Ground.data }, { on := 9, ground := Go.Ground.data }], guard := none }) (by rfl) (fun K hK => ?_) AllReadyH.nil
          go_simp
          refine hK.out _ _ ?_ (fun hHeld => ?_)
          · exact ⟨hHeld.1.alloc hHeld.1.size _, cell_later (below_alloc _ _) hHeld.2⟩
          clear hK K
          (try go_frame)
          refine wpAnyH_take (i := 11) (oi := { dst := some 22, op := Go.Op.build 310 #[(0, Go.Operand.tmp 11), (1, Go.Operand.tmp 12), (2, Go.Operand.tmp 15), (3, Go.Operand.tmp 17), (4, Go.Operand.tmp 21)], type := 310, pos := "shared.go:17", after := #[{ on := 0, ground := Go.Ground.data }, { on := 1, ground := Go.Ground.data }, { on := 4, ground := Go.Ground.data }, { on := 6, ground := Go.Ground.data }, { on := 10, ground := Go.Ground.data }], guard := none }) (v := ?v161) rfl (by kernel_rfl) (by kernel_rfl) (by kernel_rfl) (fun _ _ _ h => h) (Or.inl ⟨by rfl, ?hy161⟩) (by assumption) ?rest161
          case hy161 => (intro w hSw; (try dsimp only at hSw); go_simp; (try with_reducible rfl))
          (try go_frame)
          refine wpAnyH_ready (rs := [12]) (by kernel_rfl) (by simp) ?_
          refine AllReadyH.cons (o := { dst := some 23, op := Go.Op.box 310 (Go.Operand.tmp 22), type := 233, pos := "shared.go:17", after := #[{ on := 11, ground := Go.Ground.data }], guard := none }) (by rfl) (fun K hK => ?_) AllReadyH.nil
          go_simp
          refine hK.out _ _ ?_ (fun hHeld => ?_)
          · exact ⟨hHeld.1.alloc hHeld.1.size _, cell_later (below_alloc _ _) hHeld.2⟩
          clear hK K
          (try go_frame)
          refine wpAnyH_take (i := 13) (oi := { dst := some 6, op := Go.Op.assign (Go.Operand.tmp 23), type := 233, pos := "shared.go:17", after := #[{ on := 12, ground := Go.Ground.data }, { on := 3, ground := Go.Ground.chain }, { on := 0, ground := Go.Ground.phase }, { on := 1, ground := Go.Ground.phase }, { on := 2, ground := Go.Ground.phase }, { on := 3, ground := Go.Ground.phase }, { on := 4, ground := Go.Ground.phase }, { on := 5, ground := Go.Ground.phase }, { on := 6, ground := Go.Ground.phase }, { on := 7, ground := Go.Ground.phase }, { on := 8, ground := Go.Ground.phase }, { on := 9, ground := Go.Ground.phase }, { on := 10, ground := Go.Ground.phase }, { on := 11, ground := Go.Ground.phase }, { on := 12, ground := Go.Ground.phase }], guard := none }) (v := ?v162) rfl (by kernel_rfl) (by kernel_rfl) (by kernel_rfl) (fun _ _ _ h => h) (Or.inl ⟨by rfl, ?hy162⟩) (by assumption) ?rest162
          case hy162 => (intro w hSw; (try dsimp only at hSw); go_simp; (try with_reducible rfl))
          (try go_frame)
          refine wpAnyH_done (by kernel_rfl) ?_ _
          (try go_wp2_with fail)
          go_meet
          case rel =>
            refine ⟨_, _, _, _, rfl, Row.new' (by simp), hHeld.1, ?_⟩
            (refine ⟨?_, ?_, ?_, ?_, ?_, ?_, ?_, ?_, ?_, ?_, ?_, ?_⟩) <;> first | (simp; omega) | omega | (repeat (first | exact Row.new' (by simp) | refine Row.alloc ?_ _ | refine Row.old ?_ hb2))
        · go_simp
          refine hK.out _ _ ?_ (fun hHeld => ?_)
          · exact ⟨hHeld.1.alloc hHeld.1.size _, cell_later (below_alloc _ _) hHeld.2⟩
          clear hK K
          (try go_frame)
          refine wpAnyH_ready (rs := [4]) (by kernel_rfl) (by simp) ?_
          refine AllReadyH.cons (o := { dst := some 15, op := Go.Op.makeSlice 288 (Go.Operand.tmp 14) (Go.Operand.tmp 14), type := 288, pos := "shared.go:17", after := #[{ on := 3, ground := Go.Ground.data }, { on := 3, ground := Go.Ground.data }], guard := none }) (by rfl) (fun K hK => ?_) AllReadyH.nil
          go_simp
          refine hK.out _ _ ?_ (fun hHeld => ?_)
          · exact ⟨hHeld.1.alloc hHeld.1.size _, cell_later (below_alloc _ _) hHeld.2⟩
          clear hK K
          (try go_frame)
          refine wpAnyH_take (i := 11) (oi := { dst := some 22, op := Go.Op.build 310 #[(0, Go.Operand.tmp 11), (1, Go.Operand.tmp 12), (2, Go.Operand.tmp 15), (3, Go.Operand.tmp 17), (4, Go.Operand.tmp 21)], type := 310, pos := "shared.go:17", after := #[{ on := 0, ground := Go.Ground.data }, { on := 1, ground := Go.Ground.data }, { on := 4, ground := Go.Ground.data }, { on := 6, ground := Go.Ground.data }, { on := 10, ground := Go.Ground.data }], guard := none }) (v := ?v163) rfl (by kernel_rfl) (by kernel_rfl) (by kernel_rfl) (fun _ _ _ h => h) (Or.inl ⟨by rfl, ?hy163⟩) (by assumption) ?rest163
          case hy163 => (intro w hSw; (try dsimp only at hSw); go_simp; (try with_reducible rfl))
          (try go_frame)
          refine wpAnyH_ready (rs := [12]) (by kernel_rfl) (by simp) ?_
          refine AllReadyH.cons (o := { dst := some 23, op := Go.Op.box 310 (Go.Operand.tmp 22), type := 233, pos := "shared.go:17", after := #[{ on := 11, ground := Go.Ground.data }], guard := none }) (by rfl) (fun K hK => ?_) AllReadyH.nil
          go_simp
          refine hK.out _ _ ?_ (fun hHeld => ?_)
          · exact ⟨hHeld.1.alloc hHeld.1.size _, cell_later (below_alloc _ _) hHeld.2⟩
          clear hK K
          (try go_frame)
          refine wpAnyH_take (i := 13) (oi := { dst := some 6, op := Go.Op.assign (Go.Operand.tmp 23), type := 233, pos := "shared.go:17", after := #[{ on := 12, ground := Go.Ground.data }, { on := 3, ground := Go.Ground.chain }, { on := 0, ground := Go.Ground.phase }, { on := 1, ground := Go.Ground.phase }, { on := 2, ground := Go.Ground.phase }, { on := 3, ground := Go.Ground.phase }, { on := 4, ground := Go.Ground.phase }, { on := 5, ground := Go.Ground.phase }, { on := 6, ground := Go.Ground.phase }, { on := 7, ground := Go.Ground.phase }, { on := 8, ground := Go.Ground.phase }, { on := 9, ground := Go.Ground.phase }, { on := 10, ground := Go.Ground.phase }, { on := 11, ground := Go.Ground.phase }, { on := 12, ground := Go.Ground.phase }], guard := none }) (v := ?v164) rfl (by kernel_rfl) (by kernel_rfl) (by kernel_rfl) (fun _ _ _ h => h) (Or.inl ⟨by rfl, ?hy164⟩) (by assumption) ?rest164
          case hy164 => (intro w hSw; (try dsimp only at hSw); go_simp; (try with_reducible rfl))
          (try go_frame)
          refine wpAnyH_done (by kernel_rfl) ?_ _
          (try go_wp2_with fail)
          go_meet
          case rel =>
            refine ⟨_, _, _, _, rfl, Row.new' (by simp), hHeld.1, ?_⟩
            (refine ⟨?_, ?_, ?_, ?_, ?_, ?_, ?_, ?_, ?_, ?_, ?_, ?_⟩) <;> first | (simp; omega) | omega | (repeat (first | exact Row.new' (by simp) | refine Row.alloc ?_ _ | refine Row.old ?_ hb2))
      · go_simp
        refine hK.out _ _ ?_ (fun hHeld => ?_)
        · exact ⟨hHeld.1.alloc hHeld.1.size _, cell_later (below_alloc _ _) hHeld.2⟩
        clear hK K
        (try go_frame)
        refine wpAnyH_ready (rs := [3]) (by kernel_rfl) (by simp) ?_
        refine AllReadyH.cons (o := { dst := some 14, op := Go.Op.call { callee := Go.Callee.value (Go.Operand.func 156), args := #[Go.Operand.tmp 13], argTypes := #[287] }, type := 3, pos := "shared.go:20", after := #[{ on := 2, ground := Go.Ground.data }], guard := none }) (by rfl) (fun K hK => ?_) AllReadyH.nil
        go_simp
        refine (toggleWords_any (n : Int) _ (by omega) (by omega)).mono ?_
        rintro e w2 ⟨rfl, hb2⟩
        have hz2 := hb2.size
        (try simp at hz2)
        go_wp2_with fail
        refine hK.out _ _ ?_ (fun hHeld => ?_)
        · exact ⟨Below.next hHeld.1 hb2 hHeld.1.size, cell_later hb2 hHeld.2⟩
        clear hK K
        (try go_frame)
        refine wpAnyH_ready (rs := [4]) (by kernel_rfl) (by simp) ?_
        refine AllReadyH.cons (o := { dst := some 15, op := Go.Op.makeSlice 288 (Go.Operand.tmp 14) (Go.Operand.tmp 14), type := 288, pos := "shared.go:17", after := #[{ on := 3, ground := Go.Ground.data }, { on := 3, ground := Go.Ground.data }], guard := none }) (by rfl) (fun K hK => ?_) AllReadyH.nil
        go_simp
        refine hK.out _ _ ?_ (fun hHeld => ?_)
        · exact ⟨hHeld.1.alloc hHeld.1.size _, cell_later (below_alloc _ _) hHeld.2⟩
        clear hK K
        (try go_frame)
        refine wpAnyH_take (i := 11) (oi := { dst := some 22, op := Go.Op.build 310 #[(0, Go.Operand.tmp 11), (1, Go.Operand.tmp 12), (2, Go.Operand.tmp 15), (3, Go.Operand.tmp 17), (4, Go.Operand.tmp 21)], type := 310, pos := "shared.go:17", after := #[{ on := 0, ground := Go.Ground.data }, { on := 1, ground := Go.Ground.data }, { on := 4, ground := Go.Ground.data }, { on := 6, ground := Go.Ground.data }, { on := 10, ground := Go.Ground.data }], guard := none }) (v := ?v165) rfl (by kernel_rfl) (by kernel_rfl) (by kernel_rfl) (fun _ _ _ h => h) (Or.inl ⟨by rfl, ?hy165⟩) (by assumption) ?rest165
        case hy165 => (intro w hSw; (try dsimp only at hSw); go_simp; (try with_reducible rfl))
        (try go_frame)
        refine wpAnyH_ready (rs := [12]) (by kernel_rfl) (by simp) ?_
        refine AllReadyH.cons (o := { dst := some 23, op := Go.Op.box 310 (Go.Operand.tmp 22), type := 233, pos := "shared.go:17", after := #[{ on := 11, ground := Go.Ground.data }], guard := none }) (by rfl) (fun K hK => ?_) AllReadyH.nil
        go_simp
        refine hK.out _ _ ?_ (fun hHeld => ?_)
        · exact ⟨hHeld.1.alloc hHeld.1.size _, cell_later (below_alloc _ _) hHeld.2⟩
        clear hK K
        (try go_frame)
        refine wpAnyH_take (i := 13) (oi := { dst := some 6, op := Go.Op.assign (Go.Operand.tmp 23), type := 233, pos := "shared.go:17", after := #[{ on := 12, ground := Go.Ground.data }, { on := 3, ground := Go.Ground.chain }, { on := 0, ground := Go.Ground.phase }, { on := 1, ground := Go.Ground.phase }, { on := 2, ground := Go.Ground.phase }, { on := 3, ground := Go.Ground.phase }, { on := 4, ground := Go.Ground.phase }, { on := 5, ground := Go.Ground.phase }, { on := 6, ground := Go.Ground.phase }, { on := 7, ground := Go.Ground.phase }, { on := 8, ground := Go.Ground.phase }, { on := 9, ground := Go.Ground.phase }, { on := 10, ground := Go.Ground.phase }, { on := 11, ground := Go.Ground.phase }, { on := 12, ground := Go.Ground.phase }], guard := none }) (v := ?v166) rfl (by kernel_rfl) (by kernel_rfl) (by kernel_rfl) (fun _ _ _ h => h) (Or.inl ⟨by rfl, ?hy166⟩) (by assumption) ?rest166
        case hy166 => (intro w hSw; (try dsimp only at hSw); go_simp; (try with_reducible rfl))
        (try go_frame)
        refine wpAnyH_done (by kernel_rfl) ?_ _
        (try go_wp2_with fail)
        go_meet
        case rel =>
          refine ⟨_, _, _, _, rfl, Row.new' (by simp), hHeld.1, ?_⟩
          (refine ⟨?_, ?_, ?_, ?_, ?_, ?_, ?_, ?_, ?_, ?_, ?_, ?_⟩) <;> first | (simp; omega) | omega | (repeat (first | exact Row.new' (by simp) | refine Row.alloc ?_ _ | refine Row.old ?_ hb2))
    · go_simp
      refine hK.out _ _ ?_ (fun hHeld => ?_)
      · exact ⟨hHeld.1.alloc hHeld.1.size _, cell_later (below_alloc _ _) hHeld.2⟩
      clear hK K
      (try go_frame)
      refine wpAnyH_ready (rs := [3, 6]) (by kernel_rfl) (by simp) ?_
      refine AllReadyH.cons (o := { dst := some 14, op := Go.Op.call { callee := Go.Callee.value (Go.Operand.func 156), args := #[Go.Operand.tmp 13], argTypes := #[287] }, type := 3, pos := "shared.go:20", after := #[{ on := 2, ground := Go.Ground.data }], guard := none }) (by rfl) (fun K hK => ?_) (AllReadyH.cons (o := { dst := some 17, op := Go.Op.makeSlice 289 (Go.Operand.tmp 16) (Go.Operand.tmp 16), type := 289, pos := "shared.go:17", after := #[{ on := 5, ground := Go.Ground.data }, { on := 5, ground := Go.Ground.data }], guard := none }) (by rfl) (fun K hK => ?_) AllReadyH.nil)
      · go_simp
        refine (toggleWords_any (n : Int) _ (by omega) (by omega)).mono ?_
        rintro e w2 ⟨rfl, hb2⟩
        have hz2 := hb2.size
        (try simp at hz2)
        go_wp2_with fail
        refine hK.out _ _ ?_ (fun hHeld => ?_)
        · exact ⟨Below.next hHeld.1 hb2 hHeld.1.size, cell_later hb2 hHeld.2⟩
        clear hK K
        (try go_frame)
        refine wpAnyH_ready (rs := [4, 6]) (by kernel_rfl) (by simp) ?_
        refine AllReadyH.cons (o := { dst := some 15, op := Go.Op.makeSlice 288 (Go.Operand.tmp 14) (Go.Operand.tmp 14), type := 288, pos := "shared.go:17", after := #[{ on := 3, ground := Go.Ground.data }, { on := 3, ground := Go.Ground.data }], guard := none }) (by rfl) (fun K hK => ?_) (AllReadyH.cons (o := { dst := some 17, op := Go.Op.makeSlice 289 (Go.Operand.tmp 16) (Go.Operand.tmp 16), type := 289, pos := "shared.go:17", after := #[{ on := 5, ground := Go.Ground.data }, { on := 5, ground := Go.Ground.data }], guard := none }) (by rfl) (fun K hK => ?_) AllReadyH.nil)
        · go_simp
          refine hK.out _ _ ?_ (fun hHeld => ?_)
          · exact ⟨hHeld.1.alloc hHeld.1.size _, cell_later (below_alloc _ _) hHeld.2⟩
          clear hK K
          (try go_frame)
          refine wpAnyH_ready (rs := [6]) (by kernel_rfl) (by simp) ?_
          refine AllReadyH.cons (o := { dst := some 17, op := Go.Op.makeSlice 289 (Go.Operand.tmp 16) (Go.Operand.tmp 16), type := 289, pos := "shared.go:17", after := #[{ on := 5, ground := Go.Ground.data }, { on := 5, ground := Go.Ground.data }], guard := none }) (by rfl) (fun K hK => ?_) AllReadyH.nil
          go_simp
          refine hK.out _ _ ?_ (fun hHeld => ?_)
          · exact ⟨hHeld.1.alloc hHeld.1.size _, cell_later (below_alloc _ _) hHeld.2⟩
          clear hK K
          (try go_frame)
          refine wpAnyH_take (i := 11) (oi := { dst := some 22, op := Go.Op.build 310 #[(0, Go.Operand.tmp 11), (1, Go.Operand.tmp 12), (2, Go.Operand.tmp 15), (3, Go.Operand.tmp 17), (4, Go.Operand.tmp 21)], type := 310, pos := "shared.go:17", after := #[{ on := 0, ground := Go.Ground.data }, { on := 1, ground := Go.Ground.data }, { on := 4, ground := Go.Ground.data }, { on := 6, ground := Go.Ground.data }, { on := 10, ground := Go.Ground.data }], guard := none }) (v := ?v167) rfl (by kernel_rfl) (by kernel_rfl) (by kernel_rfl) (fun _ _ _ h => h) (Or.inl ⟨by rfl, ?hy167⟩) (by assumption) ?rest167
          case hy167 => (intro w hSw; (try dsimp only at hSw); go_simp; (try with_reducible rfl))
          (try go_frame)
          refine wpAnyH_ready (rs := [12]) (by kernel_rfl) (by simp) ?_
          refine AllReadyH.cons (o := { dst := some 23, op := Go.Op.box 310 (Go.Operand.tmp 22), type := 233, pos := "shared.go:17", after := #[{ on := 11, ground := Go.Ground.data }], guard := none }) (by rfl) (fun K hK => ?_) AllReadyH.nil
          go_simp
          refine hK.out _ _ ?_ (fun hHeld => ?_)
          · exact ⟨hHeld.1.alloc hHeld.1.size _, cell_later (below_alloc _ _) hHeld.2⟩
          clear hK K
          (try go_frame)
          refine wpAnyH_take (i := 13) (oi := { dst := some 6, op := Go.Op.assign (Go.Operand.tmp 23), type := 233, pos := "shared.go:17", after := #[{ on := 12, ground := Go.Ground.data }, { on := 3, ground := Go.Ground.chain }, { on := 0, ground := Go.Ground.phase }, { on := 1, ground := Go.Ground.phase }, { on := 2, ground := Go.Ground.phase }, { on := 3, ground := Go.Ground.phase }, { on := 4, ground := Go.Ground.phase }, { on := 5, ground := Go.Ground.phase }, { on := 6, ground := Go.Ground.phase }, { on := 7, ground := Go.Ground.phase }, { on := 8, ground := Go.Ground.phase }, { on := 9, ground := Go.Ground.phase }, { on := 10, ground := Go.Ground.phase }, { on := 11, ground := Go.Ground.phase }, { on := 12, ground := Go.Ground.phase }], guard := none }) (v := ?v168) rfl (by kernel_rfl) (by kernel_rfl) (by kernel_rfl) (fun _ _ _ h => h) (Or.inl ⟨by rfl, ?hy168⟩) (by assumption) ?rest168
          case hy168 => (intro w hSw; (try dsimp only at hSw); go_simp; (try with_reducible rfl))
          (try go_frame)
          refine wpAnyH_done (by kernel_rfl) ?_ _
          (try go_wp2_with fail)
          go_meet
          case rel =>
            refine ⟨_, _, _, _, rfl, Row.new' (by simp), hHeld.1, ?_⟩
            (refine ⟨?_, ?_, ?_, ?_, ?_, ?_, ?_, ?_, ?_, ?_, ?_, ?_⟩) <;> first | (simp; omega) | omega | (repeat (first | exact Row.new' (by simp) | refine Row.alloc ?_ _ | refine Row.old ?_ hb2))
        · go_simp
          refine hK.out _ _ ?_ (fun hHeld => ?_)
          · exact ⟨hHeld.1.alloc hHeld.1.size _, cell_later (below_alloc _ _) hHeld.2⟩
          clear hK K
          (try go_frame)
          refine wpAnyH_ready (rs := [4]) (by kernel_rfl) (by simp) ?_
          refine AllReadyH.cons (o := { dst := some 15, op := Go.Op.makeSlice 288 (Go.Operand.tmp 14) (Go.Operand.tmp 14), type := 288, pos := "shared.go:17", after := #[{ on := 3, ground := Go.Ground.data }, { on := 3, ground := Go.Ground.data }], guard := none }) (by rfl) (fun K hK => ?_) AllReadyH.nil
          go_simp
          refine hK.out _ _ ?_ (fun hHeld => ?_)
          · exact ⟨hHeld.1.alloc hHeld.1.size _, cell_later (below_alloc _ _) hHeld.2⟩
          clear hK K
          (try go_frame)
          refine wpAnyH_take (i := 11) (oi := { dst := some 22, op := Go.Op.build 310 #[(0, Go.Operand.tmp 11), (1, Go.Operand.tmp 12), (2, Go.Operand.tmp 15), (3, Go.Operand.tmp 17), (4, Go.Operand.tmp 21)], type := 310, pos := "shared.go:17", after := #[{ on := 0, ground := Go.Ground.data }, { on := 1, ground := Go.Ground.data }, { on := 4, ground := Go.Ground.data }, { on := 6, ground := Go.Ground.data }, { on := 10, ground := Go.Ground.data }], guard := none }) (v := ?v169) rfl (by kernel_rfl) (by kernel_rfl) (by kernel_rfl) (fun _ _ _ h => h) (Or.inl ⟨by rfl, ?hy169⟩) (by assumption) ?rest169
          case hy169 => (intro w hSw; (try dsimp only at hSw); go_simp; (try with_reducible rfl))
          (try go_frame)
          refine wpAnyH_ready (rs := [12]) (by kernel_rfl) (by simp) ?_
          refine AllReadyH.cons (o := { dst := some 23, op := Go.Op.box 310 (Go.Operand.tmp 22), type := 233, pos := "shared.go:17", after := #[{ on := 11, ground := Go.Ground.data }], guard := none }) (by rfl) (fun K hK => ?_) AllReadyH.nil
          go_simp
          refine hK.out _ _ ?_ (fun hHeld => ?_)
          · exact ⟨hHeld.1.alloc hHeld.1.size _, cell_later (below_alloc _ _) hHeld.2⟩
          clear hK K
          (try go_frame)
          refine wpAnyH_take (i := 13) (oi := { dst := some 6, op := Go.Op.assign (Go.Operand.tmp 23), type := 233, pos := "shared.go:17", after := #[{ on := 12, ground := Go.Ground.data }, { on := 3, ground := Go.Ground.chain }, { on := 0, ground := Go.Ground.phase }, { on := 1, ground := Go.Ground.phase }, { on := 2, ground := Go.Ground.phase }, { on := 3, ground := Go.Ground.phase }, { on := 4, ground := Go.Ground.phase }, { on := 5, ground := Go.Ground.phase }, { on := 6, ground := Go.Ground.phase }, { on := 7, ground := Go.Ground.phase }, { on := 8, ground := Go.Ground.phase }, { on := 9, ground := Go.Ground.phase }, { on := 10, ground := Go.Ground.phase }, { on := 11, ground := Go.Ground.phase }, { on := 12, ground := Go.Ground.phase }], guard := none }) (v := ?v170) rfl (by kernel_rfl) (by kernel_rfl) (by kernel_rfl) (fun _ _ _ h => h) (Or.inl ⟨by rfl, ?hy170⟩) (by assumption) ?rest170
          case hy170 => (intro w hSw; (try dsimp only at hSw); go_simp; (try with_reducible rfl))
          (try go_frame)
          refine wpAnyH_done (by kernel_rfl) ?_ _
          (try go_wp2_with fail)
          go_meet
          case rel =>
            refine ⟨_, _, _, _, rfl, Row.new' (by simp), hHeld.1, ?_⟩
            (refine ⟨?_, ?_, ?_, ?_, ?_, ?_, ?_, ?_, ?_, ?_, ?_, ?_⟩) <;> first | (simp; omega) | omega | (repeat (first | exact Row.new' (by simp) | refine Row.alloc ?_ _ | refine Row.old ?_ hb2))
      · go_simp
        refine hK.out _ _ ?_ (fun hHeld => ?_)
        · exact ⟨hHeld.1.alloc hHeld.1.size _, cell_later (below_alloc _ _) hHeld.2⟩
        clear hK K
        (try go_frame)
        refine wpAnyH_ready (rs := [3]) (by kernel_rfl) (by simp) ?_
        refine AllReadyH.cons (o := { dst := some 14, op := Go.Op.call { callee := Go.Callee.value (Go.Operand.func 156), args := #[Go.Operand.tmp 13], argTypes := #[287] }, type := 3, pos := "shared.go:20", after := #[{ on := 2, ground := Go.Ground.data }], guard := none }) (by rfl) (fun K hK => ?_) AllReadyH.nil
        go_simp
        refine (toggleWords_any (n : Int) _ (by omega) (by omega)).mono ?_
        rintro e w2 ⟨rfl, hb2⟩
        have hz2 := hb2.size
        (try simp at hz2)
        go_wp2_with fail
        refine hK.out _ _ ?_ (fun hHeld => ?_)
        · exact ⟨Below.next hHeld.1 hb2 hHeld.1.size, cell_later hb2 hHeld.2⟩
        clear hK K
        (try go_frame)
        refine wpAnyH_ready (rs := [4]) (by kernel_rfl) (by simp) ?_
        refine AllReadyH.cons (o := { dst := some 15, op := Go.Op.makeSlice 288 (Go.Operand.tmp 14) (Go.Operand.tmp 14), type := 288, pos := "shared.go:17", after := #[{ on := 3, ground := Go.Ground.data }, { on := 3, ground := Go.Ground.data }], guard := none }) (by rfl) (fun K hK => ?_) AllReadyH.nil
        go_simp
        refine hK.out _ _ ?_ (fun hHeld => ?_)
        · exact ⟨hHeld.1.alloc hHeld.1.size _, cell_later (below_alloc _ _) hHeld.2⟩
        clear hK K
        (try go_frame)
        refine wpAnyH_take (i := 11) (oi := { dst := some 22, op := Go.Op.build 310 #[(0, Go.Operand.tmp 11), (1, Go.Operand.tmp 12), (2, Go.Operand.tmp 15), (3, Go.Operand.tmp 17), (4, Go.Operand.tmp 21)], type := 310, pos := "shared.go:17", after := #[{ on := 0, ground := Go.Ground.data }, { on := 1, ground := Go.Ground.data }, { on := 4, ground := Go.Ground.data }, { on := 6, ground := Go.Ground.data }, { on := 10, ground := Go.Ground.data }], guard := none }) (v := ?v171) rfl (by kernel_rfl) (by kernel_rfl) (by kernel_rfl) (fun _ _ _ h => h) (Or.inl ⟨by rfl, ?hy171⟩) (by assumption) ?rest171
        case hy171 => (intro w hSw; (try dsimp only at hSw); go_simp; (try with_reducible rfl))
        (try go_frame)
        refine wpAnyH_ready (rs := [12]) (by kernel_rfl) (by simp) ?_
        refine AllReadyH.cons (o := { dst := some 23, op := Go.Op.box 310 (Go.Operand.tmp 22), type := 233, pos := "shared.go:17", after := #[{ on := 11, ground := Go.Ground.data }], guard := none }) (by rfl) (fun K hK => ?_) AllReadyH.nil
        go_simp
        refine hK.out _ _ ?_ (fun hHeld => ?_)
        · exact ⟨hHeld.1.alloc hHeld.1.size _, cell_later (below_alloc _ _) hHeld.2⟩
        clear hK K
        (try go_frame)
        refine wpAnyH_take (i := 13) (oi := { dst := some 6, op := Go.Op.assign (Go.Operand.tmp 23), type := 233, pos := "shared.go:17", after := #[{ on := 12, ground := Go.Ground.data }, { on := 3, ground := Go.Ground.chain }, { on := 0, ground := Go.Ground.phase }, { on := 1, ground := Go.Ground.phase }, { on := 2, ground := Go.Ground.phase }, { on := 3, ground := Go.Ground.phase }, { on := 4, ground := Go.Ground.phase }, { on := 5, ground := Go.Ground.phase }, { on := 6, ground := Go.Ground.phase }, { on := 7, ground := Go.Ground.phase }, { on := 8, ground := Go.Ground.phase }, { on := 9, ground := Go.Ground.phase }, { on := 10, ground := Go.Ground.phase }, { on := 11, ground := Go.Ground.phase }, { on := 12, ground := Go.Ground.phase }], guard := none }) (v := ?v172) rfl (by kernel_rfl) (by kernel_rfl) (by kernel_rfl) (fun _ _ _ h => h) (Or.inl ⟨by rfl, ?hy172⟩) (by assumption) ?rest172
        case hy172 => (intro w hSw; (try dsimp only at hSw); go_simp; (try with_reducible rfl))
        (try go_frame)
        refine wpAnyH_done (by kernel_rfl) ?_ _
        (try go_wp2_with fail)
        go_meet
        case rel =>
          refine ⟨_, _, _, _, rfl, Row.new' (by simp), hHeld.1, ?_⟩
          (refine ⟨?_, ?_, ?_, ?_, ?_, ?_, ?_, ?_, ?_, ?_, ?_, ?_⟩) <;> first | (simp; omega) | omega | (repeat (first | exact Row.new' (by simp) | refine Row.alloc ?_ _ | refine Row.old ?_ hb2))
  case rest =>
    obtain ⟨bS, bTg, bAn, bP, rfl, hS, hB, z1, z2, z3, z4, z5, z6, z7, z8, z9, hTg, hAn, hP⟩ := hcut
    rw [poolAt_zero _ (rwn n) (fun _ => 0)] at hP
    have hI0 : ShI W0 bS bTg bAn bP n oT ov 0 (fun _ => 0) wc := ⟨hS, hTg, hAn, hP, fun r hr => absurd hr (by omega), fun r s _ h => absurd h (by omega), hB⟩
    have hcS0 := hS.cell_of (i := 4) rfl
    clear hS hTg hAn hP hB
    go_wp2
    go_loopw [29] (fun i w' => ∃ k bW, k ≤ 2 * n + 1 ∧ i = .int .i64 (k : Int) ∧ ShI W0 bS bTg bAn bP n oT ov k bW w') (fun i _ => 2 * n + 1 - (intOf i).toNat)
    case atStart => exact ⟨0, _, Nat.zero_le _, rfl, hI0⟩
    case round =>
      obtain ⟨k, bW, hk, rfl, hI⟩ := hrel
      by_cases hlt : k < 2 * n + 1
      · have hlt' : (k : Int) < 2 * (n : Int) + 1 := by omega
        have hlt'' : (k : Int) < (2 * n + 1 : Nat) := by omega
        have hk0 : (0 : Int) ≤ (k : Int) := by omega
        have hcS : wr.cell? ⟨bS, 4, none⟩ = some (.slice (some ⟨bP, 0, none⟩) (2 * n + 1) (2 * n + 1)) := hI.1.cell_of rfl
        have hcN : wr.cell? ⟨w.heap.size, 0, none⟩ = some (.int .i64 (n : Int)) := cell_later hI.2.2.2.2.2.2 hc0
        have hth : wr.there bP (k * 2) 1 := hI.2.2.2.1.there (by rw [length_poolAt]; omega)
        have hsz : (Tryz.prog.info? 288).map (·.size) = some 1 := by kernel_rfl
        have hneS : bS ≠ bP := by omega
        have hneN : w.heap.size ≠ bP := by omega
        have HI := hide hI
        clear hI
        go_wp2
        refine wp_region_held_drew (S := (fun w' => w'.cell? ⟨bS, 4, none⟩ = some (.slice (some ⟨bP, 0, none⟩) (2 * n + 1) (2 * n + 1)) ∧ w'.cell? ⟨w.heap.size, 0, none⟩ = some (.int .i64 (n : Int)) ∧ w'.there bP (k * 2) 1)) (by kernel_rfl) ?_ (fun hHeld => ?_)
        · exact ⟨hcS, hcN, hth⟩
        refine wpAnyH_take (i := 0) (oi := { dst := some 32, op := Go.Op.move (Go.Operand.tmp 6), type := 233, pos := "shared.go:25", after := #[], guard := none }) (v := ?v173) rfl (by kernel_rfl) (by kernel_rfl) (by kernel_rfl) (fun _ _ _ h => h) (Or.inl ⟨by rfl, ?hy173⟩) (by assumption) ?rest173
        case hy173 => (intro w hSw; (try dsimp only at hSw); go_simp; (try with_reducible rfl))
        (try go_frame)
        refine wpAnyH_take (i := 1) (oi := { dst := some 33, op := Go.Op.nilCheck (Go.Operand.tmp 32), type := 0, pos := "shared.go:25", after := #[{ on := 0, ground := Go.Ground.data }], guard := none }) (v := ?v174) rfl (by kernel_rfl) (by kernel_rfl) (by kernel_rfl) (fun _ _ _ h => h) (Or.inl ⟨by rfl, ?hy174⟩) (by assumption) ?rest174
        case hy174 => (intro w hSw; (try dsimp only at hSw); go_simp; (try with_reducible rfl))
        (try go_frame)
        refine wpAnyH_take (i := 2) (oi := { dst := some 34, op := Go.Op.fieldAddr 310 (Go.Operand.tmp 33) 4, type := 0, pos := "shared.go:25", after := #[{ on := 1, ground := Go.Ground.data }], guard := none }) (v := ?v175) rfl (by kernel_rfl) (by kernel_rfl) (by kernel_rfl) (fun _ _ _ h => h) (Or.inl ⟨by rfl, ?hy175⟩) (by assumption) ?rest175
        case hy175 => (intro w hSw; (try dsimp only at hSw); go_simp; (try with_reducible rfl))
        (try go_frame)
        refine wpAnyH_take (i := 3) (oi := { dst := some 35, op := Go.Op.load 308 (Go.Operand.tmp 34), type := 308, pos := "shared.go:25", after := #[{ on := 2, ground := Go.Ground.data }], guard := none }) (v := ?v176) rfl (by kernel_rfl) (by kernel_rfl) (by kernel_rfl) (fun _ _ _ h => h) (Or.inl ⟨by rfl, ?hy176⟩) (by assumption) ?rest176
        case hy176 => (intro w hSw; (try dsimp only at hSw); go_simp; (try with_reducible rfl))
        (try go_frame)
        refine wpAnyH_take (i := 4) (oi := { dst := some 36, op := Go.Op.move (Go.Operand.tmp 7), type := 3, pos := "shared.go:25", after := #[], guard := none }) (v := ?v177) rfl (by kernel_rfl) (by kernel_rfl) (by kernel_rfl) (fun _ _ _ h => h) (Or.inl ⟨by rfl, ?hy177⟩) (by assumption) ?rest177
        case hy177 => (intro w hSw; (try dsimp only at hSw); go_simp; (try with_reducible rfl))
        (try go_frame)
        refine wpAnyH_take (i := 5) (oi := { dst := some 37, op := Go.Op.load 287 (Go.Operand.tmp 5), type := 287, pos := "shared.go:25", after := #[], guard := none }) (v := ?v178) rfl (by kernel_rfl) (by kernel_rfl) (by kernel_rfl) (fun _ _ _ h => h) (Or.inl ⟨by rfl, ?hy178⟩) (by assumption) ?rest178
        case hy178 => (intro w hSw; (try dsimp only at hSw); go_simp; (try with_reducible rfl))
        (try go_frame)
        refine wpAnyH_ready (rs := [6]) (by kernel_rfl) (by simp) ?_
        refine AllReadyH.cons (o := { dst := some 38, op := Go.Op.call { callee := Go.Callee.value (Go.Operand.func 157), args := #[Go.Operand.tmp 37], argTypes := #[287] }, type := 3, pos := "shared.go:25", after := #[{ on := 5, ground := Go.Ground.data }], guard := none }) (by rfl) (fun K hK => ?_) AllReadyH.nil
        go_simp
        refine (recordWords_any (n : Int) _ (by omega) (by omega)).mono ?_
        rintro e w3 ⟨rfl, hb3⟩
        go_wp2_with fail
        refine hK.out _ _ ?_ (fun hHeld => ?_)
        · exact ⟨cell_later hb3 hHeld.1, cell_later hb3 hHeld.2.1, there_later hb3 hHeld.2.2⟩
        clear hK K
        (try go_frame)
        refine wpAnyH_ready (rs := [7]) (by kernel_rfl) (by simp) ?_
        refine AllReadyH.cons (o := { dst := some 39, op := Go.Op.makeSlice 288 (Go.Operand.tmp 38) (Go.Operand.tmp 38), type := 288, pos := "shared.go:25", after := #[{ on := 6, ground := Go.Ground.data }, { on := 6, ground := Go.Ground.data }], guard := none }) (by rfl) (fun K hK => ?_) AllReadyH.nil
        go_simp
        refine hK.out _ _ ?_ (fun hHeld => ?_)
        · exact ⟨cell_later (below_alloc _ _) hHeld.1, cell_later (below_alloc _ _) hHeld.2.1, World.there_alloc hHeld.2.2 _⟩
        clear hK K
        (try go_frame)
        refine wpAnyH_take (i := 8) (oi := { dst := some 40, op := Go.Op.indexAddr 308 (Go.Operand.tmp 35) (Go.Operand.tmp 36), type := 0, pos := "shared.go:25", after := #[{ on := 3, ground := Go.Ground.data }, { on := 4, ground := Go.Ground.data }, { on := 0, ground := Go.Ground.phase }, { on := 1, ground := Go.Ground.phase }, { on := 2, ground := Go.Ground.phase }, { on := 3, ground := Go.Ground.phase }, { on := 4, ground := Go.Ground.phase }, { on := 5, ground := Go.Ground.phase }, { on := 6, ground := Go.Ground.phase }, { on := 7, ground := Go.Ground.phase }], guard := none }) (v := ?v179) rfl (by kernel_rfl) (by kernel_rfl) (by kernel_rfl) (fun _ _ _ h => h) (Or.inl ⟨by rfl, ?hy179⟩) (by assumption) ?rest179
        case hy179 => (intro w hSw; (try dsimp only at hSw); go_simp; (try with_reducible rfl))
        (try go_frame)
        refine wpAnyH_take (i := 9) (oi := { dst := some 41, op := Go.Op.fieldAddr 318 (Go.Operand.tmp 40) 0, type := 0, pos := "shared.go:25", after := #[{ on := 8, ground := Go.Ground.data }, { on := 0, ground := Go.Ground.phase }, { on := 1, ground := Go.Ground.phase }, { on := 2, ground := Go.Ground.phase }, { on := 3, ground := Go.Ground.phase }, { on := 4, ground := Go.Ground.phase }, { on := 5, ground := Go.Ground.phase }, { on := 6, ground := Go.Ground.phase }, { on := 7, ground := Go.Ground.phase }], guard := none }) (v := ?v180) rfl (by kernel_rfl) (by kernel_rfl) (by kernel_rfl) (fun _ _ _ h => h) (Or.inl ⟨by rfl, ?hy180⟩) (by assumption) ?rest180
        case hy180 => (intro w hSw; (try dsimp only at hSw); go_simp; (try with_reducible rfl))
        (try go_frame)
        refine wpAnyH_ready (rs := [10]) (by kernel_rfl) (by simp) ?_
        refine AllReadyH.cons (o := { dst := none, op := Go.Op.store 288 (Go.Operand.tmp 41) (Go.Operand.tmp 39), type := 0, pos := "shared.go:25", after := #[{ on := 9, ground := Go.Ground.data }, { on := 7, ground := Go.Ground.data }, { on := 6, ground := Go.Ground.chain }, { on := 0, ground := Go.Ground.phase }, { on := 1, ground := Go.Ground.phase }, { on := 2, ground := Go.Ground.phase }, { on := 3, ground := Go.Ground.phase }, { on := 4, ground := Go.Ground.phase }, { on := 5, ground := Go.Ground.phase }, { on := 6, ground := Go.Ground.phase }, { on := 7, ground := Go.Ground.phase }], guard := none }) (by rfl) (fun K hK => ?_) AllReadyH.nil
        rw [if_pos (by rfl)]
        refine wp_store_one _ _ _ rfl bP (k * 2) _ rfl rfl rfl rfl hHeld.2.2 hsz ?_
        refine hK.out _ _ ?_ (fun hHeld => ?_)
        · exact ⟨(World.cell?_setCell_far _ _ _ _ (Ne.symm hneS)).trans hHeld.1, (World.cell?_setCell_far _ _ _ _ (Ne.symm hneN)).trans hHeld.2.1, there_set hHeld.2.2 _ rfl _⟩
        clear hK K
        (try go_frame)
        refine wpAnyH_done (by kernel_rfl) ?_ _
        (try go_wp2_with fail)
        go_roundw
        case rel =>
          rw [Nat.mul_comm k 2]
          exact ⟨k + 1, _, by omega, by go_num, ShI.next HI.out (Below.undrew hb3) z3 (by omega) (by omega) (by omega)⟩
        case measure => simp [intOf]; omega
      · have hke : k = 2 * n + 1 := by omega
        subst hke
        have hI' := hI
        clear hI hlt
        have hcP : wr.cell? ⟨bS, 4, none⟩ = some (.slice (some ⟨bP, 0, none⟩) (2 * n + 1) (2 * n + 1)) := hI'.1.cell_of rfl
        have HI := hide hI'
        clear hI'
        have hlt' : ¬ ((2 * n + 1 : Nat) : Int) < 2 * (n : Int) + 1 := by omega
        go_wp2_with fail
        refine (HF.out _).mono ?_
        rintro e w4 ⟨rfl, hb4⟩
        go_wp2_with fail
        generalize hW5 : World.alloc (World.alloc w4 _) _ = W5
        have hI := HI.out
        have hb5 : Below w4.heap.size w4 W5 := by rw [← hW5]; exact ((Below.refl _ _).alloc (Nat.le_refl _) _).alloc (by simp) _
        have hcS5 : W5.cell? ⟨bS, 4, none⟩ = some (.slice (some ⟨bP, 0, none⟩) (2 * n + 1) (2 * n + 1)) := cell_later hb5 (cell_later hb4 hcP)
        have hcP1 : W5.cell? ⟨bP, 1, none⟩ = some (.pointer none) := cell_later hb5 (cell_later hb4 (hI.2.2.2.1.cell_of (poolAt_odd (j := 0) (by omega))))
        have hfP1 : W5.frozen? ⟨bP, 1, none⟩ = false := ((hI.2.2.2.1.old hb4).old hb5).frozen 1
        obtain ⟨bV, hbV⟩ : ∃ bV, bV = w4.heap.size + 1 := ⟨_, rfl⟩
        have hV : ∃ vs, W5 = (w4.alloc (.cells [Value.int .i64 0, .slice none 0 0, .pointer none].toArray 306)).alloc (.cells vs.toArray 239) ∧ vs = [.pointer none] ++ [.pointer (some ⟨w4.heap.size, 0, none⟩)] := ⟨_, hW5.symm, rfl⟩
        obtain ⟨vs, hV5, hvs⟩ := hV
        have hVr : Row W5 bV 239 ([.pointer none] ++ [.pointer (some ⟨w4.heap.size, 0, none⟩)]) := by rw [hV5, ← hvs, hbV]; exact Row.new' (by simp)
        have hVc : ∀ w', Below W5.heap.size W5 w' → w'.cell? ⟨bV, 0, none⟩ = some (.pointer none) ∧ w'.cell? ⟨bV, 1, none⟩ = some (.pointer (some ⟨w4.heap.size, 0, none⟩)) := by
          intro w' hw'
          have hq := hVr.old hw'
          simp only [hq.cell]
          simp
        have HW5 := hide hV5
        clear hW5 hV5 hI hvs hcP
        have hltP : bP < W5.heap.size := World.block_lt_of_cell? W5 _ hcP1
        have hneS : bS ≠ bP := by omega
        have hneV : bV ≠ bP := by have h7 := (unhide HI).2.2.2.1.lt; have h8 := hb4.size; omega
        have hpos : (0 : Int) < 2 * (n : Int) + 1 := by omega
        rw [← hbV]
        clear hbV
        have hV0 := hVc W5 (Below.refl _ _)
        clear hVc
        refine wp_region_held_drew (S := (fun w' => w'.cell? ⟨bS, 4, none⟩ = some (.slice (some ⟨bP, 0, none⟩) (2 * n + 1) (2 * n + 1)) ∧ w'.cell? ⟨bV, 0, none⟩ = some (.pointer none) ∧ w'.cell? ⟨bV, 1, none⟩ = some (.pointer (some ⟨w4.heap.size, 0, none⟩)))) (by kernel_rfl) ?_ (fun hHeld => ?_)
        · exact ⟨hcS5, hV0⟩
        refine wpAnyH_take (i := 0) (oi := { dst := some 48, op := Go.Op.move (Go.Operand.tmp 6), type := 233, pos := "shared.go:28", after := #[], guard := none }) (v := ?v181) rfl (by kernel_rfl) (by kernel_rfl) (by kernel_rfl) (fun _ _ _ h => h) (Or.inl ⟨by rfl, ?hy181⟩) (by assumption) ?rest181
        case hy181 => (intro w hSw; (try dsimp only at hSw); go_simp; (try with_reducible rfl))
        (try go_frame)
        refine wpAnyH_take (i := 1) (oi := { dst := some 49, op := Go.Op.nilCheck (Go.Operand.tmp 48), type := 0, pos := "shared.go:28", after := #[{ on := 0, ground := Go.Ground.data }], guard := none }) (v := ?v182) rfl (by kernel_rfl) (by kernel_rfl) (by kernel_rfl) (fun _ _ _ h => h) (Or.inl ⟨by rfl, ?hy182⟩) (by assumption) ?rest182
        case hy182 => (intro w hSw; (try dsimp only at hSw); go_simp; (try with_reducible rfl))
        (try go_frame)
        refine wpAnyH_take (i := 2) (oi := { dst := some 50, op := Go.Op.fieldAddr 310 (Go.Operand.tmp 49) 4, type := 0, pos := "shared.go:28", after := #[{ on := 1, ground := Go.Ground.data }], guard := none }) (v := ?v183) rfl (by kernel_rfl) (by kernel_rfl) (by kernel_rfl) (fun _ _ _ h => h) (Or.inl ⟨by rfl, ?hy183⟩) (by assumption) ?rest183
        case hy183 => (intro w hSw; (try dsimp only at hSw); go_simp; (try with_reducible rfl))
        (try go_frame)
        refine wpAnyH_take (i := 3) (oi := { dst := some 51, op := Go.Op.load 308 (Go.Operand.tmp 50), type := 308, pos := "shared.go:28", after := #[{ on := 2, ground := Go.Ground.data }], guard := none }) (v := ?v184) rfl (by kernel_rfl) (by kernel_rfl) (by kernel_rfl) (fun _ _ _ h => h) (Or.inl ⟨by rfl, ?hy184⟩) (by assumption) ?rest184
        case hy184 => (intro w hSw; (try dsimp only at hSw); go_simp; (try with_reducible rfl))
        (try go_frame)
        refine wpAnyH_take (i := 4) (oi := { dst := some 52, op := Go.Op.indexAddr 308 (Go.Operand.tmp 51) (Go.Operand.const (Go.Value.int Go.IntKind.i64 0)), type := 0, pos := "shared.go:28", after := #[{ on := 3, ground := Go.Ground.data }], guard := none }) (v := ?v185) rfl (by kernel_rfl) (by kernel_rfl) (by kernel_rfl) (fun _ _ _ h => h) (Or.inl ⟨by rfl, ?hy185⟩) (by assumption) ?rest185
        case hy185 => (intro w hSw; (try dsimp only at hSw); go_simp; (try with_reducible rfl))
        (try go_frame)
        refine wpAnyH_take (i := 5) (oi := { dst := some 53, op := Go.Op.fieldAddr 318 (Go.Operand.tmp 52) 1, type := 0, pos := "shared.go:28", after := #[{ on := 4, ground := Go.Ground.data }], guard := none }) (v := ?v186) rfl (by kernel_rfl) (by kernel_rfl) (by kernel_rfl) (fun _ _ _ h => h) (Or.inl ⟨by rfl, ?hy186⟩) (by assumption) ?rest186
        case hy186 => (intro w hSw; (try dsimp only at hSw); go_simp; (try with_reducible rfl))
        (try go_frame)
        refine wpAnyH_take (i := 6) (oi := { dst := some 54, op := Go.Op.fieldAddr 316 (Go.Operand.tmp 53) 0, type := 0, pos := "shared.go:28", after := #[{ on := 5, ground := Go.Ground.data }], guard := none }) (v := ?v187) rfl (by kernel_rfl) (by kernel_rfl) (by kernel_rfl) (fun _ _ _ h => h) (Or.inl ⟨by rfl, ?hy187⟩) (by assumption) ?rest187
        case hy187 => (intro w hSw; (try dsimp only at hSw); go_simp; (try with_reducible rfl))
        (try go_frame)
        refine wpAnyH_take (i := 7) (oi := { dst := some 55, op := Go.Op.load 239 (Go.Operand.tmp 8), type := 239, pos := "shared.go:28", after := #[], guard := none }) (v := ?v188) rfl (by kernel_rfl) (by kernel_rfl) (by kernel_rfl) (fun _ _ _ h => h) (Or.inl ⟨by rfl, ?hy188⟩) (by assumption) ?rest188
        case hy188 => (intro w hSw; (try dsimp only at hSw); go_simp; (try with_reducible rfl))
        (try go_frame)
        refine wpAnyH_take (i := 8) (oi := { dst := some 56, op := Go.Op.load 239 (Go.Operand.tmp 8), type := 239, pos := "shared.go:28", after := #[], guard := none }) (v := ?v189) rfl (by kernel_rfl) (by kernel_rfl) (by kernel_rfl) (fun _ _ _ h => h) (Or.inl ⟨by rfl, ?hy189⟩) (by assumption) ?rest189
        case hy189 => (intro w hSw; (try dsimp only at hSw); go_simp; (try with_reducible rfl))
        (try go_frame)
        refine wpAnyH_take (i := 9) (oi := { dst := some 57, op := Go.Op.build 241 #[(0, Go.Operand.tmp 55), (1, Go.Operand.tmp 56)], type := 241, pos := "shared.go:28", after := #[{ on := 7, ground := Go.Ground.data }, { on := 8, ground := Go.Ground.data }], guard := none }) (v := ?v190) rfl (by kernel_rfl) (by kernel_rfl) (by kernel_rfl) (fun _ _ _ h => h) (Or.inl ⟨by rfl, ?hy190⟩) (by assumption) ?rest190
        case hy190 => (intro w hSw; (try dsimp only at hSw); go_simp; (try with_reducible rfl))
        (try go_frame)
        refine wpAnyH_ready (rs := [10]) (by kernel_rfl) (by simp) ?_
        refine AllReadyH.cons (o := { dst := some 58, op := Go.Op.box 241 (Go.Operand.tmp 57), type := 311, pos := "shared.go:28", after := #[{ on := 9, ground := Go.Ground.data }], guard := none }) (by rfl) (fun K hK => ?_) AllReadyH.nil
        go_simp
        refine hK.out _ _ ?_ (fun hHeld => ?_)
        · (repeat' apply And.intro) <;> (first | exact cell_later (below_alloc _ _) hHeld.1 | exact cell_later (below_alloc _ _) hHeld.2.1 | exact cell_later (below_alloc _ _) hHeld.2.2 | exact cell_later (below_alloc _ _) hHeld.2.2.1 | exact cell_later (below_alloc _ _) hHeld.2.2.2)
        clear hK K
        (try go_frame)
        refine wpAnyH_ready (rs := [11]) (by kernel_rfl) (by simp) ?_
        refine AllReadyH.cons (o := { dst := some 59, op := Go.Op.call { callee := Go.Callee.value (Go.Operand.func 159), args := #[Go.Operand.tmp 54, Go.Operand.tmp 58], argTypes := #[314, 311] }, type := 0, pos := "shared.go:28", after := #[{ on := 6, ground := Go.Ground.data }, { on := 10, ground := Go.Ground.data }], guard := none }) (by rfl) (fun K hK => ?_) AllReadyH.nil
        go_simp
        refine (atomStore bP 1 W5.heap.size (.pointer none) ((edNew w4.heap.size).getD 0 undef) _ ?_ ?_ ?_).mono ?_
        · exact cell_later (Below.drew (below_alloc _ _)) hcP1
        · exact ((Below.drew (below_alloc W5 _)).frozen (p := ⟨bP, 1, none⟩) hltP).trans hfP1
        · exact (Row.new' (w := W5) (xs := edNew w4.heap.size) (t := 241) rfl).drew.cell_of rfl
        rintro e w6 ⟨rfl, hw6⟩
        have H6 := hide hw6
        clear hw6
        go_wp2_with fail
        refine hK.out _ _ ?_ (fun hHeld => ?_)
        · (rw [H6.out]; (repeat' apply And.intro) <;> (refine (World.cell?_setCell_far _ _ _ _ (by first | exact Ne.symm hneS | exact Ne.symm hneV)).trans ?_; first | exact hHeld.1 | exact hHeld.2.1 | exact hHeld.2.2 | exact hHeld.2.2.1 | exact hHeld.2.2.2))
        clear hK K
        (try go_frame)
        refine wpAnyH_done (by kernel_rfl) ?_ _
        (try go_wp2_with fail)
        go_ret
        have hfin := ShI.done HI.out hb4 HW5.out H6.out (by omega) (by omega) z3 (by omega) (by omega) (by omega) (by omega) (by omega) (by omega)
        exact ⟨bS, bTg, bAn, bP, bW, w4.heap.size, W5.heap.size, rfl, hfin.1.base (by omega), hb0.trans (hfin.2.mono (by omega))⟩

end Go.Proofs.YtefjhnhdagolhaaGreat.list
