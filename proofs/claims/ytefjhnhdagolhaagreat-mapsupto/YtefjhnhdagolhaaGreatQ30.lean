import Derived.Test.YtefjhnhdagolhaaGreatQ29
import Derived.Test.YtefjhnhdagolhaaGreatQ12
import Derived.Test.YtefjhnhdagolhaaGreatQ05
namespace Go.Proofs.YtefjhnhdagolhaaGreat.tree
open Go.RowKit
open M (upd upd_same upd_other Ver ETh ESt RSt RTh wds statusAt valueAt)
attribute [local go_sem ↓] Go.wp_at_zero Go.wp_at_succ
section
variable {σ : Type} {R : SR σ} {L : Lt} {S : Nat → Prop} {E : ESt σ} {w : World} {t : Nat}
set_option maxRecDepth 20000 in
set_option maxHeartbeats 1000000 in
theorem Answer_bad (h : RE R L S E w) (x : Int) (hx : ¬ (0 ≤ x ∧ x < L.n)) :
    Calls Tryz.prog 323 #[.pointer (some ⟨L.bE, 0, none⟩), .int .i64 x] w fun e w' => e = .returned (.tuple #[.agg #[.int .i64 0, .int .i64 0], .int .i64 3]) ∧ Below w.heap.size w w' := by
  have HH := hide (fun ob => has_w (h.below (below_alloc w ob)) x)
  have HX := hide (show decide (0 ≤ x ∧ x < (L.n : Int)) = false by simpa using hx)
  clear h hx
  go_enter Tryz.func323, Tryz.ntmps323
  go_wp2_with fail
  refine (HH.out _).mono ?_
  rintro e w1 ⟨rfl, rfl⟩
  rw [HX.out]
  go_wp2_with fail
  exact bodyPost_ret (v := .tuple #[.agg #[.int .i64 0, .int .i64 0], .int .i64 3]) (by simp [results, Tryz.results323, go_sem]) rfl ⟨rfl, (by repeat (first | exact Below.refl _ _ | assumption | refine Below.drewN ?_ _ | refine Below.alloc ?_ (by simp) _))⟩
set_option maxRecDepth 20000 in
set_option maxHeartbeats 1000000 in
theorem Answer_busy (h : RE R L S E w) (ht : t < L.n) (hp : (E.th t).phase ≠ 0) :
    Calls Tryz.prog 323 #[.pointer (some ⟨L.bE, 0, none⟩), .int .i64 (t : Int)] w fun e w' => e = .returned (.tuple #[.agg #[.int .i64 0, .int .i64 0], .int .i64 4]) ∧ Below w.heap.size w w' := by
  have HH := hide (fun ob => has_w (h.below (below_alloc w ob)) (t : Int))
  have HB := hide (fun ob => busy_w (h.below (below_alloc w ob)) ht)
  have HX := hide (show decide (0 ≤ (t : Int) ∧ (t : Int) < (L.n : Int)) = true by simp; omega)
  have HP := hide (show decide ((E.th t).phase ≠ 0) = true by simpa using hp)
  have hc : w.cell? ⟨L.bE, 1, none⟩ = some (.slice (some ⟨L.g, 0, none⟩) L.n L.gc) := h.eng.cell_of rfl
  have hc' := fun ob => cell_new hc ob
  have ht' : (t : Int) < (L.n : Int) := by omega
  clear h hp
  go_enter Tryz.func323, Tryz.ntmps323
  go_wp2_with fail
  refine (HH.out _).mono ?_
  rintro e w1 ⟨rfl, rfl⟩
  rw [HX.out]
  go_wp2_with fail
  refine (HB.out _).mono ?_
  rintro e w1 ⟨rfl, rfl⟩
  rw [HP.out]
  go_wp2_with fail
  exact bodyPost_ret (v := .tuple #[.agg #[.int .i64 0, .int .i64 0], .int .i64 4]) (by simp [results, Tryz.results323, go_sem]) rfl ⟨rfl, (by repeat (first | exact Below.refl _ _ | assumption | refine Below.drewN ?_ _ | refine Below.alloc ?_ (by simp) _))⟩
set_option maxRecDepth 20000 in
set_option maxHeartbeats 1000000 in
theorem Answer_none (h : RE R L S E w) (ht : t < L.n) (hp : (E.th t).phase = 0) (he : (E.th t).ended = false) :
    Calls Tryz.prog 323 #[.pointer (some ⟨L.bE, 0, none⟩), .int .i64 (t : Int)] w fun e w' => e = .returned (.tuple #[.agg #[.int .i64 0, .int .i64 0], .int .i64 5]) ∧ Below w.heap.size w w' := by
  have HH := hide (fun ob => has_w (h.below (below_alloc w ob)) (t : Int))
  have HB := hide (fun ob => busy_w (h.below (below_alloc w ob)) ht)
  have HX := hide (show decide (0 ≤ (t : Int) ∧ (t : Int) < (L.n : Int)) = true by simp; omega)
  have HP := hide (show decide ((E.th t).phase ≠ 0) = false by simpa using hp)
  have hc : w.cell? ⟨L.bE, 1, none⟩ = some (.slice (some ⟨L.g, 0, none⟩) L.n L.gc) := h.eng.cell_of rfl
  have hc' := fun ob => cell_new hc ob
  have ht' : (t : Int) < (L.n : Int) := by omega
  obtain ⟨cv, cf, pv, hce, hcv, hcf, -, -⟩ := h.cells ht rfl
  obtain ⟨c0, c1, rfl⟩ := list_cells hcv.1
  obtain ⟨d0, d1, rfl⟩ := list_cells hcf.1
  have e1 : w.cell? ⟨L.g, t * 28 + 27, none⟩ = some (.bool false) := by have := hce 27 _ (by decide) rfl; rw [he] at this; exact this
  have e1' := fun ob => cell_new e1 ob
  clear h hp hce hcv hcf he
  go_enter Tryz.func323, Tryz.ntmps323
  go_wp2_with fail
  refine (HH.out _).mono ?_
  rintro e w1 ⟨rfl, rfl⟩
  rw [HX.out]
  go_wp2_with fail
  refine (HB.out _).mono ?_
  rintro e w1 ⟨rfl, rfl⟩
  rw [HP.out]
  go_wp2_with fail
  exact bodyPost_ret (v := .tuple #[.agg #[.int .i64 0, .int .i64 0], .int .i64 5]) (by simp [results, Tryz.results323, go_sem]) rfl ⟨rfl, (by repeat (first | exact Below.refl _ _ | assumption | refine Below.drewN ?_ _ | refine Below.alloc ?_ (by simp) _))⟩
set_option maxRecDepth 20000 in
set_option maxHeartbeats 1000000 in
theorem Answer_last (h : RE R L S E w) (ht : t < L.n) (hp : (E.th t).phase = 0) (he : (E.th t).ended = true) :
    Calls Tryz.prog 323 #[.pointer (some ⟨L.bE, 0, none⟩), .int .i64 (t : Int)] w fun e w' => e = .returned (.tuple #[.agg #[.int .i64 (E.th t).sta, .int .i64 (E.th t).val], .int .i64 0]) ∧ Below w.heap.size w w' := by
  have HH := hide (fun ob => has_w (h.below (below_alloc w ob)) (t : Int))
  have HB := hide (fun ob => busy_w (h.below (below_alloc w ob)) ht)
  have HX := hide (show decide (0 ≤ (t : Int) ∧ (t : Int) < (L.n : Int)) = true by simp; omega)
  have HP := hide (show decide ((E.th t).phase ≠ 0) = false by simpa using hp)
  have hc : w.cell? ⟨L.bE, 1, none⟩ = some (.slice (some ⟨L.g, 0, none⟩) L.n L.gc) := h.eng.cell_of rfl
  have hc' := fun ob => cell_new hc ob
  have ht' : (t : Int) < (L.n : Int) := by omega
  obtain ⟨cv, cf, pv, hce, hcv, hcf, -, -⟩ := h.cells ht rfl
  obtain ⟨c0, c1, rfl⟩ := list_cells hcv.1
  obtain ⟨d0, d1, rfl⟩ := list_cells hcf.1
  have e1 : w.cell? ⟨L.g, t * 28 + 27, none⟩ = some (.bool true) := by have := hce 27 _ (by decide) rfl; rw [he] at this; exact this
  have e1' := fun ob => cell_new e1 ob
  have e2 : w.cell? ⟨L.g, t * 28 + 25, none⟩ = some (.int .i64 (E.th t).sta) := hce 25 _ (by decide) rfl
  have e2' := fun ob => cell_new e2 ob
  have e3 : w.cell? ⟨L.g, t * 28 + 25 + 1, none⟩ = some (.int .i64 (E.th t).val) := hce 26 _ (by decide) rfl
  have e3' := fun ob => cell_new e3 ob
  clear h hp hce hcv hcf he
  go_enter Tryz.func323, Tryz.ntmps323
  go_wp2_with fail
  refine (HH.out _).mono ?_
  rintro e w1 ⟨rfl, rfl⟩
  rw [HX.out]
  go_wp2_with fail
  refine (HB.out _).mono ?_
  rintro e w1 ⟨rfl, rfl⟩
  rw [HP.out]
  go_wp2_with fail
  exact bodyPost_ret (v := .tuple #[.agg #[.int .i64 (E.th t).sta, .int .i64 (E.th t).val], .int .i64 0]) (by simp [results, Tryz.results323, go_sem]) rfl ⟨rfl, (by repeat (first | exact Below.refl _ _ | assumption | refine Below.drewN ?_ _ | refine Below.alloc ?_ (by simp) _))⟩
end
end Go.Proofs.YtefjhnhdagolhaaGreat.tree
namespace Go.Proofs.YtefjhnhdagolhaaGreat.tree
open Go.RowKit
open M (upd upd_same upd_other Ver ETh ESt RSt RTh wds statusAt valueAt)
section
variable {σ : Type} {R : SR σ} {P : M.Plain σ} {L : Lt} {S : Nat → Prop} {E : ESt σ} {Y : RSt} {w : World} {t : Nat}
structure Both (R : SR σ) (P : M.Plain σ) (L : Lt) (S : Nat → Prop) (E : ESt σ) (Y : RSt) (w : World) : Prop where
  re : RE R L S E w
  inv : M.Inv P L.n L.cap E Y
  bnd : M.Bnd L.n E
  szs : M.Szs R.sz L.n E Y
theorem Both.idle (h : Both R P L S E Y w) (ht : t < L.n) : (E.th t).phase = 0 ↔ (Y.th t).part = 0 := by
  obtain ⟨pb, nf, -, -, T⟩ := h.inv
  have X := T t ht
  have h11 := X.p1
  constructor
  · intro q
    by_cases c : (Y.th t).part = 11
    · have := X.p4 c; omega
    · have := X.p2 (by omega); omega
  · intro q
    have := X.p2 (by omega)
    omega
theorem Both.phase (h : Both R P L S E Y w) (ht : t < L.n) : (E.th t).phase ≤ 13 := by
  obtain ⟨pb, nf, -, -, T⟩ := h.inv
  have X := T t ht
  have h11 := X.p1
  by_cases c : (Y.th t).part = 11
  · have := X.p4 c; omega
  · have := X.p2 (by omega); omega
theorem Both.pst (h : Both R P L S E Y w) : E.pst = Y.bs.length := by obtain ⟨pb, nf, q, -, -⟩ := h.inv; exact q
theorem Both.can (h : Both R P L S E Y w) (ht : t < L.n) (hN : Y.bs.length ≤ 1000000000) : Can L E t :=
  Can.of h.re.ok.n64 h.re.ok.c64 h.inv h.bnd (by rw [h.pst]; exact hN) ht
theorem Both.sz8 (h : Both R P L S E Y w) (ht : t < L.n) (hN : Y.bs.length ≤ 1000000000) (hF : Y.bs.flatten.length ≤ 100000000000) : (E.th t).phase = 8 → ∀ v, (E.th t).now = some v → R.sz v.st ≤ 1000000000000 := fun p8 => by
  obtain ⟨-, h1, h2, -⟩ := (h.can ht hN).p8 p8
  exact h.szs.bound ht hF (by omega) p8
theorem Both.spare (h : Both R P L S E Y w) (ht : t < L.n) : (E.th t).spare < 2 * L.n + 1 := by
  obtain ⟨pb, nf, -, -, T⟩ := h.inv
  rcases (T t ht).sp with q | q <;> omega
structure Goes (R : SR σ) (P : M.Plain σ) (L : Lt) (S : Nat → Prop) (w : World) (Y' : RSt) (w' : World) : Prop where
  ex : ∃ E', Both R P L (grown S w w') E' Y' w'
  fr : Fr L.own w w'
theorem Goes.left {E' : ESt σ} {Y' : RSt} {w' : World} (h : Left R L S w E' w') (hi : M.Inv P L.n L.cap E' Y') (hb : M.Bnd L.n E') (hz : M.Szs R.sz L.n E' Y') : Goes R P L S w Y' w' := ⟨⟨E', h.re, hi, hb, hz⟩, h.fr⟩
theorem Both.below (h : Both R P L S E Y w) {w' : World} (hb : Below w.heap.size w w') : Goes R P L S w Y w' := Goes.left (Left.below h.re hb) h.inv h.bnd h.szs
theorem Begin_b (h : Both R P L S E Y w) (o : M.Op) :
    (∀ x : Int, ¬ (0 ≤ x ∧ x < L.n) → Calls Tryz.prog 324 #[.pointer (some ⟨L.bE, 0, none⟩), .int .i64 x, .agg #[.int .i64 o.c, .int .i64 o.a, .int .i64 o.b]] w fun e w' => e = .returned (.int .i64 3) ∧ Goes R P L S w Y w')
    ∧ ∀ t, t < L.n → Calls Tryz.prog 324 #[.pointer (some ⟨L.bE, 0, none⟩), .int .i64 (t : Int), .agg #[.int .i64 o.c, .int .i64 o.a, .int .i64 o.b]] w fun e w' => e = .returned (.int .i64 (if (Y.th t).part = 0 then 0 else 4)) ∧ Goes R P L S w (if (Y.th t).part = 0 then M.rbegin Y t o else Y) w' := by
  refine ⟨fun x hx => ?_, fun t ht => ?_⟩
  · refine (Begin_bad h.re x hx o).mono ?_
    rintro e w' ⟨rfl, hl⟩
    exact ⟨rfl, Goes.left hl h.inv h.bnd h.szs⟩
  · by_cases q : (Y.th t).part = 0
    · simp only [if_pos q]
      refine (Begin_idle h.re ht ((h.idle ht).mpr q) o).mono ?_
      rintro e w' ⟨rfl, hl⟩
      exact ⟨rfl, Goes.left hl (M.sim_begin h.inv ht q o) (h.bnd.begin ht o) (h.szs.begin o)⟩
    · simp only [if_neg q]
      refine (Begin_busy h.re ht (fun c => q ((h.idle ht).mp c)) o).mono ?_
      rintro e w' ⟨rfl, hl⟩
      exact ⟨rfl, Goes.left hl h.inv h.bnd h.szs⟩
theorem Step_b {fA : Nat} {rv : Value} (hA : ApOk R P L fA rv) (h : Both R P L S E Y w) (hN : Y.bs.length ≤ 1000000000) (hF : Y.bs.flatten.length ≤ 100000000000) :
    (∀ x : Int, ¬ (0 ≤ x ∧ x < L.n) → Calls Tryz.prog 329 #[.pointer (some ⟨L.bE, 0, none⟩), .int .i64 x] w fun e w' => e = .returned (.tuple #[.int .i64 0, .int .i64 3]) ∧ Goes R P L S w Y w')
    ∧ (∀ t, t < L.n → (Y.th t).part = 0 → Calls Tryz.prog 329 #[.pointer (some ⟨L.bE, 0, none⟩), .int .i64 (t : Int)] w fun e w' => e = .returned (.tuple #[.int .i64 0, .int .i64 5]) ∧ Goes R P L S w Y w')
    ∧ ∀ t, t < L.n → (Y.th t).part ≠ 0 → Calls Tryz.prog 329 #[.pointer (some ⟨L.bE, 0, none⟩), .int .i64 (t : Int)] w fun e w' => e = .returned (.tuple #[.int .i64 (if (M.rstep L.n L.cap Y t).2 = true then 2 else 1), .int .i64 0]) ∧ Goes R P L S w (M.rstep L.n L.cap Y t).1 w' := by
  refine ⟨fun x hx => ?_, fun t ht hp => ?_, fun t ht hp => ?_⟩
  · refine (Step_bad h.re x hx).mono ?_
    rintro e w' ⟨rfl, rfl⟩
    exact ⟨rfl, h.below (Below.refl _ _)⟩
  · refine (Step_idle h.re ht ((h.idle ht).mpr hp)).mono ?_
    rintro e w' ⟨rfl, rfl⟩
    exact ⟨rfl, h.below (Below.refl _ _)⟩
  · have hph : 1 ≤ (E.th t).phase := by have := mt (h.idle ht).mp hp; omega
    obtain ⟨s1, s2⟩ := M.sim_step (Nat.lt_of_lt_of_le (by decide) h.re.ok.n1) h.inv ht hp
    refine (Step_busy hA h.re ht (h.can ht hN) (h.sz8 ht hN hF) hph (h.phase ht)).mono ?_
    rintro e w' ⟨rfl, hl⟩
    have hB : Both R P L (grown S w w') (M.step P L.n L.cap E t) (M.rstep L.n L.cap Y t).1 w' := ⟨hl.re, s1, h.bnd.step ht (h.spare ht), h.szs.step hA.z h.inv ht⟩
    refine ⟨?_, ⟨_, hB⟩, hl.fr⟩
    rw [s2]
    have := hB.idle ht
    by_cases q : ((M.rstep L.n L.cap Y t).1.th t).part = 0
    · rw [if_pos (this.mpr q), if_pos (by simpa using q)]
    · rw [if_neg (fun c => q (this.mp c)), if_neg (by simpa using q)]
def ansOf (P : M.Plain σ) (Y : RSt) (t : Nat) : M.Ans := (M.replay P (fun k i => ((Y.th k).ops).getD i ⟨0, 0, 0⟩) Y.bs).an t
theorem Answer_b (h : Both R P L S E Y w) :
    (∀ x : Int, ¬ (0 ≤ x ∧ x < L.n) → Calls Tryz.prog 323 #[.pointer (some ⟨L.bE, 0, none⟩), .int .i64 x] w fun e w' => e = .returned (.tuple #[.agg #[.int .i64 0, .int .i64 0], .int .i64 3]) ∧ Below w.heap.size w w')
    ∧ ∀ t, t < L.n → Calls Tryz.prog 323 #[.pointer (some ⟨L.bE, 0, none⟩), .int .i64 (t : Int)] w fun e w' => e = .returned (if (Y.th t).part ≠ 0 then .tuple #[.agg #[.int .i64 0, .int .i64 0], .int .i64 4] else if (Y.th t).ended = 0 then .tuple #[.agg #[.int .i64 0, .int .i64 0], .int .i64 5] else .tuple #[.agg #[.int .i64 (ansOf P Y t).s, .int .i64 (ansOf P Y t).v], .int .i64 0]) ∧ Below w.heap.size w w' := by
  refine ⟨fun x hx => Answer_bad h.re x hx, fun t ht => ?_⟩
  have hi := h.idle ht
  obtain ⟨pb, nf, -, -, T⟩ := h.inv
  have X := T t ht
  by_cases q : (Y.th t).part = 0
  · rw [if_neg (by simpa using q)]
    by_cases c : (Y.th t).ended = 0
    · rw [if_pos c]
      exact Answer_none h.re ht (hi.mpr q) (by rw [X.en]; simp [c])
    · rw [if_neg c]
      obtain ⟨a1, a2⟩ := X.a0 q (by omega)
      have e1 : (E.th t).sta = (ansOf P Y t).s := a1
      have e2 : (E.th t).val = (ansOf P Y t).v := a2
      have := Answer_last h.re ht (hi.mpr q) (by rw [X.en]; simp; omega)
      rw [e1, e2] at this
      exact this
  · rw [if_pos q]
    exact Answer_busy h.re ht (fun c => q (hi.mp c))
end
end Go.Proofs.YtefjhnhdagolhaaGreat.tree
namespace Go.Proofs.YtefjhnhdagolhaaGreat.tree
open Go.RowKit
open M (upd upd_same upd_other Ver ETh ESt RSt RTh wds statusAt valueAt)
attribute [local go_sem ↓] Go.wp_at_zero Go.wp_at_succ
def numOf : List (Nat × List Nat) → Nat | [] => 0 | (q, _) :: _ => q
theorem BRep.num {I : Nat → Prop} {w : World} {bs : List (Nat × List Nat)} {b : Nat} (h : BRep I w bs b) : w.cell? ⟨b, 0, none⟩ = some (.int .i64 (numOf bs : Int)) := by
  cases bs with
  | nil => exact h.2.cell_of rfl
  | cons x bs =>
    obtain ⟨v, b', -, h2, -⟩ := h
    exact h2.cell_of rfl
section
variable {σ : Type} {R : SR σ} {P : M.Plain σ} {L : Lt} {S : Nat → Prop} {E : ESt σ} {Y : RSt} {w : World} {t : Nat}
set_option maxRecDepth 20000 in
set_option maxHeartbeats 2000000 in
theorem versionSince_w (h : RE R L S E w) {v f : Ver σ} (hv : E.rst E.prec = some (v, f)) (hp : E.prec < 2 * L.n + 1) (hN : E.pst ≤ 1000000000) (hnum : numOf v.bs.reverse = E.pst) :
    Calls Tryz.prog 350 #[.pointer (some ⟨L.bS, 0, none⟩), .int .i64 ((E.pst : Int) * 129 + (E.prec : Int))] w fun e w' => ∃ q0 bB, e = .returned (.agg #[.pointer q0, .pointer (some ⟨bB, 0, none⟩)]) ∧ R.rep (fun k => S k ∧ ¬ L.own k) w v.st [.pointer q0] ∧ BRep (fun k => S k ∧ ¬ L.own k) w v.bs.reverse bB ∧ Below w.heap.size w w' := by
  obtain ⟨b, cv, cf, hpb, -, hrow, hvr, hfr⟩ : ∃ b cv cf, w.cell? ⟨L.bP, E.prec * 2 + 1, none⟩ = some (.pointer (some ⟨b, 0, none⟩)) ∧ (S b ∧ ¬ L.own b) ∧ Row w b 269 (cv ++ cf) ∧ VRep R (fun k => S k ∧ ¬ L.own k) w v cv ∧ VRep R (fun k => S k ∧ ¬ L.own k) w f cf := by
    obtain ⟨sp, q1, q2⟩ := h.po
    obtain ⟨b, cv, cf, a1, a2, a3, a4, a5⟩ := q2 E.prec hp v f hv
    refine ⟨b, cv, cf, ?_, a2, a3, a4, a5⟩
    have := q1.cell hp (show 1 < 2 by decide)
    rw [this, a1]
    rfl
  obtain ⟨sc, bB, rfl, hrp, hbr⟩ := hvr
  obtain ⟨x0, rfl⟩ := list_one (R.len hrp)
  obtain ⟨q0, rfl⟩ := R.shape hrp x0 (by simp)
  obtain ⟨y0, y1, rfl⟩ := list_cells (VRep.len R hfr)
  have hn := h.ok.n64
  have c4 : w.cell? ⟨L.bS, 4, none⟩ = some (.slice (some ⟨L.bP, 0, none⟩) (2 * L.n + 1) (2 * L.n + 1)) := h.sh.cell_of rfl
  have cB := hbr.num
  rw [hnum] at cB
  have hm := hide (show (((E.pst : Int) * 129 + (E.prec : Int)) % 129 = (E.prec : Int)) ∧ (((E.pst : Int) * 129 + (E.prec : Int)) / 129 = (E.pst : Int)) by omega)
  have hp' : (E.prec : Int) < 2 * (L.n : Int) + 1 := by omega
  have hp0 : (0 : Int) ≤ (E.prec : Int) := by omega
  have HRR := hide (And.intro hrp hbr)
  have HRow := hide hrow
  have HPB := hide hpb
  have HCB := hide cB
  have HC4 := hide c4
  clear h hv hfr hrp hbr hrow hpb cB c4 hnum
  go_enter Tryz.func350, Tryz.ntmps350
  go_wp2
  generalize hW0 : World.alloc w _ = W0
  have hb0 : Below w.heap.size w W0 := by rw [← hW0]; exact below_alloc w _
  have d4 := cell_later hb0 HC4.out
  have HDP := hide (cell_later hb0 HPB.out)
  have HDR := hide (HRow.out.old hb0)
  have dB := cell_later hb0 HCB.out
  have HZ0 := hide (show Row W0 w.heap.size 267 ([.pointer none] ++ [.pointer none]) by rw [← hW0]; exact Row.new' rfl)
  have HB0 := hide hb0
  clear hW0 hb0
  have A1 := hide (fun n => Calls.quiet_of_same (n := n) (pubRecord ((E.pst : Int) * 129 + (E.prec : Int)) (W0.drewN n) (by omega) (by omega)))
  rw [hm.out.1] at A1
  have A2 := hide (fun n => Calls.quiet_of_same (n := n) (atomLoad L.bP (E.prec * 2 + 1) b _ (W0.drewN n) HDP.out (HDR.out.drewN _) rfl))
  go_quiet ((first | (go_at_call 223; with_reducible exact A1.out _) | (go_at_call 359; with_reducible exact A2.out _)))
  generalize hW5 : World.drewN W0 nq = W5
  have hr5 := HDR.out.drewN nq
  rw [hW5] at hr5
  have HR5 := hide hr5
  clear hr5
  have k1 : W5.cell? ⟨b, 1, none⟩ = some (.pointer (some ⟨bB, 0, none⟩)) := HR5.out.cell_of rfl
  have k2 : W5.cell? ⟨bB, 0, none⟩ = some (.int .i64 (E.pst : Int)) := by rw [← hW5]; exact dB
  have HZ5 := hide (show Row W5 w.heap.size 267 ([.pointer none] ++ [.pointer none]) by rw [← hW5]; exact HZ0.out)
  have HB5 := hide (show Below w.heap.size w W5 by rw [← hW5]; exact Below.drewN HB0.out _)
  clear hW5 d4 dB A1 A2
  have A3 := hide (fun n => Calls.quiet_of_same (n := n) (pubStamp ((E.pst : Int) * 129 + (E.prec : Int)) (W5.drewN n) (by omega) (by omega)))
  rw [hm.out.2] at A3
  go_wp2
  go_quiet ((go_at_call 226; with_reducible exact A3.out _))
  generalize hW6 : World.drewN W5 nq = W6
  have hE6 := HR5.out.drewN nq
  rw [hW6] at hE6
  have hZ6 : Row W6 w.heap.size 267 ([.pointer none] ++ [.pointer none]) := by rw [← hW6]; exact HZ5.out
  have y0 : W6.cell? ⟨b, 0, none⟩ = some _ := hE6.cell_of rfl
  have y1 : W6.cell? ⟨b, 1, none⟩ = some _ := hE6.cell_of rfl
  have z0 : W6.cell? ⟨w.heap.size, 0, none⟩ = some _ := hZ6.cell_of rfl
  have z1 : W6.cell? ⟨w.heap.size, 1, none⟩ = some _ := hZ6.cell_of rfl
  have zf := hZ6.frozen
  have HB6 := hide (show Below w.heap.size w W6 by rw [← hW6]; exact Below.drewN HB5.out _)
  clear hW6 k1 k2 hE6 hZ6 A3
  go_wp2
  refine bodyPost_ret (v := .agg #[.pointer q0, .pointer (some ⟨bB, 0, none⟩)]) (by simp [results, Tryz.results350, go_sem, *]) rfl ⟨q0, bB, rfl, HRR.out.1, HRR.out.2, ?_⟩
  repeat (refine Below.setCell ?_ (by simp) _)
  exact HB6.out
set_option maxRecDepth 20000 in
set_option maxHeartbeats 1000000 in
theorem newest_w (h : RE R L S E w) {v f : Ver σ} (hv : E.rst E.prec = some (v, f)) (hp : E.prec < 2 * L.n + 1) (hN : E.pst ≤ 1000000000) (hnum : numOf v.bs.reverse = E.pst) :
    Calls Tryz.prog 335 #[.pointer (some ⟨L.bS, 0, none⟩)] w fun e w' => ∃ q0 bB, e = .returned (.agg #[.pointer q0, .pointer (some ⟨bB, 0, none⟩)]) ∧ R.rep (fun k => S k ∧ ¬ L.own k) w v.st [.pointer q0] ∧ BRep (fun k => S k ∧ ¬ L.own k) w v.bs.reverse bB ∧ Below w.heap.size w w' := by
  have c5 : w.cell? ⟨L.bS, 5, none⟩ = some (.int .i64 ((E.pst : Int) * 129 + (E.prec : Int))) := h.sh.cell_of rfl
  have HH := hide h
  have HC5 := hide c5
  have HV := hide (And.intro hv hnum)
  clear h c5 hv hnum
  go_enter Tryz.func335, Tryz.ntmps335
  go_wp2_with fail
  refine (pubRead L.bS 5 _ _ (cell_new HC5.out _)).mono ?_
  rintro e w1 ⟨rfl, rfl⟩
  go_wp2_with fail
  refine (versionSince_w (S := S) (HH.out.stay (fun k hk => (below_alloc w _).block k (HH.out.lt k hk)) (fun _ hk => hk) (fun k hk => Nat.lt_of_lt_of_le (HH.out.lt k hk) (by simp))) HV.out.1 hp hN HV.out.2).mono ?_
  rintro e w2 ⟨q0, bB, rfl, hr2, hbr2, hb2⟩
  have hZ : Row w2 w.heap.size 267 ([.pointer none] ++ [.pointer none]) := (Row.new' rfl).old hb2
  have HB := hide (Below.next (below_alloc w _) hb2 (by simp))
  have HRR := hide (And.intro (R.stay (fun k hk _ => ⟨hk, ((below_alloc w _).block k (HH.out.lt k hk.1)).symm⟩) hr2) (BRep.stay (fun k hk _ => ⟨hk, ((below_alloc w _).block k (HH.out.lt k hk.1)).symm⟩) (fun k hk => Nat.lt_of_lt_of_le (HH.out.lt k hk.1) (by simp)) _ _ hbr2))
  have z0 : w2.cell? ⟨w.heap.size, 0, none⟩ = some _ := hZ.cell_of rfl
  have z1 : w2.cell? ⟨w.heap.size, 1, none⟩ = some _ := hZ.cell_of rfl
  have zf := hZ.frozen
  clear hZ hb2 hr2 hbr2
  go_wp2
  refine bodyPost_ret (v := .agg #[.pointer q0, .pointer (some ⟨bB, 0, none⟩)]) (by simp [results, Tryz.results335, go_sem, *]) rfl ⟨q0, bB, rfl, HRR.out.1, HRR.out.2, ?_⟩
  repeat (refine Below.setCell ?_ (by simp) _)
  exact HB.out
end
end Go.Proofs.YtefjhnhdagolhaaGreat.tree
