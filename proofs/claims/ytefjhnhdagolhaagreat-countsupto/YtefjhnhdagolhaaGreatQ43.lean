import Derived.Test.YtefjhnhdagolhaaGreatQ30
namespace Go.Proofs.YtefjhnhdagolhaaGreat.M
def YI {σ : Type} (P : Plain σ) (n cap : Nat) (Y : RSt) : Prop := ∃ E, Inv P n cap E Y
section
variable {σ : Type} {P : Plain σ} {n cap : Nat} {Y : RSt} {t : Nat}
theorem YI.ok (h : YI P n cap Y) : YOk n cap Y := by obtain ⟨E, h⟩ := h; exact h.yok
theorem YI.step (hn : 0 < n) (h : YI P n cap Y) (ht : t < n) (hp : (Y.th t).part ≠ 0) : YI P n cap (rstep n cap Y t).1 := by
  obtain ⟨E, h⟩ := h
  exact ⟨_, (sim_step hn h ht hp).1⟩
theorem YI.begin (h : YI P n cap Y) (ht : t < n) (hp : (Y.th t).part = 0) (o : Op) : YI P n cap (rbegin Y t o) := by
  obtain ⟨E, h⟩ := h
  exact ⟨_, sim_begin h ht hp o⟩
theorem YI.new (P : Plain σ) (n cap : Nat) : YI P n cap Y0 := ⟨_, inv_new P n cap ⟨P.first, []⟩⟩
theorem YI.word (hn : 0 < n) (h : YI P n cap Y) (ht : t < n) (hp : (Y.th t).part ≠ 0) : (rstep n cap Y t).2 = decide (((rstep n cap Y t).1.th t).part = 0) := by
  obtain ⟨E, h⟩ := h
  exact (sim_step hn h ht hp).2
end
theorem fail_ops (n cap : Nat) (x : RTh) : (x.fail n cap).ops = x.ops := by
  unfold RTh.fail
  split <;> rw [(enter_keeps _ _ _).1]
theorem over_bs (n cap : Nat) (Y : RSt) (t : Nat) (x : RTh) : (over n cap Y t x).1.bs.length ≤ Y.bs.length + 1 ∧ Y.bs.length ≤ (over n cap Y t x).1.bs.length := by
  unfold over
  split <;> (try split) <;> simp [RSt.set]
theorem over_ops (n cap : Nat) (Y : RSt) (t : Nat) (x : RTh) (k : Nat) : ((over n cap Y t x).1.th k).ops = if k = t then x.ops else (Y.th k).ops := by
  by_cases e : k = t
  · subst e
    rw [if_pos rfl]
    unfold over
    split <;> (try split) <;> simp only [RSt.set, upd_same, (enter_keeps _ _ _).1, fail_ops]
  · rw [if_neg e]
    unfold over
    split <;> (try split) <;> simp only [RSt.set, upd_other _ _ e]
theorem rstep_bs (n cap : Nat) (Y : RSt) (t : Nat) : (rstep n cap Y t).1.bs.length ≤ Y.bs.length + 1 ∧ Y.bs.length ≤ (rstep n cap Y t).1.bs.length := by
  unfold rstep
  dsimp only
  split
  · exact ⟨Nat.le_succ _, Nat.le_refl _⟩
  · exact over_bs _ _ _ _ _
theorem rstep_ops (n cap : Nat) (Y : RSt) (t k : Nat) : ((rstep n cap Y t).1.th k).ops = (Y.th k).ops := by
  unfold rstep
  dsimp only
  split
  · simp only [RSt.set]
    by_cases e : k = t
    · subst e; rw [upd_same]
    · rw [upd_other _ _ e]
  · rw [over_ops]
    by_cases e : k = t
    · subst e; rw [if_pos rfl]
    · rw [if_neg e]
def doneOf (n cap t : Nat) : Nat → RSt → RSt
  | 0, Y => Y
  | f + 1, Y => if (Y.th t).part = 0 then Y else doneOf n cap t f (rstep n cap Y t).1
section
variable {σ : Type} {P : Plain σ} {n cap : Nat} {t : Nat}
theorem rank_pos {Y : RSt} (h : TOk n cap (Y.th t)) (hp : (Y.th t).part ≠ 0) : 0 < (Y.th t).rank n cap := by
  have := (h.p2 hp).1
  unfold RTh.rank
  rw [if_neg hp]
  omega
theorem doneOf_more (hn : 0 < n) (ht : t < n) : ∀ (f f' : Nat) (Y : RSt), YI P n cap Y → (Y.th t).rank n cap ≤ f → (Y.th t).rank n cap ≤ f' → doneOf n cap t f Y = doneOf n cap t f' Y
  | 0, f', Y, h, h1, _ => by
    have hp : (Y.th t).part = 0 := by
      by_cases hp : (Y.th t).part = 0
      · exact hp
      · have := rank_pos (h.ok.th t ht) hp; omega
    cases f' with
    | zero => rfl
    | succ f' => simp only [doneOf, if_pos hp]
  | f + 1, 0, Y, h, _, h2 => by
    have hp : (Y.th t).part = 0 := by
      by_cases hp : (Y.th t).part = 0
      · exact hp
      · have := rank_pos (h.ok.th t ht) hp; omega
    simp only [doneOf, if_pos hp]
  | f + 1, f' + 1, Y, h, h1, h2 => by
    simp only [doneOf]
    by_cases hp : (Y.th t).part = 0
    · rw [if_pos hp, if_pos hp]
    · rw [if_neg hp, if_neg hp]
      have := rank_step hn (h.ok.th t ht) hp
      exact doneOf_more hn ht f f' _ (h.step hn ht hp) (by omega) (by omega)
def fin (n cap t : Nat) (Y : RSt) : RSt := doneOf n cap t 100000 Y
theorem fin_step (hn : 0 < n) (ht : t < n) {Y : RSt} (h : YI P n cap Y) (hr : (Y.th t).rank n cap ≤ 90000) (hp : (Y.th t).part ≠ 0) : fin n cap t (rstep n cap Y t).1 = fin n cap t Y := by
  have := rank_step hn (h.ok.th t ht) hp
  obtain ⟨f, hf, hf2⟩ : ∃ f, 100000 = f + 1 ∧ 90000 ≤ f := ⟨99999, rfl, by decide⟩
  unfold fin
  rw [hf]
  have e : doneOf n cap t (f + 1) Y = doneOf n cap t f (rstep n cap Y t).1 := by simp only [doneOf, if_neg hp]
  rw [e]
  exact doneOf_more (P := P) hn ht (f + 1) f _ (h.step hn ht hp) (by omega) (by omega)
theorem fin_idle {Y : RSt} (hp : (Y.th t).part = 0) : fin n cap t Y = Y := by
  obtain ⟨f, hf⟩ : ∃ f, 100000 = f + 1 := ⟨99999, rfl⟩
  unfold fin
  rw [hf]
  simp only [doneOf, if_pos hp]
theorem rank_begin (n cap : Nat) (Y : RSt) (t : Nat) (o : Op) : ((rbegin Y t o).th t).rank n cap = bound n cap := by
  unfold rbegin RSt.set
  simp [upd_same, RTh.rank, after, bound]
  omega
theorem bound_le {n cap : Nat} (hn : n ≤ 64) (hc : cap ≤ 64) : bound n cap ≤ 2000 := by
  unfold bound att wds tw
  omega
theorem length_counts (n B : Nat) : ∀ l : List Nat, (∀ k ∈ l, k < n) → (∀ k, k < n → l.count k ≤ B) → l.length ≤ n * B := by
  induction n with
  | zero =>
    intro l h _
    cases l with
    | nil => simp
    | cons a l => exact absurd (h a List.mem_cons_self) (Nat.not_lt_zero _)
  | succ n ih =>
    intro l h1 h2
    have e : l.length = (l.filter fun k => decide (k ≠ n)).length + l.count n := by
      have : ∀ l : List Nat, l.length = (l.filter fun k => decide (k ≠ n)).length + l.count n := by
        intro l
        induction l with
        | nil => rfl
        | cons a l ih =>
          by_cases q : a = n
          · subst q
            simp only [ne_eq, not_true_eq_false, decide_false, List.filter_cons, Bool.false_eq_true, if_false, List.length_cons, List.count_cons_self]
            simp only [ne_eq] at ih
            omega
          · simp only [ne_eq, List.filter_cons, q, not_false_eq_true, decide_true, if_true, List.length_cons, List.count_cons, beq_iff_eq, if_false]
            simp only [ne_eq] at ih
            omega
      exact this l
    have h3 := ih (l.filter fun k => decide (k ≠ n)) (fun k hk => by
      obtain ⟨q1, q2⟩ := List.mem_filter.1 hk
      have := h1 k q1
      have : k ≠ n := by simpa using q2
      omega) (fun k hk => Nat.le_trans (List.Sublist.count_le _ List.filter_sublist) (h2 k (by omega)))
    have h4 := h2 n (Nat.lt_succ_self _)
    rw [e, Nat.succ_mul]
    omega
theorem YI.all {Y : RSt} (h : YI P n cap Y) (hn : n ≤ 64) {B : Nat} (hB : ∀ t, t < n → (Y.th t).ops.length ≤ B) : Y.bs.flatten.length ≤ 64 * B := by
  have := length_counts n B Y.bs.flatten (fun k hk => by obtain ⟨b, h1, h2⟩ := List.mem_flatten.1 hk; exact h.ok.mem b h1 k h2) (fun k hk => Nat.le_trans (h.ok.ops k hk) (hB k hk))
  exact Nat.le_trans this (Nat.mul_le_mul_right _ hn)
end
end Go.Proofs.YtefjhnhdagolhaaGreat.M
