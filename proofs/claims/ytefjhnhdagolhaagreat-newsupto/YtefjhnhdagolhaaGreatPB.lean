import Derived.Test.YtefjhnhdagolhaaGreatPA
namespace Go.Proofs.YtefjhnhdagolhaaGreat
open Go.RowKit

/-- May the automaton be (P3)? -/
def tableOk (st co : Int) (nx ou : List Int) : Bool :=
  decide (1 ≤ st) && decide (st ≤ 64) && decide (1 ≤ co) && decide (co ≤ 16) && decide ((nx.length : Int) = st * co) && decide ((ou.length : Int) = st * co) && nx.all fun x => decide (0 ≤ x) && decide (x < st)

theorem all_take_succ {nx : List Int} {p : Int → Bool} {k : Nat} (h : (nx.take k).all p = true) (hk : k < nx.length) (hp : p nx[k] = true) : (nx.take (k + 1)).all p = true := by
  rw [List.take_succ_eq_append_getElem hk, List.all_append, h]; simp [hp]

theorem all_false {nx : List Int} {p : Int → Bool} {k : Nat} (hk : k < nx.length) (hp : p nx[k] = false) : nx.all p = false := by
  rw [List.all_eq_false]
  exact ⟨nx[k], List.getElem_mem hk, by simp [hp]⟩

theorem prod_bd {st co : Int} (h1 : 1 ≤ st) (h2 : st ≤ 64) (h3 : 1 ≤ co) (h4 : co ≤ 16) : 1 ≤ st * co ∧ st * co ≤ 1024 := by
  constructor
  · have := Int.mul_le_mul h1 h3 (by omega) (by omega); omega
  · have := Int.mul_le_mul h2 h4 (by omega) (by omega); omega

set_option maxHeartbeats 1000000 in
theorem refTable_any (st co : Int) (nx ou : List Int) (vn vo : Value) (w : World) (hn : Sl w vn (ints nx)) (ho : Sl w vo (ints ou)) :
    Calls Tryz.prog 74 #[.agg #[.int .i64 st, .int .i64 co, vn, vo]] w fun e w' => e = .returned (.bool (tableOk st co nx ou)) ∧ Below w.heap.size w w' := by
  obtain ⟨a, ca, rfl, h1, h2, h3⟩ := hn.open_ints
  obtain ⟨b, cb, rfl, h4, h5, h6⟩ := ho.open_ints
  clear hn ho h6
  have H3 := hide h3
  clear h3
  have hmax : nx.length ≤ maxLen := Nat.le_trans h1 h2
  have hmax2 : ou.length ≤ maxLen := Nat.le_trans h4 h5
  unfold maxLen at *
  by_cases c1 : st < 1
  · rw [show tableOk st co nx ou = false from by simp [tableOk]; omega]
    go_enter Tryz.func74, Tryz.ntmps74
    go_wp2
    go_ret
    exact ⟨rfl, (by repeat (first | exact Below.refl _ _ | assumption | refine Below.drewN ?_ _ | refine Below.alloc ?_ (by simp) _))⟩
  by_cases c2 : 64 < st
  · rw [show tableOk st co nx ou = false from by simp [tableOk]; omega]
    go_enter Tryz.func74, Tryz.ntmps74
    go_wp2
    go_ret
    exact ⟨rfl, (by repeat (first | exact Below.refl _ _ | assumption | refine Below.drewN ?_ _ | refine Below.alloc ?_ (by simp) _))⟩
  by_cases c3 : co < 1
  · rw [show tableOk st co nx ou = false from by simp [tableOk]; omega]
    go_enter Tryz.func74, Tryz.ntmps74
    go_wp2
    go_ret
    exact ⟨rfl, (by repeat (first | exact Below.refl _ _ | assumption | refine Below.drewN ?_ _ | refine Below.alloc ?_ (by simp) _))⟩
  by_cases c4 : 16 < co
  · rw [show tableOk st co nx ou = false from by simp [tableOk]; omega]
    go_enter Tryz.func74, Tryz.ntmps74
    go_wp2
    go_ret
    exact ⟨rfl, (by repeat (first | exact Below.refl _ _ | assumption | refine Below.drewN ?_ _ | refine Below.alloc ?_ (by simp) _))⟩
  have hp := prod_bd (st := st) (co := co) (by omega) (by omega) (by omega) (by omega)
  by_cases c5 : (nx.length : Int) ≠ st * co
  · rw [show tableOk st co nx ou = false from by simp [tableOk]; omega]
    have c5' : ((nx.length : Int) != st * co) = true := by rw [bne_iff_ne]; exact c5
    clear c5
    go_enter Tryz.func74, Tryz.ntmps74
    go_wp2
    go_ret
    exact ⟨rfl, (by repeat (first | exact Below.refl _ _ | assumption | refine Below.drewN ?_ _ | refine Below.alloc ?_ (by simp) _))⟩
  replace c5 : (nx.length : Int) = st * co := Decidable.of_not_not c5
  by_cases c6 : (ou.length : Int) ≠ st * co
  · rw [show tableOk st co nx ou = false from by simp [tableOk]; omega]
    have c5' : ((nx.length : Int) != st * co) = false := by rw [bne_eq_false_iff_eq]; exact c5
    have c6' : ((ou.length : Int) != st * co) = true := by rw [bne_iff_ne]; exact c6
    clear c5 c6
    go_enter Tryz.func74, Tryz.ntmps74
    go_wp2
    go_ret
    exact ⟨rfl, (by repeat (first | exact Below.refl _ _ | assumption | refine Below.drewN ?_ _ | refine Below.alloc ?_ (by simp) _))⟩
  replace c6 : (ou.length : Int) = st * co := Decidable.of_not_not c6
  have hT : tableOk st co nx ou = nx.all fun x => decide (0 ≤ x) && decide (x < st) := by
    simp only [tableOk]
    rw [decide_eq_true (show 1 ≤ st by omega), decide_eq_true (show st ≤ 64 by omega), decide_eq_true (show 1 ≤ co by omega), decide_eq_true (show co ≤ 16 by omega), decide_eq_true c5, decide_eq_true c6]
    rfl
  rw [hT]
  clear hT
  have c5' : ((nx.length : Int) != st * co) = false := by rw [bne_eq_false_iff_eq]; exact c5
  have c6' : ((ou.length : Int) != st * co) = false := by rw [bne_eq_false_iff_eq]; exact c6
  have C5 := hide c5
  clear c5 c6
  go_enter Tryz.func74, Tryz.ntmps74
  go_wp2
  go_loopw [4] (fun i w' => ∃ k : Nat, k ≤ nx.length ∧ i = .int .i64 k ∧ (nx.take k).all (fun x => decide (0 ≤ x) && decide (x < st)) = true ∧ ∃ q, w' = (w.alloc (.cells #[.int .i64 st, .int .i64 co, .slice a nx.length ca, .slice b ou.length cb] 24)).drewN q) (fun i _ => nx.length - (intOf i).toNat)
  case atStart => exact ⟨0, Nat.zero_le _, rfl, by simp, 0, rfl⟩
  case round =>
    obtain ⟨k, hk, rfl, hall, q, rfl⟩ := hrel
    have HE := hide hall
    clear hall
    by_cases hlt : k < nx.length
    · obtain ⟨g, off, rfl, hc⟩ := (unhide H3) k hlt
      have hlt' : (k : Int) < (nx.length : Int) := by omega
      have hlt'' : (k : Int) < st * co := by have := C5.out; omega
      have hk0 : (0 : Int) ≤ (k : Int) := by omega
      have hc' := fun ob => cell_new hc ob
      by_cases hx : nx[k] < 0
      · go_wp2
        go_quiet (fail)
        go_wp2
        go_ret
        exact ⟨ret_bool (all_false (p := fun x => decide (0 ≤ x) && decide (x < st)) hlt (by simp; omega)).symm, (by repeat (first | exact Below.refl _ _ | assumption | refine Below.drewN ?_ _ | refine Below.alloc ?_ (by simp) _))⟩
      · by_cases hy : nx[k] < st
        · go_wp2
          go_quiet (fail)
          go_wp2
          go_roundw
          case rel => exact ⟨k + 1, by omega, by go_num, all_take_succ HE.out hlt (by simp; omega), q + nq, by first | rfl | rw [World.drewN_drewN]⟩
          case measure => simp [intOf]; omega
        · have hy' : st ≤ nx[k] := by omega
          go_wp2
          go_quiet (fail)
          go_wp2
          go_ret
          exact ⟨ret_bool (all_false (p := fun x => decide (0 ≤ x) && decide (x < st)) hlt (by simp; omega)).symm, (by repeat (first | exact Below.refl _ _ | assumption | refine Below.drewN ?_ _ | refine Below.alloc ?_ (by simp) _))⟩
    · have hlt'' : ¬ (k : Int) < st * co := by have := C5.out; omega
      go_wp2
      go_ret
      have := HE.out
      rw [List.take_of_length_le (by omega)] at this
      exact ⟨ret_bool this.symm, (by repeat (first | exact Below.refl _ _ | assumption | refine Below.drewN ?_ _ | refine Below.alloc ?_ (by simp) _))⟩

set_option maxHeartbeats 400000 in
theorem within_any (n a b : Int) (w : World) :
    Calls Tryz.prog 95 #[.int .i64 n, .int .i64 a, .int .i64 b] w fun e w' => e = .returned (.bool (decide (a ≤ n) && decide (n ≤ b))) ∧ w' = w := by
  by_cases h1 : a ≤ n
  · rw [decide_eq_true h1, Bool.true_and]
    go_enter Tryz.func95, Tryz.ntmps95
    go_wp2
    go_ret
    exact ⟨rfl, rfl⟩
  · rw [decide_eq_false h1, Bool.false_and]
    have h1' : decide (a ≤ n) = false := decide_eq_false h1
    go_enter Tryz.func95, Tryz.ntmps95
    go_wp2
    go_ret
    exact ⟨rfl, rfl⟩

theorem within_yes (n a b : Int) (w : World) (h1 : a ≤ n) (h2 : n ≤ b) :
    Calls Tryz.prog 95 #[.int .i64 n, .int .i64 a, .int .i64 b] w fun e w' => e = .returned (.bool true) ∧ w' = w := by
  have := within_any n a b w
  rwa [decide_eq_true h1, decide_eq_true h2] at this

theorem within_no (n a b : Int) (w : World) (h : n < a ∨ b < n) :
    Calls Tryz.prog 95 #[.int .i64 n, .int .i64 a, .int .i64 b] w fun e w' => e = .returned (.bool false) ∧ w' = w := by
  have := within_any n a b w
  rwa [show (decide (a ≤ n) && decide (n ≤ b)) = false from by simp; omega] at this

end Go.Proofs.YtefjhnhdagolhaaGreat

namespace Go.Proofs.YtefjhnhdagolhaaGreat
open Go.RowKit

set_option maxHeartbeats 1000000 in
theorem isTable_any (st co : Int) (nx ou : List Int) (vn vo : Value) (w : World) (hn : Sl w vn (ints nx)) (ho : Sl w vo (ints ou)) :
    Calls Tryz.prog 103 #[.agg #[.int .i64 st, .int .i64 co, vn, vo]] w fun e w' => e = .returned (.bool (tableOk st co nx ou)) ∧ Below w.heap.size w w' := by
  obtain ⟨a, ca, rfl, h1, h2, h3⟩ := hn.open_ints
  obtain ⟨b, cb, rfl, h4, h5, h6⟩ := ho.open_ints
  clear hn ho h6
  have H3 := hide h3
  clear h3
  have hmax : nx.length ≤ maxLen := Nat.le_trans h1 h2
  have hmax2 : ou.length ≤ maxLen := Nat.le_trans h4 h5
  unfold maxLen at *
  by_cases c1 : st < 1 ∨ 64 < st
  · rw [show tableOk st co nx ou = false from by simp [tableOk]; omega]
    go_enter Tryz.func103, Tryz.ntmps103
    go_wp2_with (go_at_call 95; refine (within_no _ _ _ _ c1).mono ?_; rintro e w' ⟨rfl, rfl⟩)
    go_ret
    exact ⟨rfl, (by repeat (first | exact Below.refl _ _ | assumption | refine Below.drewN ?_ _ | refine Below.alloc ?_ (by simp) _))⟩
  have c1' : 1 ≤ st ∧ st ≤ 64 := by omega
  clear c1
  by_cases c3 : co < 1 ∨ 16 < co
  · rw [show tableOk st co nx ou = false from by simp [tableOk]; omega]
    go_enter Tryz.func103, Tryz.ntmps103
    go_wp2_with fail
    refine (within_yes _ _ _ _ c1'.1 c1'.2).mono ?_
    rintro e w' ⟨rfl, rfl⟩
    go_wp2_with fail
    refine (within_no _ _ _ _ c3).mono ?_
    rintro e w' ⟨rfl, rfl⟩
    go_wp2
    go_ret
    exact ⟨rfl, (by repeat (first | exact Below.refl _ _ | assumption | refine Below.drewN ?_ _ | refine Below.alloc ?_ (by simp) _))⟩
  have c3' : 1 ≤ co ∧ co ≤ 16 := by omega
  clear c3
  obtain ⟨s1, s2⟩ := c1'
  obtain ⟨s3, s4⟩ := c3'
  have hp := prod_bd s1 s2 s3 s4
  by_cases c5 : (nx.length : Int) ≠ st * co
  · rw [show tableOk st co nx ou = false from by simp [tableOk]; omega]
    have c5' : ((nx.length : Int) != st * co) = true := by rw [bne_iff_ne]; exact c5
    clear c5
    go_enter Tryz.func103, Tryz.ntmps103
    go_wp2_with fail
    refine (within_yes _ _ _ _ s1 s2).mono ?_
    rintro e w' ⟨rfl, rfl⟩
    go_wp2_with fail
    refine (within_yes _ _ _ _ s3 s4).mono ?_
    rintro e w' ⟨rfl, rfl⟩
    go_wp2
    go_ret
    exact ⟨rfl, (by repeat (first | exact Below.refl _ _ | assumption | refine Below.drewN ?_ _ | refine Below.alloc ?_ (by simp) _))⟩
  replace c5 : (nx.length : Int) = st * co := Decidable.of_not_not c5
  by_cases c6 : (ou.length : Int) ≠ st * co
  · rw [show tableOk st co nx ou = false from by simp [tableOk]; omega]
    have c5' : ((nx.length : Int) != st * co) = false := by rw [bne_eq_false_iff_eq]; exact c5
    have c6' : ((ou.length : Int) != st * co) = true := by rw [bne_iff_ne]; exact c6
    clear c5 c6
    go_enter Tryz.func103, Tryz.ntmps103
    go_wp2_with fail
    refine (within_yes _ _ _ _ s1 s2).mono ?_
    rintro e w' ⟨rfl, rfl⟩
    go_wp2_with fail
    refine (within_yes _ _ _ _ s3 s4).mono ?_
    rintro e w' ⟨rfl, rfl⟩
    go_wp2
    go_ret
    exact ⟨rfl, (by repeat (first | exact Below.refl _ _ | assumption | refine Below.drewN ?_ _ | refine Below.alloc ?_ (by simp) _))⟩
  replace c6 : (ou.length : Int) = st * co := Decidable.of_not_not c6
  have hT : tableOk st co nx ou = nx.all fun x => decide (0 ≤ x) && decide (x < st) := by
    simp only [tableOk]
    rw [decide_eq_true (show 1 ≤ st by omega), decide_eq_true (show st ≤ 64 by omega), decide_eq_true (show 1 ≤ co by omega), decide_eq_true (show co ≤ 16 by omega), decide_eq_true c5, decide_eq_true c6]
    rfl
  rw [hT]
  clear hT
  have c5' : ((nx.length : Int) != st * co) = false := by rw [bne_eq_false_iff_eq]; exact c5
  have c6' : ((ou.length : Int) != st * co) = false := by rw [bne_eq_false_iff_eq]; exact c6
  clear c5 c6
  go_enter Tryz.func103, Tryz.ntmps103
  go_wp2_with fail
  refine (within_yes _ _ _ _ s1 s2).mono ?_
  rintro e w' ⟨rfl, rfl⟩
  go_wp2_with fail
  refine (within_yes _ _ _ _ s3 s4).mono ?_
  rintro e w' ⟨rfl, rfl⟩
  go_wp2
  go_loop [36] (fun i => ∃ k : Nat, k ≤ nx.length ∧ i = .int .i64 k ∧ (nx.take k).all (fun x => decide (0 ≤ x) && decide (x < st)) = true) (fun i => nx.length - (intOf i).toNat)
  case atStart => exact ⟨0, Nat.zero_le _, rfl, by simp⟩
  case round =>
    obtain ⟨k, hk, rfl, hall⟩ := hrel
    have HE := hide hall
    clear hall
    by_cases hlt : k < nx.length
    · obtain ⟨g, off, rfl, hc⟩ := (unhide H3) k hlt
      have hlt' : (k : Int) < (nx.length : Int) := by omega
      have hk0 : (0 : Int) ≤ (k : Int) := by omega
      have hc' := fun ob => cell_new hc ob
      by_cases hx : nx[k] < 0 ∨ st - 1 < nx[k]
      · go_wp2_with fail
        refine (within_no _ _ _ _ hx).mono ?_
        rintro e w' ⟨rfl, rfl⟩
        go_wp2
        go_ret
        exact ⟨ret_bool (all_false (p := fun x => decide (0 ≤ x) && decide (x < st)) hlt (by simp; omega)).symm, (by repeat (first | exact Below.refl _ _ | assumption | refine Below.drewN ?_ _ | refine Below.alloc ?_ (by simp) _))⟩
      · have hx1 : 0 ≤ nx[k] := by omega
        have hx2 : nx[k] ≤ st - 1 := by omega
        clear hx
        go_wp2_with fail
        refine (within_yes _ _ _ _ hx1 hx2).mono ?_
        rintro e w' ⟨rfl, rfl⟩
        go_wp2
        go_round
        case rel => exact ⟨k + 1, by omega, by go_num, all_take_succ HE.out hlt (by simp; omega)⟩
        case measure => simp [intOf]; omega
    · go_wp2
      go_ret
      have := HE.out
      rw [List.take_of_length_le (by omega)] at this
      exact ⟨ret_bool this.symm, (by repeat (first | exact Below.refl _ _ | assumption | refine Below.drewN ?_ _ | refine Below.alloc ?_ (by simp) _))⟩

end Go.Proofs.YtefjhnhdagolhaaGreat

namespace Go.Proofs.YtefjhnhdagolhaaGreat
open Go.RowKit

/-- Which error the settings make (P3). -/
def cfgErr (kind th cap st co : Int) (nx ou : List Int) : Int :=
  if 1 ≤ kind ∧ kind ≤ 5 ∧ 1 ≤ th ∧ th ≤ 64 ∧ 0 ≤ cap ∧ cap ≤ 64 then
    if kind = 5 then if tableOk st co nx ou = true then 0 else 2 else 0
  else 1

theorem cfgErr_one {kind th cap st co : Int} {nx ou : List Int} (h : ¬ (1 ≤ kind ∧ kind ≤ 5 ∧ 1 ≤ th ∧ th ≤ 64 ∧ 0 ≤ cap ∧ cap ≤ 64)) : cfgErr kind th cap st co nx ou = 1 := by
  unfold cfgErr; rw [if_neg h]
theorem cfgErr_two {kind th cap st co : Int} {nx ou : List Int} (h : 1 ≤ kind ∧ kind ≤ 5 ∧ 1 ≤ th ∧ th ≤ 64 ∧ 0 ≤ cap ∧ cap ≤ 64) (h5 : kind = 5) (ht : tableOk st co nx ou = false) : cfgErr kind th cap st co nx ou = 2 := by
  unfold cfgErr; rw [if_pos h, if_pos h5, ht]; rfl
theorem cfgErr_zero5 {kind th cap st co : Int} {nx ou : List Int} (h : 1 ≤ kind ∧ kind ≤ 5 ∧ 1 ≤ th ∧ th ≤ 64 ∧ 0 ≤ cap ∧ cap ≤ 64) (h5 : kind = 5) (ht : tableOk st co nx ou = true) : cfgErr kind th cap st co nx ou = 0 := by
  unfold cfgErr; rw [if_pos h, if_pos h5, ht]; rfl
theorem cfgErr_zero {kind th cap st co : Int} {nx ou : List Int} (h : 1 ≤ kind ∧ kind ≤ 5 ∧ 1 ≤ th ∧ th ≤ 64 ∧ 0 ≤ cap ∧ cap ≤ 64) (h5 : kind ≠ 5) : cfgErr kind th cap st co nx ou = 0 := by
  unfold cfgErr; rw [if_pos h, if_neg h5]

set_option maxHeartbeats 1000000 in
theorem checkConfig_any (kind th cap st co : Int) (nx ou : List Int) (vn vo : Value) (w : World) (hn : Sl w vn (ints nx)) (ho : Sl w vo (ints ou)) :
    Calls Tryz.prog 76 #[.agg #[.int .i64 kind, .int .i64 th, .int .i64 cap, .int .i64 st, .int .i64 co, vn, vo]] w fun e w' => e = .returned (.int .i64 (cfgErr kind th cap st co nx ou)) ∧ Below w.heap.size w w' := by
  by_cases c1 : kind < 1 ∨ 5 < kind
  · rw [cfgErr_one (by omega)]
    go_enter Tryz.func76, Tryz.ntmps76
    go_wp2_with fail
    refine (within_no _ _ _ _ c1).mono ?_
    rintro e w' ⟨rfl, rfl⟩
    go_wp2
    go_ret
    exact ⟨rfl, (by repeat (first | exact Below.refl _ _ | assumption | refine Below.drewN ?_ _ | refine Below.alloc ?_ (by simp) _))⟩
  by_cases c2 : th < 1 ∨ 64 < th
  · rw [cfgErr_one (by omega)]
    go_enter Tryz.func76, Tryz.ntmps76
    go_wp2_with fail
    refine (within_yes _ _ _ _ (by omega) (by omega)).mono ?_
    rintro e w' ⟨rfl, rfl⟩
    go_wp2_with fail
    refine (within_no _ _ _ _ c2).mono ?_
    rintro e w' ⟨rfl, rfl⟩
    go_wp2
    go_ret
    exact ⟨rfl, (by repeat (first | exact Below.refl _ _ | assumption | refine Below.drewN ?_ _ | refine Below.alloc ?_ (by simp) _))⟩
  by_cases c3 : cap < 0 ∨ 64 < cap
  · rw [cfgErr_one (by omega)]
    go_enter Tryz.func76, Tryz.ntmps76
    go_wp2_with fail
    refine (within_yes _ _ _ _ (by omega) (by omega)).mono ?_
    rintro e w' ⟨rfl, rfl⟩
    go_wp2_with fail
    refine (within_yes _ _ _ _ (by omega) (by omega)).mono ?_
    rintro e w' ⟨rfl, rfl⟩
    go_wp2_with fail
    refine (within_no _ _ _ _ c3).mono ?_
    rintro e w' ⟨rfl, rfl⟩
    go_wp2
    go_ret
    exact ⟨rfl, (by repeat (first | exact Below.refl _ _ | assumption | refine Below.drewN ?_ _ | refine Below.alloc ?_ (by simp) _))⟩
  by_cases c5 : kind = 5
  · have c5' : (kind == 5) = true := beq_iff_eq.2 c5
    have hbn : ∀ o, Below w.heap.size w (w.alloc o) := fun o => (Below.refl _ _).alloc (Nat.le_refl _) o
    cases ht : tableOk st co nx ou
    · rw [cfgErr_two (by omega) c5 ht]
      have HT := hide ht
      clear ht c5
      go_enter Tryz.func76, Tryz.ntmps76
      go_wp2_with fail
      refine (within_yes _ _ _ _ (by omega) (by omega)).mono ?_
      rintro e w' ⟨rfl, rfl⟩
      go_wp2_with fail
      refine (within_yes _ _ _ _ (by omega) (by omega)).mono ?_
      rintro e w' ⟨rfl, rfl⟩
      go_wp2_with fail
      refine (within_yes _ _ _ _ (by omega) (by omega)).mono ?_
      rintro e w' ⟨rfl, rfl⟩
      go_wp2_with fail
      refine (isTable_any st co nx ou _ _ _ (hn.below (hbn _)) (ho.below (hbn _))).mono ?_
      rintro e w1 ⟨rfl, hb1⟩
      rw [HT.out]
      go_wp2
      go_ret
      exact ⟨rfl, (hbn _).trans (hb1.mono (by simp))⟩
    · rw [cfgErr_zero5 (by omega) c5 ht]
      have HT := hide ht
      clear ht c5
      go_enter Tryz.func76, Tryz.ntmps76
      go_wp2_with fail
      refine (within_yes _ _ _ _ (by omega) (by omega)).mono ?_
      rintro e w' ⟨rfl, rfl⟩
      go_wp2_with fail
      refine (within_yes _ _ _ _ (by omega) (by omega)).mono ?_
      rintro e w' ⟨rfl, rfl⟩
      go_wp2_with fail
      refine (within_yes _ _ _ _ (by omega) (by omega)).mono ?_
      rintro e w' ⟨rfl, rfl⟩
      go_wp2_with fail
      refine (isTable_any st co nx ou _ _ _ (hn.below (hbn _)) (ho.below (hbn _))).mono ?_
      rintro e w1 ⟨rfl, hb1⟩
      rw [HT.out]
      go_wp2
      go_ret
      exact ⟨rfl, (hbn _).trans (hb1.mono (by simp))⟩
  · rw [cfgErr_zero (by omega) c5]
    have c5' : (kind == 5) = false := beq_eq_false_iff_ne.2 c5
    clear c5
    go_enter Tryz.func76, Tryz.ntmps76
    go_wp2_with fail
    refine (within_yes _ _ _ _ (by omega) (by omega)).mono ?_
    rintro e w' ⟨rfl, rfl⟩
    go_wp2_with fail
    refine (within_yes _ _ _ _ (by omega) (by omega)).mono ?_
    rintro e w' ⟨rfl, rfl⟩
    go_wp2_with fail
    refine (within_yes _ _ _ _ (by omega) (by omega)).mono ?_
    rintro e w' ⟨rfl, rfl⟩
    go_wp2
    go_ret
    exact ⟨rfl, (by repeat (first | exact Below.refl _ _ | assumption | refine Below.drewN ?_ _ | refine Below.alloc ?_ (by simp) _))⟩

end Go.Proofs.YtefjhnhdagolhaaGreat
