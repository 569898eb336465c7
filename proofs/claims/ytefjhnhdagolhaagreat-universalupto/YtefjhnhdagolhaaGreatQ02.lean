import Derived.Test.YtefjhnhdagolhaaGreatQ00
import Derived.Test.YtefjhnhdagolhaaGreatQ01
import Derived.Test.YtefjhnhdagolhaaGreatProg
import Derived.Deep.DeepCutAuto
namespace Go.Proofs.YtefjhnhdagolhaaGreat
open Go.RowKit
open M (upd upd_same upd_other)
def Fn (w : World) (b : Nat) (t : TypeId) (m : Nat) (f : Nat → Value) : Prop := Row w b t ((List.range m).map f)
section
variable {w w' : World} {b : Nat} {t : TypeId} {m : Nat} {f : Nat → Value}
theorem Fn.cell (h : Fn w b t m f) {k : Nat} (hk : k < m) : w.cell? ⟨b, k, none⟩ = some (f k) := Row.cell_of h (by simp [List.getElem?_range hk])
theorem Fn.frozen (h : Fn w b t m f) (k : Nat) : w.frozen? ⟨b, k, none⟩ = false := Row.frozen h k
theorem Fn.lt (h : Fn w b t m f) : b < w.heap.size := Row.lt h
theorem Fn.of_block (h : Fn w b t m f) (e : w'.heap[b]? = w.heap[b]?) : Fn w' b t m f := Row.of_block h e
theorem map_range_upd (m : Nat) (f : Nat → Value) (k : Nat) (v : Value) : ((List.range m).map f).set k v = (List.range m).map (upd f k v) := by
  apply List.ext_getElem?
  intro i
  by_cases hi : i < m
  · by_cases e : k = i
    · subst e
      rw [List.getElem?_set_self (by simpa using hi)]
      simp [List.getElem?_range hi, upd_same]
    · rw [List.getElem?_set_ne e]
      simp [List.getElem?_range hi, upd_other _ _ (Ne.symm e)]
  · rw [List.getElem?_eq_none (by simpa using hi), List.getElem?_eq_none (by simpa using hi)]
theorem Fn.set (h : Fn w b t m f) (k : Nat) (v : Value) : Fn (w.setCell ⟨b, k, none⟩ v) b t m (upd f k v) := by
  have := Row.set h k v
  rw [map_range_upd] at this
  exact this
theorem Fn.congr (h : Fn w b t m f) {g : Nat → Value} (e : ∀ k, k < m → f k = g k) : Fn w b t m g := by
  have : (List.range m).map f = (List.range m).map g := List.map_congr_left fun k hk => e k (List.mem_range.1 hk)
  unfold Fn at *
  rw [← this]
  exact h
end
def Fn2 (w : World) (b : Nat) (t : TypeId) (m c : Nat) (T : Nat → Nat → Value) : Prop := Fn w b t (m * c) (fun k => T (k / c) (k % c))
section
variable {w w' : World} {b : Nat} {t : TypeId} {m c : Nat} {T : Nat → Nat → Value}
theorem two_lt {i j : Nat} (hi : i < m) (hj : j < c) : i * c + j < m * c := by
  have h : (i + 1) * c ≤ m * c := Nat.mul_le_mul_right c hi
  rw [Nat.add_mul, Nat.one_mul] at h
  omega
theorem two_div {i j : Nat} (hj : j < c) : (i * c + j) / c = i := by
  have hc : 0 < c := by omega
  rw [Nat.mul_comm, Nat.mul_add_div hc, Nat.div_eq_of_lt hj, Nat.add_zero]
theorem two_mod {i j : Nat} (hj : j < c) : (i * c + j) % c = j := by
  rw [Nat.mul_comm, Nat.mul_add_mod, Nat.mod_eq_of_lt hj]
theorem Fn2.cell (h : Fn2 w b t m c T) {i j : Nat} (hi : i < m) (hj : j < c) : w.cell? ⟨b, i * c + j, none⟩ = some (T i j) := by
  have := Fn.cell h (two_lt hi hj)
  simp only [two_div hj, two_mod hj] at this
  exact this
theorem Fn2.frozen (h : Fn2 w b t m c T) (k : Nat) : w.frozen? ⟨b, k, none⟩ = false := Fn.frozen h k
theorem Fn2.of_block (h : Fn2 w b t m c T) (e : w'.heap[b]? = w.heap[b]?) : Fn2 w' b t m c T := Fn.of_block h e
theorem Fn2.set (h : Fn2 w b t m c T) {i j : Nat} (hj : j < c) (v : Value) : Fn2 (w.setCell ⟨b, i * c + j, none⟩ v) b t m c (upd T i (upd (T i) j v)) := by
  refine Fn.congr (Fn.set h (i * c + j) v) fun k _ => ?_
  by_cases e : k = i * c + j
  · subst e
    rw [upd_same, two_div hj, two_mod hj, upd_same, upd_same]
  · rw [upd_other _ _ e]
    by_cases ei : k / c = i
    · have ej : k % c ≠ j := by
        intro q
        apply e
        rw [← ei, ← q, Nat.mul_comm]
        exact (Nat.div_add_mod k c).symm
      rw [ei, upd_same, upd_other _ _ ej]
    · rw [upd_other _ _ ei]
end
theorem Fn.there {w : World} {b : Nat} {t : TypeId} {m : Nat} {f : Nat → Value} (h : Fn w b t m f) {k : Nat} (hk : k < m) : w.there b k 1 := Row.there h (by simp; omega)
theorem Fn2.there {w : World} {b : Nat} {t : TypeId} {m c : Nat} {T : Nat → Nat → Value} (h : Fn2 w b t m c T) {i j : Nat} (hi : i < m) (hj : j < c) : w.there b (i * c + j) 1 := Fn.there h (two_lt hi hj)
def Like (f : Nat → Value) (l : List Value) : Prop := ∀ j v, l[j]? = some v → f j = v
theorem Like.set {f : Nat → Value} {l : List Value} (h : Like f l) (j : Nat) (v : Value) : Like (upd f j v) (l.set j v) := by
  intro k u hk
  by_cases e : k = j
  · subst e
    rw [upd_same]
    rw [List.getElem?_set] at hk
    simp only [if_true] at hk
    split at hk
    · injection hk
    · cases hk
  · rw [upd_other _ _ e]
    rw [List.getElem?_set_ne (Ne.symm e)] at hk
    exact h k u hk
structure Fr (own : Nat → Prop) (w w' : World) : Prop where
  os : w'.os = w.os
  tape : w'.tape = w.tape
  output : w'.output = w.output
  size : w.heap.size ≤ w'.heap.size
  block : ∀ k, k < w.heap.size → ¬ own k → w'.heap[k]? = w.heap[k]?
theorem Fr.refl (own : Nat → Prop) (w : World) : Fr own w w := ⟨rfl, rfl, rfl, Nat.le_refl _, fun _ _ _ => rfl⟩
theorem Fr.trans {own : Nat → Prop} {w w1 w2 : World} (h : Fr own w w1) (h' : Fr own w1 w2) : Fr own w w2 :=
  ⟨h'.os.trans h.os, h'.tape.trans h.tape, h'.output.trans h.output, Nat.le_trans h.size h'.size, fun k hk ho => (h'.block k (Nat.lt_of_lt_of_le hk h.size) ho).trans (h.block k hk ho)⟩
theorem Fr.of_below {own : Nat → Prop} {w w' : World} (h : Below w.heap.size w w') : Fr own w w' := ⟨h.os, h.tape, h.output, h.size, fun k hk _ => h.block k hk⟩
theorem Fr.set {own : Nat → Prop} (w : World) {a : Addr} (ha : own a.block) (v : Value) : Fr own w (w.setCell a v) :=
  ⟨rfl, rfl, rfl, by simp [World.setCell], fun k _ ho => Below.heap_setCell w a v k (by rintro rfl; exact ho ha)⟩
theorem Fr.drewN {own : Nat → Prop} {w w' : World} (h : Fr own w w') (n : Nat) : Fr own w (w'.drewN n) := ⟨h.os, h.tape, h.output, h.size, h.block⟩
theorem Fr.drew {own : Nat → Prop} {w w' : World} (h : Fr own w w') : Fr own w w'.drew := ⟨h.os, h.tape, h.output, h.size, h.block⟩
theorem cell_kept {w : World} {a : Addr} {v u : Value} {b o : Nat} (h : w.cell? ⟨b, o, none⟩ = some u) (hne : b ≠ a.block ∨ o ≠ a.off) : (w.setCell a v).cell? ⟨b, o, none⟩ = some u := by
  rw [World.cell?_setCell_other]
  · exact h
  · intro e
    rw [e] at hne
    rcases hne with q | q <;> exact q rfl
theorem frozen_kept {w : World} {a b : Addr} {v : Value} (h : w.frozen? b = false) : (w.setCell a v).frozen? b = false := by rw [World.frozen?_setCell]; exact h
theorem Fr.cell {own : Nat → Prop} {w w' : World} (h : Fr own w w') {b o : Nat} {v : Value} (hb : ¬ own b) (hc : w.cell? ⟨b, o, none⟩ = some v) : w'.cell? ⟨b, o, none⟩ = some v := by
  rw [World.cell?_of_block (w := w) (h.block b (World.block_lt_of_cell? w _ hc) hb)]
  exact hc
end Go.Proofs.YtefjhnhdagolhaaGreat
namespace Go.Proofs.YtefjhnhdagolhaaGreat
open Go.RowKit
theorem info_int : (Tryz.prog.info? 3).map (fun i => (i.zero, i.size, i.bytes)) = some (some (.int .i64 0), 1, 8) := by kernel_rfl
end Go.Proofs.YtefjhnhdagolhaaGreat
namespace Go.Proofs.YtefjhnhdagolhaaGreat
open Go.RowKit
def tableOk (st co : Int) (nx ou : List Int) : Bool :=
  decide (1 ≤ st) && decide (st ≤ 64) && decide (1 ≤ co) && decide (co ≤ 16) && decide ((nx.length : Int) = st * co) && decide ((ou.length : Int) = st * co) && nx.all fun x => decide (0 ≤ x) && decide (x < st)
theorem all_take_succ {nx : List Int} {p : Int → Bool} {k : Nat} (h : (nx.take k).all p = true) (hk : k < nx.length) (hp : p nx[k] = true) : (nx.take (k + 1)).all p = true := by
  rw [List.take_succ_eq_append_getElem hk, List.all_append, h]; simp [hp]
theorem all_false {nx : List Int} {p : Int → Bool} {k : Nat} (hk : k < nx.length) (hp : p nx[k] = false) : nx.all p = false := by
  rw [List.all_eq_false]
  exact ⟨nx[k], List.getElem_mem hk, by simp [hp]⟩
theorem prod_bd {st co : Int} (h1 : 1 ≤ st) (h2 : st ≤ 64) (h3 : 1 ≤ co) (h4 : co ≤ 16) : 1 ≤ st * co ∧ st * co ≤ 1024 := by
  constructor
  · have := Int.mul_le_mul h1 h3 (by omega) (by omega); omega
  · have := Int.mul_le_mul h2 h4 (by omega) (by omega); omega
set_option maxHeartbeats 400000 in
theorem within_any (n a b : Int) (w : World) :
    Calls Tryz.prog 95 #[.int .i64 n, .int .i64 a, .int .i64 b] w fun e w' => e = .returned (.bool (decide (a ≤ n) && decide (n ≤ b))) ∧ w' = w := by
  by_cases h1 : a ≤ n
  · rw [decide_eq_true h1, Bool.true_and]
    go_enter Tryz.func95, Tryz.ntmps95
    go_wp2
    go_ret
    exact ⟨rfl, rfl⟩
  · rw [decide_eq_false h1, Bool.false_and]
    have h1' : decide (a ≤ n) = false := decide_eq_false h1
    go_enter Tryz.func95, Tryz.ntmps95
    go_wp2
    go_ret
    exact ⟨rfl, rfl⟩
theorem within_yes (n a b : Int) (w : World) (h1 : a ≤ n) (h2 : n ≤ b) :
    Calls Tryz.prog 95 #[.int .i64 n, .int .i64 a, .int .i64 b] w fun e w' => e = .returned (.bool true) ∧ w' = w := by
  have := within_any n a b w
  rwa [decide_eq_true h1, decide_eq_true h2] at this
theorem within_no (n a b : Int) (w : World) (h : n < a ∨ b < n) :
    Calls Tryz.prog 95 #[.int .i64 n, .int .i64 a, .int .i64 b] w fun e w' => e = .returned (.bool false) ∧ w' = w := by
  have := within_any n a b w
  rwa [show (decide (a ≤ n) && decide (n ≤ b)) = false from by simp; omega] at this
end Go.Proofs.YtefjhnhdagolhaaGreat
namespace Go.Proofs.YtefjhnhdagolhaaGreat
open Go.RowKit
set_option maxHeartbeats 1000000 in
theorem isTable_any (st co : Int) (nx ou : List Int) (vn vo : Value) (w : World) (hn : Sl w vn (ints nx)) (ho : Sl w vo (ints ou)) :
    Calls Tryz.prog 103 #[.agg #[.int .i64 st, .int .i64 co, vn, vo]] w fun e w' => e = .returned (.bool (tableOk st co nx ou)) ∧ Below w.heap.size w w' := by
  obtain ⟨a, ca, rfl, h1, h2, h3⟩ := hn.open_ints
  obtain ⟨b, cb, rfl, h4, h5, h6⟩ := ho.open_ints
  clear hn ho h6
  have H3 := hide h3
  clear h3
  have hmax : nx.length ≤ maxLen := Nat.le_trans h1 h2
  have hmax2 : ou.length ≤ maxLen := Nat.le_trans h4 h5
  unfold maxLen at *
  by_cases c1 : st < 1 ∨ 64 < st
  · rw [show tableOk st co nx ou = false from by simp [tableOk]; omega]
    go_enter Tryz.func103, Tryz.ntmps103
    go_wp2_with (go_at_call 95; refine (within_no _ _ _ _ c1).mono ?_; rintro e w' ⟨rfl, rfl⟩)
    go_ret
    exact ⟨rfl, (by repeat (first | exact Below.refl _ _ | assumption | refine Below.drewN ?_ _ | refine Below.alloc ?_ (by simp) _))⟩
  have c1' : 1 ≤ st ∧ st ≤ 64 := by omega
  clear c1
  by_cases c3 : co < 1 ∨ 16 < co
  · rw [show tableOk st co nx ou = false from by simp [tableOk]; omega]
    go_enter Tryz.func103, Tryz.ntmps103
    go_wp2_with fail
    refine (within_yes _ _ _ _ c1'.1 c1'.2).mono ?_
    rintro e w' ⟨rfl, rfl⟩
    go_wp2_with fail
    refine (within_no _ _ _ _ c3).mono ?_
    rintro e w' ⟨rfl, rfl⟩
    go_wp2
    go_ret
    exact ⟨rfl, (by repeat (first | exact Below.refl _ _ | assumption | refine Below.drewN ?_ _ | refine Below.alloc ?_ (by simp) _))⟩
  have c3' : 1 ≤ co ∧ co ≤ 16 := by omega
  clear c3
  obtain ⟨s1, s2⟩ := c1'
  obtain ⟨s3, s4⟩ := c3'
  have hp := prod_bd s1 s2 s3 s4
  by_cases c5 : (nx.length : Int) ≠ st * co
  · rw [show tableOk st co nx ou = false from by simp [tableOk]; omega]
    have c5' : ((nx.length : Int) != st * co) = true := by rw [bne_iff_ne]; exact c5
    clear c5
    go_enter Tryz.func103, Tryz.ntmps103
    go_wp2_with fail
    refine (within_yes _ _ _ _ s1 s2).mono ?_
    rintro e w' ⟨rfl, rfl⟩
    go_wp2_with fail
    refine (within_yes _ _ _ _ s3 s4).mono ?_
    rintro e w' ⟨rfl, rfl⟩
    go_wp2
    go_ret
    exact ⟨rfl, (by repeat (first | exact Below.refl _ _ | assumption | refine Below.drewN ?_ _ | refine Below.alloc ?_ (by simp) _))⟩
  replace c5 : (nx.length : Int) = st * co := Decidable.of_not_not c5
  by_cases c6 : (ou.length : Int) ≠ st * co
  · rw [show tableOk st co nx ou = false from by simp [tableOk]; omega]
    have c5' : ((nx.length : Int) != st * co) = false := by rw [bne_eq_false_iff_eq]; exact c5
    have c6' : ((ou.length : Int) != st * co) = true := by rw [bne_iff_ne]; exact c6
    clear c5 c6
    go_enter Tryz.func103, Tryz.ntmps103
    go_wp2_with fail
    refine (within_yes _ _ _ _ s1 s2).mono ?_
    rintro e w' ⟨rfl, rfl⟩
    go_wp2_with fail
    refine (within_yes _ _ _ _ s3 s4).mono ?_
    rintro e w' ⟨rfl, rfl⟩
    go_wp2
    go_ret
    exact ⟨rfl, (by repeat (first | exact Below.refl _ _ | assumption | refine Below.drewN ?_ _ | refine Below.alloc ?_ (by simp) _))⟩
  replace c6 : (ou.length : Int) = st * co := Decidable.of_not_not c6
  have hT : tableOk st co nx ou = nx.all fun x => decide (0 ≤ x) && decide (x < st) := by
    simp only [tableOk]
    rw [decide_eq_true (show 1 ≤ st by omega), decide_eq_true (show st ≤ 64 by omega), decide_eq_true (show 1 ≤ co by omega), decide_eq_true (show co ≤ 16 by omega), decide_eq_true c5, decide_eq_true c6]
    rfl
  rw [hT]
  clear hT
  have c5' : ((nx.length : Int) != st * co) = false := by rw [bne_eq_false_iff_eq]; exact c5
  have c6' : ((ou.length : Int) != st * co) = false := by rw [bne_eq_false_iff_eq]; exact c6
  clear c5 c6
  go_enter Tryz.func103, Tryz.ntmps103
  go_wp2_with fail
  refine (within_yes _ _ _ _ s1 s2).mono ?_
  rintro e w' ⟨rfl, rfl⟩
  go_wp2_with fail
  refine (within_yes _ _ _ _ s3 s4).mono ?_
  rintro e w' ⟨rfl, rfl⟩
  go_wp2
  go_loop [36] (fun i => ∃ k : Nat, k ≤ nx.length ∧ i = .int .i64 k ∧ (nx.take k).all (fun x => decide (0 ≤ x) && decide (x < st)) = true) (fun i => nx.length - (intOf i).toNat)
  case atStart => exact ⟨0, Nat.zero_le _, rfl, by simp⟩
  case round =>
    obtain ⟨k, hk, rfl, hall⟩ := hrel
    have HE := hide hall
    clear hall
    by_cases hlt : k < nx.length
    · obtain ⟨g, off, rfl, hc⟩ := (unhide H3) k hlt
      have hlt' : (k : Int) < (nx.length : Int) := by omega
      have hk0 : (0 : Int) ≤ (k : Int) := by omega
      have hc' := fun ob => cell_new hc ob
      by_cases hx : nx[k] < 0 ∨ st - 1 < nx[k]
      · go_wp2_with fail
        refine (within_no _ _ _ _ hx).mono ?_
        rintro e w' ⟨rfl, rfl⟩
        go_wp2
        go_ret
        exact ⟨ret_bool (all_false (p := fun x => decide (0 ≤ x) && decide (x < st)) hlt (by simp; omega)).symm, (by repeat (first | exact Below.refl _ _ | assumption | refine Below.drewN ?_ _ | refine Below.alloc ?_ (by simp) _))⟩
      · have hx1 : 0 ≤ nx[k] := by omega
        have hx2 : nx[k] ≤ st - 1 := by omega
        clear hx
        go_wp2_with fail
        refine (within_yes _ _ _ _ hx1 hx2).mono ?_
        rintro e w' ⟨rfl, rfl⟩
        go_wp2
        go_round
        case rel => exact ⟨k + 1, by omega, by go_num, all_take_succ HE.out hlt (by simp; omega)⟩
        case measure => simp [intOf]; omega
    · go_wp2
      go_ret
      have := HE.out
      rw [List.take_of_length_le (by omega)] at this
      exact ⟨ret_bool this.symm, (by repeat (first | exact Below.refl _ _ | assumption | refine Below.drewN ?_ _ | refine Below.alloc ?_ (by simp) _))⟩
end Go.Proofs.YtefjhnhdagolhaaGreat
namespace Go.Proofs.YtefjhnhdagolhaaGreat
open Go.RowKit
def cfgErr (kind th cap st co : Int) (nx ou : List Int) : Int :=
  if 1 ≤ kind ∧ kind ≤ 5 ∧ 1 ≤ th ∧ th ≤ 64 ∧ 0 ≤ cap ∧ cap ≤ 64 then
    if kind = 5 then if tableOk st co nx ou = true then 0 else 2 else 0
  else 1
theorem cfgErr_one {kind th cap st co : Int} {nx ou : List Int} (h : ¬ (1 ≤ kind ∧ kind ≤ 5 ∧ 1 ≤ th ∧ th ≤ 64 ∧ 0 ≤ cap ∧ cap ≤ 64)) : cfgErr kind th cap st co nx ou = 1 := by
  unfold cfgErr; rw [if_neg h]
theorem cfgErr_two {kind th cap st co : Int} {nx ou : List Int} (h : 1 ≤ kind ∧ kind ≤ 5 ∧ 1 ≤ th ∧ th ≤ 64 ∧ 0 ≤ cap ∧ cap ≤ 64) (h5 : kind = 5) (ht : tableOk st co nx ou = false) : cfgErr kind th cap st co nx ou = 2 := by
  unfold cfgErr; rw [if_pos h, if_pos h5, ht]; rfl
theorem cfgErr_zero5 {kind th cap st co : Int} {nx ou : List Int} (h : 1 ≤ kind ∧ kind ≤ 5 ∧ 1 ≤ th ∧ th ≤ 64 ∧ 0 ≤ cap ∧ cap ≤ 64) (h5 : kind = 5) (ht : tableOk st co nx ou = true) : cfgErr kind th cap st co nx ou = 0 := by
  unfold cfgErr; rw [if_pos h, if_pos h5, ht]; rfl
theorem cfgErr_zero {kind th cap st co : Int} {nx ou : List Int} (h : 1 ≤ kind ∧ kind ≤ 5 ∧ 1 ≤ th ∧ th ≤ 64 ∧ 0 ≤ cap ∧ cap ≤ 64) (h5 : kind ≠ 5) : cfgErr kind th cap st co nx ou = 0 := by
  unfold cfgErr; rw [if_pos h, if_neg h5]
set_option maxHeartbeats 1000000 in
theorem checkConfig_any (kind th cap st co : Int) (nx ou : List Int) (vn vo : Value) (w : World) (hn : Sl w vn (ints nx)) (ho : Sl w vo (ints ou)) :
    Calls Tryz.prog 76 #[.agg #[.int .i64 kind, .int .i64 th, .int .i64 cap, .int .i64 st, .int .i64 co, vn, vo]] w fun e w' => e = .returned (.int .i64 (cfgErr kind th cap st co nx ou)) ∧ Below w.heap.size w w' := by
  by_cases c1 : kind < 1 ∨ 5 < kind
  · rw [cfgErr_one (by omega)]
    go_enter Tryz.func76, Tryz.ntmps76
    go_wp2_with fail
    refine (within_no _ _ _ _ c1).mono ?_
    rintro e w' ⟨rfl, rfl⟩
    go_wp2
    go_ret
    exact ⟨rfl, (by repeat (first | exact Below.refl _ _ | assumption | refine Below.drewN ?_ _ | refine Below.alloc ?_ (by simp) _))⟩
  by_cases c2 : th < 1 ∨ 64 < th
  · rw [cfgErr_one (by omega)]
    go_enter Tryz.func76, Tryz.ntmps76
    go_wp2_with fail
    refine (within_yes _ _ _ _ (by omega) (by omega)).mono ?_
    rintro e w' ⟨rfl, rfl⟩
    go_wp2_with fail
    refine (within_no _ _ _ _ c2).mono ?_
    rintro e w' ⟨rfl, rfl⟩
    go_wp2
    go_ret
    exact ⟨rfl, (by repeat (first | exact Below.refl _ _ | assumption | refine Below.drewN ?_ _ | refine Below.alloc ?_ (by simp) _))⟩
  by_cases c3 : cap < 0 ∨ 64 < cap
  · rw [cfgErr_one (by omega)]
    go_enter Tryz.func76, Tryz.ntmps76
    go_wp2_with fail
    refine (within_yes _ _ _ _ (by omega) (by omega)).mono ?_
    rintro e w' ⟨rfl, rfl⟩
    go_wp2_with fail
    refine (within_yes _ _ _ _ (by omega) (by omega)).mono ?_
    rintro e w' ⟨rfl, rfl⟩
    go_wp2_with fail
    refine (within_no _ _ _ _ c3).mono ?_
    rintro e w' ⟨rfl, rfl⟩
    go_wp2
    go_ret
    exact ⟨rfl, (by repeat (first | exact Below.refl _ _ | assumption | refine Below.drewN ?_ _ | refine Below.alloc ?_ (by simp) _))⟩
  by_cases c5 : kind = 5
  · have c5' : (kind == 5) = true := beq_iff_eq.2 c5
    have hbn : ∀ o, Below w.heap.size w (w.alloc o) := fun o => (Below.refl _ _).alloc (Nat.le_refl _) o
    cases ht : tableOk st co nx ou
    · rw [cfgErr_two (by omega) c5 ht]
      have HT := hide ht
      clear ht c5
      go_enter Tryz.func76, Tryz.ntmps76
      go_wp2_with fail
      refine (within_yes _ _ _ _ (by omega) (by omega)).mono ?_
      rintro e w' ⟨rfl, rfl⟩
      go_wp2_with fail
      refine (within_yes _ _ _ _ (by omega) (by omega)).mono ?_
      rintro e w' ⟨rfl, rfl⟩
      go_wp2_with fail
      refine (within_yes _ _ _ _ (by omega) (by omega)).mono ?_
      rintro e w' ⟨rfl, rfl⟩
      go_wp2_with fail
      refine (isTable_any st co nx ou _ _ _ (hn.below (hbn _)) (ho.below (hbn _))).mono ?_
      rintro e w1 ⟨rfl, hb1⟩
      rw [HT.out]
      go_wp2
      go_ret
      exact ⟨rfl, (hbn _).trans (hb1.mono (by simp))⟩
    · rw [cfgErr_zero5 (by omega) c5 ht]
      have HT := hide ht
      clear ht c5
      go_enter Tryz.func76, Tryz.ntmps76
      go_wp2_with fail
      refine (within_yes _ _ _ _ (by omega) (by omega)).mono ?_
      rintro e w' ⟨rfl, rfl⟩
      go_wp2_with fail
      refine (within_yes _ _ _ _ (by omega) (by omega)).mono ?_
      rintro e w' ⟨rfl, rfl⟩
      go_wp2_with fail
      refine (within_yes _ _ _ _ (by omega) (by omega)).mono ?_
      rintro e w' ⟨rfl, rfl⟩
      go_wp2_with fail
      refine (isTable_any st co nx ou _ _ _ (hn.below (hbn _)) (ho.below (hbn _))).mono ?_
      rintro e w1 ⟨rfl, hb1⟩
      rw [HT.out]
      go_wp2
      go_ret
      exact ⟨rfl, (hbn _).trans (hb1.mono (by simp))⟩
  · rw [cfgErr_zero (by omega) c5]
    have c5' : (kind == 5) = false := beq_eq_false_iff_ne.2 c5
    clear c5
    go_enter Tryz.func76, Tryz.ntmps76
    go_wp2_with fail
    refine (within_yes _ _ _ _ (by omega) (by omega)).mono ?_
    rintro e w' ⟨rfl, rfl⟩
    go_wp2_with fail
    refine (within_yes _ _ _ _ (by omega) (by omega)).mono ?_
    rintro e w' ⟨rfl, rfl⟩
    go_wp2_with fail
    refine (within_yes _ _ _ _ (by omega) (by omega)).mono ?_
    rintro e w' ⟨rfl, rfl⟩
    go_wp2
    go_ret
    exact ⟨rfl, (by repeat (first | exact Below.refl _ _ | assumption | refine Below.drewN ?_ _ | refine Below.alloc ?_ (by simp) _))⟩
end Go.Proofs.YtefjhnhdagolhaaGreat
namespace Go.Proofs.YtefjhnhdagolhaaGreat
open Go.RowKit
set_option maxHeartbeats 800000 in
theorem clone_any (xs : List Int) (v : Value) (w : World) (hv : Sl w v (ints xs)) (hn : xs.length ≤ 1048576) (hp : 0 < xs.length) :
    Calls Tryz.prog 108 #[v] w fun e w' => ∃ g cap, e = .returned (.slice (some ⟨g, 0, none⟩) xs.length cap) ∧ w'.ownsRow w.heap.size 3 1 (.slice (some ⟨g, 0, none⟩) xs.length cap) xs.length (ints xs) ∧ Below w.heap.size w w' := by
  obtain ⟨a, ca, rfl, h1, h2, h3⟩ := hv.open_ints
  obtain ⟨g, off, rfl, -⟩ := h3 0 hp
  have hnil := fun w => Lib.run_eql_slice_nil (P := Tryz.prog) w 22 3 (some ⟨g, off, none⟩) xs.length ca 0 0 Tryz.underlying22
  obtain ⟨ti, hti, htz⟩ := Option.map_eq_some_iff.1 info_int
  simp only [Prod.mk.injEq] at htz
  obtain ⟨htz1, htz2, htz3⟩ := htz
  have HTI := hide hti
  have HT1 := hide htz1
  have HT2 := hide htz2
  have HT3 := hide htz3
  clear hti htz1 htz2 htz3
  have H3 := hide h3
  clear h3 hv
  go_enter Tryz.func108, Tryz.ntmps108
  go_wp2_with (at_builtin; refine wpList_append_lies _ rfl (.tmp 5) (.tmp 6) 22 rfl w.heap.size 3 ti (.int .i64 0) 1 8 Tryz.underlying22 HTI.out HT1.out HT2.out HT3.out rfl (by decide) (.slice (some ⟨w.heap.size, 0, none⟩) 0 0) 0 [] rfl ?_ ⟨g, off, none⟩ xs.length ca (ints xs) rfl ?_ ?_ (one_ints xs) hp ?_ ?_ ?_ (w.heap.size + 1) (by simp) ?_)
  · exact ⟨rfl, .inr ⟨w.heap.size, 0, #[], rfl, Nat.le_refl _, heap_alloc_new w _, Nat.le_refl _, Nat.zero_le _, rfl, rfl⟩⟩
  · rw [length_ints, Nat.mul_one]
  · intro j u hu
    have hj : j < xs.length := by rw [← length_ints]; exact (List.getElem?_eq_some_iff.1 hu).1
    obtain ⟨g', off', he, hc⟩ := (unhide H3) j hj
    cases he
    rw [getElem?_ints, List.getElem?_eq_getElem hj] at hu
    cases hu
    rw [addr_add]
    exact cell_new hc _
  · unfold maxLen; omega
  · omega
  · simp
  · intro g1 cap1 w1 hown hgr hat hlt1
    have HO := hide hown
    have hb1 : Below w.heap.size w w1 := (below_alloc w _).grown hgr (by simp) (fun k hk => by simp [Value.ownBlock] at hk; omega)
    clear hown hgr hat
    go_wp2
    go_ret
    exact ⟨g1, cap1, rfl, HO.out, hb1⟩
end Go.Proofs.YtefjhnhdagolhaaGreat
namespace Go.Proofs.YtefjhnhdagolhaaGreat
open Go.RowKit
def rep (zs : List Value) (m : Nat) : List Value := (List.range m).map fun i => zs.getD (i % zs.length) undef
theorem madeCells_rep (zs : List Value) (m : Nat) (h : 0 < zs.length) : madeCells zs.toArray m = (rep zs m).toArray := by
  apply Array.ext
  · simp [madeCells, rep]
  · intro i h1 h2
    have hlt : i % zs.length < zs.length := Nat.mod_lt _ h
    simp [madeCells, rep, hlt]
theorem rep_one (z : Value) (m : Nat) : rep [z] m = zeros z m := by
  apply List.ext_getElem
  · simp [rep, zeros]
  · intro i h1 h2
    simp [rep, zeros, Nat.mod_one]
theorem rep_three (z : Value) (m : Nat) : rep [z, z, z] m = zeros z m := by
  apply List.ext_getElem
  · simp [rep, zeros]
  · intro i h1 h2
    have : i % 3 = 0 ∨ i % 3 = 1 ∨ i % 3 = 2 := by omega
    rcases this with h | h | h <;> simp [rep, zeros, h]
theorem run_make_rep {P : Program} (t e : TypeId) (z : Value) (size bytes : Nat) (zs : List Value) (ht : P.underlying t = some (.slice e)) (hinfo : (P.info? e).map (fun i => (i.zero, i.size, i.bytes)) = some (some z, size, bytes)) (hz1 : z.cells = zs.toArray)
    (hs : 0 < zs.length) (k : Int) (n : Nat) (hk : k = n) (hbytes : bytes * n ≤ 281474976710656) (h63 : n ≤ 9223372036854775807) (w : World) :
    (Instr.makeSlice t (.int .i64 k) (.int .i64 k)).run P w = .ok (.slice (some ⟨w.heap.size, 0, none⟩) n n) (w.alloc (.cells (rep zs (n * size)).toArray e)) := by
  subst hk
  obtain ⟨i, hi, hzz⟩ := Option.map_eq_some_iff.1 hinfo
  simp only [Prod.mk.injEq] at hzz
  obtain ⟨hz, hsz, hb⟩ := hzz
  have hb' : (i.bytes : Int) * (n : Int) ≤ 281474976710656 := by
    have h : ((i.bytes * n : Nat) : Int) ≤ 281474976710656 := by rw [hb]; omega
    rwa [Int.natCast_mul] at h
  rw [run_make (P := P) w t e i z ht hi hz .i64 .i64 n n (by omega) (Int.le_refl _) hb' (by omega), Int.toNat_natCast, hsz, hz1, madeCells_rep zs _ hs]
def poolAt (m rw k : Nat) (bW : Nat → Nat) : List Value :=
  (List.range (2 * m)).map fun i => if i % 2 = 0 then (if i / 2 < k then .slice (some ⟨bW (i / 2), 0, none⟩) rw rw else .slice none 0 0) else .pointer none
theorem length_poolAt (m rw k : Nat) (bW : Nat → Nat) : (poolAt m rw k bW).length = 2 * m := by simp [poolAt]
theorem poolAt_zero (m rw : Nat) (bW : Nat → Nat) : rep [.slice none 0 0, .pointer none] (m * 2) = poolAt m rw 0 bW := by
  rw [Nat.mul_comm]
  apply List.ext_getElem
  · simp [rep, poolAt]
  · intro i h1 h2
    have : i % 2 = 0 ∨ i % 2 = 1 := by omega
    rcases this with h | h <;> simp [rep, poolAt, h]
theorem poolAt_set (m rw k g : Nat) (bW : Nat → Nat) : (poolAt m rw k bW).set (2 * k) (.slice (some ⟨g, 0, none⟩) rw rw) = poolAt m rw (k + 1) (fun r => if r = k then g else bW r) := by
  apply List.ext_getElem
  · simp [poolAt]
  · intro i h1 h2
    rw [List.getElem_set]
    by_cases hi : 2 * k = i
    · subst hi
      have h0 : 2 * k % 2 = 0 := by omega
      have h4 : 2 * k / 2 = k := by omega
      simp [poolAt, h0, h4]
    · rw [if_neg hi]
      have : i % 2 = 0 ∨ i % 2 = 1 := by omega
      rcases this with h | h
      · have hne : ¬ i / 2 = k := by omega
        simp only [poolAt, List.getElem_map, List.getElem_range, h, if_true, if_neg hne]
        by_cases h5 : i / 2 < k
        · rw [if_pos h5, if_pos (by omega)]
        · rw [if_neg h5, if_neg (by omega)]
      · simp [poolAt, h]
theorem poolAt_odd {m rw k : Nat} {bW : Nat → Nat} {j : Nat} (hj : j < m) : (poolAt m rw k bW)[2 * j + 1]? = some (.pointer none) := by
  have h0 : (2 * j + 1) % 2 = 1 := by omega
  rw [List.getElem?_eq_getElem (by rw [length_poolAt]; omega)]
  simp [poolAt, h0]
theorem Row.drew {w : World} {g : Nat} {t : TypeId} {xs : List Value} (h : Row w g t xs) : Row w.drew g t xs := h
theorem Below.undrew {B : Nat} {w w' : World} (h : Below B w.drew w') : Below B w w' := ⟨h.os, h.tape, h.output, h.size, h.block⟩
theorem wp_store_one {P : Program} {op : Oper} {a : Act} {w : World} {K : Act → World → Prop} {Q : Exit → Act → World → Prop} (ty : TypeId) (x y : Operand) (ho : op.op = .store ty x y)
    (b o : Nat) (v : Value) (hx : a.eval x = .pointer (some ⟨b, o, none⟩)) (hy : a.eval y = v) (hv : v.cells = #[v]) (h1 : v.oneCell' = true)
    (ht : w.there b o 1) (hi : (P.info? ty).map (·.size) = some 1) (h : K (a.put op.dst undef) (w.setCell ⟨b, o, none⟩ v)) : op.wp P a w K Q := by
  have hst := run_storeCells_cells (P := P) b o [v] 0 w (fun j hj => by simpa using (ht j (by simpa using hj)).1) (fun j hj => by simpa using (ht j (by simpa using hj)).2) (fun u hu => by rw [List.mem_singleton.1 hu]; exact h1)
  obtain ⟨i, hii, his⟩ := Option.map_eq_some_iff.1 hi
  unfold Oper.wp execOp
  simp [ho, hx, hy, Instr.storeAt, Instr.sureAddr, storeVar, hv, sizeOf, typeInfo, hii, his, hst, World.setCells]
  exact h
theorem there_set {w : World} {b o n : Nat} (h : w.there b o n) (a : Addr) (ha : a.spot = none) (v : Value) : (w.setCell a v).there b o n := by
  obtain ⟨ab, ao, sp⟩ := a
  cases ha
  exact World.there_setCells h ab ao [v]
theorem wp_of_run {P : Program} {op : Oper} {a : Act} {w w' : World} {K : Act → World → Prop} {Q : Exit → Act → World → Prop} {v : Value} (h : (execOp a.eval op).run P w = .ok (.value v) w') (hk : K (a.put op.dst v) w') : op.wp P a w K Q := by
  unfold Oper.wp; rw [h]; exact hk
theorem wp_load_one {P : Program} {op : Oper} {a : Act} {w : World} {K : Act → World → Prop} {Q : Exit → Act → World → Prop} (ty : TypeId) (x : Operand) (ho : op.op = .load ty x)
    (b o : Nat) (v : Value) (hx : a.eval x = .pointer (some ⟨b, o, none⟩)) (hagg : (isAgg ty).run P w = .ok false w) (hc : w.cell? ⟨b, o, none⟩ = some v) (h : K (a.put op.dst v) w) : op.wp P a w K Q := by
  unfold Oper.wp execOp
  simp [ho, hx, Instr.loadAt, Instr.sureAddr, loadVar, hagg, hc]
  exact h
end Go.Proofs.YtefjhnhdagolhaaGreat
