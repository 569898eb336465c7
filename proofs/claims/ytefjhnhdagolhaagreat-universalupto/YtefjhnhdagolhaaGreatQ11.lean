import Derived.Test.YtefjhnhdagolhaaGreatQ02
import Derived.Test.YtefjhnhdagolhaaGreatQ03
import Derived.Test.YtefjhnhdagolhaaGreatQ07
import Derived.Test.YtefjhnhdagolhaaGreatProg
import Derived.Test.YtefjhnhdagolhaaGreatQ00
import Derived.Test.YtefjhnhdagolhaaGreatQ06
import Derived.Test.YtefjhnhdagolhaaGreatQ01
import Derived.Test.YtefjhnhdagolhaaGreatQ10
namespace Go.Proofs.YtefjhnhdagolhaaGreat
open Go.RowKit
attribute [local go_sem ↓] Go.wp_at_zero Go.wp_at_succ
def TabMade (n : Nat) (cap st co : Int) (nx ou : List Int) (w : World) (b : Nat) (w' : World) : Prop :=
  ∃ w1 g1 k1 g2 k2, Below w.heap.size w w1 ∧ int.ObjNew w1 n cap 152 (.agg #[.int .i64 st, .int .i64 co, .slice (some ⟨g1, 0, none⟩) nx.length k1, .slice (some ⟨g2, 0, none⟩) ou.length k2]) b w' ∧
    w1.ownsRow w.heap.size 3 1 (.slice (some ⟨g1, 0, none⟩) nx.length k1) nx.length (ints nx) ∧ w1.ownsRow w.heap.size 3 1 (.slice (some ⟨g2, 0, none⟩) ou.length k2) ou.length (ints ou)
section
variable {w0 w1 : World} {n : Nat} {most : Int} {oT : TypeId} {ov : Value} {b : Nat} {w : World}
theorem int.ObjNew.below (h : int.ObjNew w0 n most oT ov b w) : Below w0.heap.size w0 w := let ⟨_, _, h2, _⟩ := h; h2.below.1
end
theorem cells7 {w' : World} {N : Nat} {t : TypeId} {a b c d e f g : Value} (h : Row w' N t [a, b, c, d, e, f, g]) : Row w' N t [a, b, c, d, e, f, g] ∧ w'.cell? ⟨N, 0, none⟩ = some a ∧ w'.cell? ⟨N, 1, none⟩ = some b ∧ w'.cell? ⟨N, 2, none⟩ = some c ∧
    w'.cell? ⟨N, 3, none⟩ = some d ∧ w'.cell? ⟨N, 4, none⟩ = some e ∧ w'.cell? ⟨N, 5, none⟩ = some f ∧ w'.cell? ⟨N, 6, none⟩ = some g :=
  ⟨h, h.cell_of rfl, h.cell_of rfl, h.cell_of rfl, h.cell_of rfl, h.cell_of rfl, h.cell_of rfl, h.cell_of rfl⟩
section
variable (n : Nat) (cap st co : Int) (nx ou : List Int) (vn vo : Value) (w : World)
set_option maxRecDepth 20000 in
set_option maxHeartbeats 2000000 in
theorem new_five (hn : Sl w vn (ints nx)) (ho : Sl w vo (ints ou)) (h1 : 1 ≤ n) (h2 : n ≤ 64) (h3 : 0 ≤ cap) (h4 : cap ≤ 64) (ht : tableOk st co nx ou = true) (n1 : nx.length ≤ 1048576) (n2 : 0 < nx.length) (n3 : ou.length ≤ 1048576) (n4 : 0 < ou.length) :
    Calls Tryz.prog 42 #[.agg #[.int .i64 5, .int .i64 (n : Int), .int .i64 cap, .int .i64 st, .int .i64 co, vn, vo]] w fun e w' => ∃ b, e = .returned (.tuple #[.pointer (some ⟨b, 0, none⟩), .int .i64 0]) ∧ TabMade n cap st co nx ou w b w' := by
  have hc := checkConfig_any 5 n cap st co nx ou vn vo (w.alloc (.cells #[.int .i64 5, .int .i64 (n : Int), .int .i64 cap, .int .i64 st, .int .i64 co, vn, vo] 26)) (hn.below (below_alloc _ _)) (ho.below (below_alloc _ _))
  rw [cfgErr_zero5 (by omega) rfl ht] at hc
  have HC := hide hc
  have HOB := hide (fun W u1 u2 => int.objectOf_any 152 (.agg #[.int .i64 st, .int .i64 co, u1, u2]) 188 (.agg #[.int .i64 st, .int .i64 co, u1, u2]) (tableFirst_m _ _ _ _) (tableFirst_c _ _ _ _) (tableFirst _ _ _ _) 5 n cap st co vn vo W h1 h2)
  have HN := hide hn
  have HO := hide ho
  clear hc hn ho ht
  go_enter Tryz.func42, Tryz.ntmps42
  go_wp2_with fail
  refine HC.out.mono ?_
  rintro e w1 ⟨rfl, hb1⟩
  have hB : Below w.heap.size w w1 := Below.next (below_alloc w _) hb1 (by simp)
  have hR : Row w1 w.heap.size 26 [.int .i64 5, .int .i64 (n : Int), .int .i64 cap, .int .i64 st, .int .i64 co, vn, vo] := (Row.new' rfl).old hb1
  obtain ⟨-, q0, q1, q2, q3, q4, q5, q6⟩ := cells7 hR
  have HB1 := hide hB
  have HR := hide hR
  clear hb1 hB hR
  go_wp2_with fail
  refine rg0 (S := (fun w' => Row w' w.heap.size 26 [.int .i64 5, .int .i64 (n : Int), .int .i64 cap, .int .i64 st, .int .i64 co, vn, vo] ∧ w'.cell? ⟨w.heap.size, 0, none⟩ = some (.int .i64 5) ∧ w'.cell? ⟨w.heap.size, 1, none⟩ = some (.int .i64 (n : Int)) ∧ w'.cell? ⟨w.heap.size, 2, none⟩ = some (.int .i64 cap) ∧ w'.cell? ⟨w.heap.size, 3, none⟩ = some (.int .i64 st) ∧ w'.cell? ⟨w.heap.size, 4, none⟩ = some (.int .i64 co) ∧ w'.cell? ⟨w.heap.size, 5, none⟩ = some vn ∧ w'.cell? ⟨w.heap.size, 6, none⟩ = some vo)) 8 rfl (by kernel_rfl) ?_ (fun hHeld => ?_)
  · exact cells7 HR.out
  iterate 2 (refine tk 7 (by rfl) (by kernel_rfl) (by exact fun _ _ _ h => h) (.inl ⟨by rfl, fun w hS => by (try dsimp only at hS); go_simp; (try with_reducible rfl)⟩) (by assumption) ?_; try go_frame)
  iterate 1 (refine tk 9 (by rfl) (by kernel_rfl) (by exact fun _ _ _ h => h) (.inl ⟨by rfl, fun w hS => by (try dsimp only at hS); go_simp; (try with_reducible rfl)⟩) (by assumption) ?_; try go_frame)
  refine rd1 2 (by rfl) (by kernel_rfl) (fun K hK => ?_)
  go_simp
  refine (newTable_any st co nx ou vn vo _ (HN.out.below HB1.out.drew) (HO.out.below HB1.out.drew) n1 n2 n3 n4).mono ?_
  rintro e w2 ⟨g1, k1, g2, k2, rfl, ho1, ho2, hb2⟩
  have HO1 := hide ho1
  have HO2 := hide ho2
  clear ho1 ho2
  go_wp2_with fail
  refine hK.out _ _ ?_ (fun hHeld => ?_)
  · exact cells7 (hHeld.1.old hb2)
  clear hK K
  (try go_frame)
  iterate 1 (refine tk 6 (by rfl) (by kernel_rfl) (by exact fun _ _ _ h => h) (.inl ⟨by rfl, fun w hS => by (try dsimp only at hS); go_simp; (try with_reducible rfl)⟩) (by assumption) ?_; try go_frame)
  refine rd1 5 (by rfl) (by kernel_rfl) (fun K hK => ?_)
  go_simp
  refine (HOB.out _ _ _).mono ?_
  rintro e w3 ⟨b, rfl, hob⟩
  have HX := hide hob
  have HB3 := hide hob.below
  clear hob
  go_wp2_with fail
  refine hK.out _ _ ?_ (fun hHeld => ?_)
  · exact cells7 (hHeld.1.old HB3.out)
  clear hK K
  (try go_frame)
  iterate 2 (refine tk 7 (by rfl) (by kernel_rfl) (by exact fun _ _ _ h => h) (.inl ⟨by rfl, fun w hS => by (try dsimp only at hS); go_simp; (try with_reducible rfl)⟩) (by assumption) ?_; try go_frame)
  refine wpAnyH_done (by kernel_rfl) ?_ _
  (try go_wp2_with fail)
  go_ret2
  have hz1 := HB1.out.size
  have hb12 : Below w.heap.size w w2 := Below.next HB1.out (Below.undrew hb2) hz1
  exact ⟨b, rfl, w2, g1, k1, g2, k2, hb12, HX.out, owns_base HO1.out hz1, owns_base HO2.out hz1⟩
end
end Go.Proofs.YtefjhnhdagolhaaGreat
namespace Go.Proofs.YtefjhnhdagolhaaGreat
open Go.RowKit
set_option maxHeartbeats 400000 in
theorem counterTell (x : Int) (w : World) : Calls Tryz.prog 362 #[.agg #[], .int .i64 x] w fun e w' => ∃ v, e = .returned v ∧ w'.ownsRow w.heap.size 3 1 v 1 (ints [x]) ∧ Below w.heap.size w w' := by
  go_enter Tryz.func362, Tryz.ntmps362
  go_wp2
  go_ret
  refine ⟨_, rfl, ⟨rfl, .inr ⟨w.heap.size + 1, 1, #[.int .i64 x], rfl, by omega, ?_, by omega, by decide, rfl, rfl⟩⟩, (by repeat (first | exact Below.refl _ _ | refine Below.drewN ?_ _ | refine Below.drew ?_ | refine Below.alloc ?_ (by first | (simp; done) | (simp; omega)) _ | refine Below.next ?_ (by assumption) (by first | (simp; done) | (simp; omega))))⟩
  exact Row.new' (xs := [.int .i64 x]) (by simp)
set_option maxHeartbeats 400000 in
theorem tableTell (a b c d : Value) (x : Int) (w : World) : Calls Tryz.prog 388 #[.agg #[a, b, c, d], .int .i64 x] w fun e w' => ∃ v, e = .returned v ∧ w'.ownsRow w.heap.size 3 1 v 1 (ints [x]) ∧ Below w.heap.size w w' := by
  go_enter Tryz.func388, Tryz.ntmps388
  go_wp2
  go_ret
  refine ⟨_, rfl, ⟨rfl, .inr ⟨w.heap.size + 1, 1, #[.int .i64 x], rfl, by omega, ?_, by omega, by decide, rfl, rfl⟩⟩, (by repeat (first | exact Below.refl _ _ | refine Below.drewN ?_ _ | refine Below.drew ?_ | refine Below.alloc ?_ (by first | (simp; done) | (simp; omega)) _ | refine Below.next ?_ (by assumption) (by first | (simp; done) | (simp; omega))))⟩
  exact Row.new' (xs := [.int .i64 x]) (by simp)
theorem tableTell_c (a b c d s : Value) (w : World) : (callFunc 388 #[.agg #[a, b, c, d], s]).run Tryz.prog w = .ok (.enter 388 #[.agg #[a, b, c, d], s]) w := by kernel_rfl
end Go.Proofs.YtefjhnhdagolhaaGreat
namespace Go.Proofs.YtefjhnhdagolhaaGreat
open Go.RowKit
attribute [local go_sem ↓] Go.wp_at_zero Go.wp_at_succ
theorem info_i3 : (Tryz.prog.info? 3).map (fun i => (i.zero, i.size, i.bytes)) = some (some (.int .i64 0), 1, 8) := by kernel_rfl
end Go.Proofs.YtefjhnhdagolhaaGreat
namespace Go.Proofs.YtefjhnhdagolhaaGreat
open Go.RowKit
attribute [local go_sem ↓] Go.wp_at_zero Go.wp_at_succ
set_option maxHeartbeats 1000000 in
theorem badOp_w (w : World) : Calls Tryz.prog 363 #[] w fun e w' => e = .returned (.agg #[.int .i64 4, .int .i64 0]) ∧ Below w.heap.size w w' := by
  go_enter Tryz.func363, Tryz.ntmps363
  go_wp2
  exact bodyPost_ret (v := .agg #[.int .i64 4, .int .i64 0]) (by simp [results, Tryz.results363, go_sem]) rfl ⟨rfl, below_alloc _ _⟩
set_option maxHeartbeats 1000000 in
theorem done_w (x : Int) (w : World) : Calls Tryz.prog 364 #[.int .i64 x] w fun e w' => e = .returned (.agg #[.int .i64 1, .int .i64 x]) ∧ Below w.heap.size w w' := by
  go_enter Tryz.func364, Tryz.ntmps364
  go_wp2
  exact bodyPost_ret (v := .agg #[.int .i64 1, .int .i64 x]) (by simp [results, Tryz.results364, go_sem]) rfl ⟨rfl, below_alloc _ _⟩
end Go.Proofs.YtefjhnhdagolhaaGreat
namespace Go.Proofs.YtefjhnhdagolhaaGreat.M
def Plc (l : List Nat) (t s j : Nat) : Prop := l[j]? = some t ∧ (l.take j).count t = s
section
variable {l m : List Nat} {t s j i : Nat}
theorem Plc.lt (h : Plc l t s j) : j < l.length := (List.getElem?_eq_some_iff.mp h.1).1
theorem Plc.cut (h : Plc l t s j) : l = l.take j ++ t :: l.drop (j + 1) := by
  have e := (List.getElem?_eq_some_iff.mp h.1).2
  have := List.drop_eq_getElem_cons h.lt
  rw [e] at this
  rw [← this, List.take_append_drop]
theorem Plc.cnt (h : Plc l t s j) : s < l.count t := by
  have := h.cut
  rw [this, List.count_append, List.count_cons_self, h.2]
  omega
theorem Plc.append (h : Plc l t s j) (m : List Nat) : Plc (l ++ m) t s j := by
  refine ⟨?_, ?_⟩
  · rw [List.getElem?_append_left h.lt]; exact h.1
  · rw [List.take_append_of_le_length (Nat.le_of_lt h.lt)]; exact h.2
theorem take_count_mono (l : List Nat) (t : Nat) {i j : Nat} (h : i ≤ j) : (l.take i).count t ≤ (l.take j).count t := by
  have e : l.take i = (l.take j).take i := by rw [List.take_take, Nat.min_eq_left h]
  rw [e]
  exact List.Sublist.count_le _ (List.take_sublist _ _)
theorem Plc.uniq (h : Plc l t s j) (h' : Plc l t s i) : j = i := by
  have key : ∀ {a b : Nat}, Plc l t s a → Plc l t s b → a < b → False := by
    intro a b ha hb hlt
    have h1 : (l.take (a + 1)).count t = s + 1 := by
      rw [List.take_add_one, ha.1, List.count_append, ha.2]; simp
    have h2 := take_count_mono l t (i := a + 1) (j := b) hlt
    rw [h1, hb.2] at h2
    omega
  rcases Nat.lt_trichotomy j i with c | c | c
  · exact (key h h' c).elim
  · exact c
  · exact (key h' h c).elim
theorem Plc.ex : ∀ {l : List Nat} {t s : Nat}, s < l.count t → ∃ j, Plc l t s j := by
  intro l
  induction l with
  | nil => intro t s h; simp at h
  | cons a l ih =>
    intro t s h
    by_cases e : a = t
    · subst e
      cases s with
      | zero => exact ⟨0, rfl, rfl⟩
      | succ s =>
        rw [List.count_cons_self] at h
        obtain ⟨j, h1, h2⟩ := ih (t := a) (s := s) (by omega)
        exact ⟨j + 1, by simpa using h1, by rw [List.take_succ_cons, List.count_cons_self, h2]⟩
    · rw [List.count_cons_of_ne e] at h
      obtain ⟨j, h1, h2⟩ := ih h
      exact ⟨j + 1, by simpa using h1, by rw [List.take_succ_cons, List.count_cons_of_ne e, h2]⟩
theorem Plc.old (h : Plc (l ++ m) t s j) (hs : s < l.count t) : Plc l t s j := by
  obtain ⟨i, hi⟩ := Plc.ex hs
  rw [h.uniq (hi.append m)]
  exact hi
theorem Plc.new (h : Plc (l ++ m) t s j) (hs : l.count t ≤ s) : l.length ≤ j := by
  by_cases c : j < l.length
  · have h1 := h.1
    rw [List.getElem?_append_left c] at h1
    have h2 := h.2
    rw [List.take_append_of_le_length (Nat.le_of_lt c)] at h2
    have := (show Plc l t s j from ⟨h1, h2⟩).cnt
    omega
  · omega
end
section
variable {σ : Type}
def ansAt (P : Plain σ) (ops : Nat → Nat → Op) (l : List Nat) (j t s : Nat) : Ans := (P.apply ((Rp.new P).run P ops (l.take j)).st (ops t s)).2
theorem new_c (P : Plain σ) (ops : Nat → Nat → Op) (l : List Nat) (k : Nat) : ((Rp.new P).run P ops l).c k = l.count k := by
  rw [run_c]; simp [Rp.new]
theorem ansAt_last (P : Plain σ) (ops : Nat → Nat → Op) {l : List Nat} {t s j : Nat} (h : Plc l t s j) (hl : l.count t = s + 1) : ((Rp.new P).run P ops l).an t = ansAt P ops l j t s := by
  have hc := h.cut
  have hn : t ∉ l.drop (j + 1) := by
    intro q
    have := List.count_pos_iff.2 q
    have e := congrArg (List.count t) hc
    rw [List.count_append, List.count_cons_self, h.2, hl] at e
    omega
  have e : (Rp.new P).run P ops l = (((Rp.new P).run P ops (l.take j)).next P ops t).run P ops (l.drop (j + 1)) := by
    conv => lhs; rw [hc]
    unfold Rp.run
    rw [List.foldl_append, List.foldl_cons]
  rw [e, run_an P ops t _ _ hn]
  show upd _ t _ t = _
  rw [upd_same, new_c, h.2]
  rfl
theorem ansAt_append (P : Plain σ) {ops ops' : Nat → Nat → Op} {l : List Nat} {t s j : Nat} (m : List Nat) (h : Plc l t s j) (ho : ∀ k i, i < l.count k → ops k i = ops' k i) : ansAt P ops' (l ++ m) j t s = ansAt P ops l j t s := by
  unfold ansAt
  rw [List.take_append_of_le_length (Nat.le_of_lt h.lt), ← ho t s h.cnt]
  rw [run_congr P (ops := ops) (ops' := ops') (l.take j) (Rp.new P) fun k i hi => ho k i (Nat.lt_of_lt_of_le (by simpa [Rp.new] using hi) (List.Sublist.count_le _ (List.take_sublist _ _)))]
end
def BOk (bs : List (List Nat)) : Prop := ∀ b ∈ bs, b ≠ [] ∧ b.Pairwise (· < ·)
theorem over_bs_eq (n cap : Nat) (Y : RSt) (t : Nat) (x : RTh) : (over n cap Y t x).1.bs = Y.bs ∨ (x.part = 10 ∧ (over n cap Y t x).1.bs = Y.bs ++ [x.pend]) := by
  unfold over
  split
  · exact .inl rfl
  · exact .inl rfl
  · exact .inl rfl
  · split
    · exact .inr ⟨by assumption, rfl⟩
    · exact .inl rfl
  · exact .inl rfl
  · exact .inl rfl
theorem rstep_bs_eq (n cap : Nat) (Y : RSt) (t : Nat) : (rstep n cap Y t).1.bs = Y.bs ∨ ((Y.th t).part = 10 ∧ (rstep n cap Y t).1.bs = Y.bs ++ [(Y.th t).pend]) := by
  unfold rstep
  dsimp only
  split
  · exact .inl rfl
  · exact over_bs_eq _ _ _ _ _
section
variable {σ : Type} {P : Plain σ} {n cap : Nat} {Y : RSt} {t : Nat}
theorem YI.pend (h : YI P n cap Y) (ht : t < n) (hp : (Y.th t).part = 10) : (Y.th t).pend ≠ [] ∧ (Y.th t).pend.Pairwise (· < ·) := by
  obtain ⟨E, pb, nf, -, -, T⟩ := h
  obtain ⟨e, q, q2, -⟩ := (T t ht).h8 (by omega) (by omega)
  rw [← e]
  refine ⟨fun c => by rw [c] at q2; simp at q2, ?_⟩
  rw [q]
  exact List.Pairwise.filter _ List.pairwise_lt_range
theorem BOk.step (hb : BOk Y.bs) (h : YI P n cap Y) (ht : t < n) : BOk (rstep n cap Y t).1.bs := by
  rcases rstep_bs_eq n cap Y t with e | ⟨hp, e⟩
  · rw [e]; exact hb
  · rw [e]
    intro b hb'
    rcases List.mem_append.mp hb' with q | q
    · exact hb b q
    · rw [List.mem_singleton.mp q]; exact h.pend ht hp
theorem rstep_flat (n cap : Nat) (Y : RSt) (t : Nat) : ∃ m, (rstep n cap Y t).1.bs.flatten = Y.bs.flatten ++ m := by
  rcases rstep_bs_eq n cap Y t with e | ⟨-, e⟩
  · exact ⟨[], by rw [e, List.append_nil]⟩
  · exact ⟨(Y.th t).pend, by rw [e]; simp⟩
end
theorem fail_keeps (n cap : Nat) (x : RTh) : (x.fail n cap).flips = x.flips ∧ (x.fail n cap).ended = x.ended := by
  unfold RTh.fail
  split <;> exact ⟨(enter_keeps _ _ _).2.2.1, (enter_keeps _ _ _).2.1⟩
theorem over_flips (n cap : Nat) (Y : RSt) (t : Nat) (x : RTh) (k : Nat) : ((over n cap Y t x).1.th k).flips = if k = t then (if x.part = 2 then x.flips + 1 else x.flips) else (Y.th k).flips := by
  by_cases e : k = t
  · subst e
    rw [if_pos rfl]
    unfold over
    split
    · rename_i q; rw [if_pos q]; simp only [RSt.set, upd_same, (enter_keeps _ _ _).2.2.1]
    · rename_i q; rw [if_neg (show ¬ x.part = 2 by omega)]; simp only [RSt.set, upd_same, (enter_keeps _ _ _).2.2.1]
    · rename_i q
      rw [if_neg (show ¬ x.part = 2 by omega)]
      simp only [RSt.set, upd_same]
      split
      · rw [(enter_keeps _ _ _).2.2.1]
      · exact (fail_keeps _ _ _).1
    · rename_i q
      rw [if_neg (show ¬ x.part = 2 by omega)]
      split
      · simp only [upd_same, (enter_keeps _ _ _).2.2.1]
      · simp only [RSt.set, upd_same]; exact (fail_keeps _ _ _).1
    · rename_i q; rw [if_neg (show ¬ x.part = 2 by omega)]; simp only [RSt.set, upd_same]
    · rename_i q1 q2 q3 q4 q5
      rw [if_neg (show ¬ x.part = 2 from q1)]; simp only [RSt.set, upd_same, (enter_keeps _ _ _).2.2.1]
  · rw [if_neg e]
    unfold over
    split <;> (try split) <;> simp only [RSt.set, upd_other _ _ e]
theorem over_part (n cap : Nat) (Y : RSt) (t : Nat) (x : RTh) {k : Nat} (e : k ≠ t) : ((over n cap Y t x).1.th k) = Y.th k := by
  unfold over
  split <;> (try split) <;> simp only [RSt.set, upd_other _ _ e]
theorem rstep_other (n cap : Nat) (Y : RSt) (t : Nat) {k : Nat} (e : k ≠ t) : ((rstep n cap Y t).1.th k) = Y.th k := by
  unfold rstep
  dsimp only
  split
  · simp only [RSt.set, upd_other _ _ e]
  · exact over_part _ _ _ _ _ e
theorem rstep_flips {n cap : Nat} {Y : RSt} {t : Nat} (h : TOk n cap (Y.th t)) : ((rstep n cap Y t).1.th t).flips = if (Y.th t).part = 2 then (Y.th t).flips + 1 else (Y.th t).flips := by
  unfold rstep
  dsimp only
  split
  · rename_i q
    have : (Y.th t).part ≠ 2 := fun c => by
      have := (h.p2 (by omega)).2
      rw [c] at this
      simp [RTh.len] at this
      omega
    rw [if_neg this]
    simp only [RSt.set, upd_same]
  · rw [over_flips, if_pos rfl]
theorem enter_ge (n : Nat) (x : RTh) (p : Nat) : p ≤ (x.enter n p).part ∧ (x.enter n p).part ≤ p + 1 := by
  unfold RTh.enter
  split <;> exact ⟨by dsimp only; omega, by dsimp only; omega⟩
theorem fail_ge (n cap : Nat) (x : RTh) : 3 ≤ (x.fail n cap).part := by
  unfold RTh.fail
  split
  · have := (enter_ge n { x with backoff := min (2 * x.backoff + 1) cap } 11).1; omega
  · exact (enter_ge n { x with backoff := min (2 * x.backoff + 1) cap, tries := 2 } 3).1
theorem rstep_part {n cap : Nat} {Y : RSt} {t : Nat} (h : TOk n cap (Y.th t)) (hp : (Y.th t).part ≠ 0) :
    ((Y.th t).part = 1 → ((rstep n cap Y t).1.th t).part = 1 ∧ ((rstep n cap Y t).1.th t).left + 1 = (Y.th t).left ∨ ((rstep n cap Y t).1.th t).part = 2 ∧ (Y.th t).left = 1) ∧
    (2 ≤ (Y.th t).part → 3 ≤ ((rstep n cap Y t).1.th t).part ∨ ((rstep n cap Y t).1.th t).part = 0) ∧ ((Y.th t).part ≤ 2 → ((rstep n cap Y t).1.th t).part ≠ 0) := by
  obtain ⟨l1, l2⟩ := h.p2 hp
  unfold rstep
  dsimp only
  generalize (if (Y.th t).part = 6 then fun k => if k / 16 = tw n - ((Y.th t).left - 1) - 1 ∧ k < n then (Y.th k).flips else (Y.th t).flipped k else (Y.th t).flipped) = fl
  by_cases q : 0 < (Y.th t).left - 1
  · rw [if_pos q]
    simp only [RSt.set, upd_same]
    refine ⟨fun c => .inl ⟨c, by omega⟩, fun c => ?_, fun _ => hp⟩
    by_cases c2 : (Y.th t).part = 2
    · rw [c2] at l2; simp [RTh.len] at l2; omega
    · exact .inl (by omega)
  · rw [if_neg q]
    have hl : (Y.th t).left = 1 := by omega
    have h1 := h.p1
    generalize hx : ({ ops := (Y.th t).ops, ended := (Y.th t).ended, flips := (Y.th t).flips, part := (Y.th t).part, left := (Y.th t).left - 1, backoff := (Y.th t).backoff, tries := (Y.th t).tries, stamp := (Y.th t).stamp, flipped := fl, pend := (Y.th t).pend } : RTh) = x
    have hxp : (Y.th t).part = x.part := by rw [← hx]
    rw [hxp] at hp h1 ⊢
    unfold over
    split
    · simp only [RSt.set, upd_same]
      have g := fun y => enter_ge n y 3
      exact ⟨fun c => by omega, fun _ => .inl (g _).1, fun _ => by have := (g { x with flips := x.flips + 1, tries := 1 }).1; omega⟩
    · simp only [RSt.set, upd_same]
      have g := fun y => enter_ge n y 5
      exact ⟨fun c => by omega, fun _ => .inl (by have := (g { x with stamp := Y.bs.length }).1; omega), fun c => by omega⟩
    · simp only [RSt.set, upd_same]
      refine ⟨fun c => by omega, fun _ => .inl ?_, fun c => by omega⟩
      split
      · split
        · have := (enter_ge n { x with pend := Y.pending n x } 8).1; omega
        · have := (enter_ge n { x with pend := Y.pending n x } 11).1; omega
      · exact fail_ge _ _ _
    · refine ⟨fun c => by omega, fun _ => .inl ?_, fun c => by omega⟩
      split
      · simp only [upd_same]; have := (enter_ge n { x with pend := [], backoff := x.backoff / 2 } 11).1; omega
      · simp only [RSt.set, upd_same]; exact fail_ge _ _ _
    · exact ⟨fun c => by omega, fun _ => .inr (by simp only [RSt.set, upd_same]), fun c => by omega⟩
    · rename_i q1 q2 q3 q4 q5
      simp only [RSt.set, upd_same]
      have g := enter_ge n x (x.part + 1)
      refine ⟨fun c => ?_, fun c => .inl (by have := q1; omega), fun c => by omega⟩
      rw [c]
      have : (x.enter n 2).part = 2 := by unfold RTh.enter; simp [RTh.len]
      exact .inr ⟨this, hl⟩
end Go.Proofs.YtefjhnhdagolhaaGreat.M
