import Derived.Test.YtefjhnhdagolhaaGreatQ16
import Derived.Test.YtefjhnhdagolhaaGreatQ10
namespace Go.Proofs.YtefjhnhdagolhaaGreat
open Go.RowKit
attribute [local go_sem ↓] Go.wp_at_zero Go.wp_at_succ
structure Both (base bL bX bY n g gc : Nat) (bT : Nat → Nat) (kind cap st co : Int) (vn vo : Value) (tE : TypeId) (bN fA fO fS fB : Nat) (ms is : Value) (w0 w : World) : Prop where
  law : Row w bL 90 [.pointer (some ⟨bX, 0, none⟩), .pointer (some ⟨bY, 0, none⟩), ms, is]
  obj : Row w bX 74 [.iface tE (.pointer (some ⟨bN, 0, none⟩))]
  eng : Eng base tE bN fA fO fS fB n cap (holdsNew kind) w0
  old : Keeps base w0 w
  ref : RefRd bY n g gc bT kind cap st co vn vo w
section
variable {base bL bX bY n g gc : Nat} {bT : Nat → Nat} {kind cap st co : Int} {vn vo : Value} {tE : TypeId} {bN fA fO fS fB : Nat} {ms is : Value} {w0 : World} (w : World)
set_option maxRecDepth 20000 in
set_option maxHeartbeats 1000000 in
theorem lawBound (h : Both base bL bX bY n g gc bT kind cap st co vn vo tE bN fA fO fS fB ms is w0 w) (h1 : 1 ≤ n) (h2 : n ≤ 64) (h3 : 0 ≤ cap) (h4 : cap ≤ 64) :
    Calls Tryz.prog 51 #[.pointer (some ⟨bL, 0, none⟩)] w fun e w' => e = .returned (.bool true) ∧ Below w.heap.size w w' := by
  have c0 : w.cell? ⟨bL, 0, none⟩ = some (.pointer (some ⟨bX, 0, none⟩)) := h.law.cell_of rfl
  have c1 : w.cell? ⟨bL, 1, none⟩ = some (.pointer (some ⟨bY, 0, none⟩)) := h.law.cell_of rfl
  have cx : w.cell? ⟨bX, 0, none⟩ = some (.iface tE (.pointer (some ⟨bN, 0, none⟩))) := h.obj.cell_of rfl
  have hm := h.eng.mB
  have hc := h.eng.cB
  have HH := hide h
  clear h
  go_enter Tryz.func51, Tryz.ntmps51
  go_wp2_with fail
  refine (HH.out.eng.bnd _ HH.out.old).mono ?_
  rintro e w1 ⟨rfl, hb1⟩
  have d1 : w1.cell? ⟨bL, 1, none⟩ = some (.pointer (some ⟨bY, 0, none⟩)) := cell_later hb1 c1
  have HB1 := hide hb1
  clear hb1 c0 c1 cx hm hc
  go_wp2_with fail
  refine (refBound w1 (HH.out.ref.later HB1.out) h1 h2 h3 h4).mono ?_
  rintro e w2 ⟨rfl, k, rfl⟩
  go_wp2_with fail
  go_ret
  exact ⟨ret_bool (by simp), Below.drewN HB1.out _⟩
set_option maxRecDepth 20000 in
set_option maxHeartbeats 1000000 in
theorem lawAnswer_out (t : Int) (h : Both base bL bX bY n g gc bT kind cap st co vn vo tE bN fA fO fS fB ms is w0 w) (h2 : n ≤ 64) (ht : t < 0 ∨ (n : Int) ≤ t) :
    Calls Tryz.prog 48 #[.pointer (some ⟨bL, 0, none⟩), .int .i64 t] w fun e w' => e = .returned (.bool true) ∧ Below w.heap.size w w' := by
  have c0 : w.cell? ⟨bL, 0, none⟩ = some (.pointer (some ⟨bX, 0, none⟩)) := h.law.cell_of rfl
  have c1 : w.cell? ⟨bL, 1, none⟩ = some (.pointer (some ⟨bY, 0, none⟩)) := h.law.cell_of rfl
  have cx : w.cell? ⟨bX, 0, none⟩ = some (.iface tE (.pointer (some ⟨bN, 0, none⟩))) := h.obj.cell_of rfl
  have hm := h.eng.mA
  have hc := h.eng.cA
  have heq : ∀ W, (binOp .eql 94 (.agg #[.int .i64 0, .int .i64 0]) (.agg #[.int .i64 0, .int .i64 0])).run Tryz.prog W = .ok (.bool true) W := fun _ => by kernel_rfl
  have HH := hide h
  have HT := hide ht
  clear h ht
  go_enter Tryz.func48, Tryz.ntmps48
  go_wp2_with fail
  refine (HH.out.eng.aOut t _ HH.out.old HT.out).mono ?_
  rintro e w1 ⟨rfl, hb1⟩
  have d1 : w1.cell? ⟨bL, 1, none⟩ = some (.pointer (some ⟨bY, 0, none⟩)) := cell_later hb1 c1
  have d1' := fun ob => cell_new d1 ob
  have HB1 := hide hb1
  clear hb1 c0 c1 cx hm hc
  go_wp2_with fail
  refine (refAnswer_out _ t (HH.out.ref.later (Below.next HB1.out (below_alloc _ _) HB1.out.size)) h2 HT.out).mono ?_
  rintro e w2 ⟨rfl, hb2⟩
  have d2 : w2.cell? ⟨w1.heap.size, 0, none⟩ = some (.int .i64 0) := cell_later hb2 ((Row.new w1 [_, _] 94).cell_of rfl)
  have d3 : w2.cell? ⟨w1.heap.size, 1, none⟩ = some (.int .i64 0) := cell_later hb2 ((Row.new w1 [_, _] 94).cell_of rfl)
  have d2' := fun ob => cell_new d2 ob
  have d3' := fun ob => cell_new d3 ob
  have HB2 := hide (Below.next (Below.next HB1.out (below_alloc _ _) HB1.out.size) hb2 (by have := HB1.out.size; simp; omega))
  clear hb2
  go_wp2_with fail
  go_ret
  exact ⟨rfl, Below.next HB2.out (below_alloc _ _) HB2.out.size⟩
set_option maxRecDepth 20000 in
set_option maxHeartbeats 1000000 in
theorem lawAnswer_new (t : Nat) (h : Both base bL bX bY n g gc bT kind cap st co vn vo tE bN fA fO fS fB ms is w0 w) (h2 : n ≤ 64) (ht : t < n) :
    Calls Tryz.prog 48 #[.pointer (some ⟨bL, 0, none⟩), .int .i64 (t : Int)] w fun e w' => e = .returned (.bool true) ∧ Below w.heap.size w w' := by
  have c0 : w.cell? ⟨bL, 0, none⟩ = some (.pointer (some ⟨bX, 0, none⟩)) := h.law.cell_of rfl
  have c1 : w.cell? ⟨bL, 1, none⟩ = some (.pointer (some ⟨bY, 0, none⟩)) := h.law.cell_of rfl
  have cx : w.cell? ⟨bX, 0, none⟩ = some (.iface tE (.pointer (some ⟨bN, 0, none⟩))) := h.obj.cell_of rfl
  have hm := h.eng.mA
  have hc := h.eng.cA
  have heq : ∀ W, (binOp .eql 94 (.agg #[.int .i64 0, .int .i64 0]) (.agg #[.int .i64 0, .int .i64 0])).run Tryz.prog W = .ok (.bool true) W := fun _ => by kernel_rfl
  have HH := hide h
  have HT := hide ht
  clear h ht
  go_enter Tryz.func48, Tryz.ntmps48
  go_wp2_with fail
  refine (HH.out.eng.aNew t _ HH.out.old HT.out).mono ?_
  rintro e w1 ⟨rfl, hb1⟩
  have d1 : w1.cell? ⟨bL, 1, none⟩ = some (.pointer (some ⟨bY, 0, none⟩)) := cell_later hb1 c1
  have d1' := fun ob => cell_new d1 ob
  have HB1 := hide hb1
  clear hb1 c0 c1 cx hm hc
  go_wp2_with fail
  refine (refAnswer_new _ t (HH.out.ref.later (Below.next HB1.out (below_alloc _ _) HB1.out.size)) h2 HT.out).mono ?_
  rintro e w2 ⟨rfl, hb2⟩
  have d2 : w2.cell? ⟨w1.heap.size, 0, none⟩ = some (.int .i64 0) := cell_later hb2 ((Row.new w1 [_, _] 94).cell_of rfl)
  have d3 : w2.cell? ⟨w1.heap.size, 1, none⟩ = some (.int .i64 0) := cell_later hb2 ((Row.new w1 [_, _] 94).cell_of rfl)
  have d2' := fun ob => cell_new d2 ob
  have d3' := fun ob => cell_new d3 ob
  have HB2 := hide (Below.next (Below.next HB1.out (below_alloc _ _) HB1.out.size) hb2 (by have := HB1.out.size; simp; omega))
  clear hb2
  go_wp2_with fail
  go_ret
  exact ⟨rfl, Below.next HB2.out (below_alloc _ _) HB2.out.size⟩
set_option maxHeartbeats 400000 in
theorem markOf_any (k : Int) (w : World) (h0 : 0 ≤ k) (h1 : k ≤ 9223372036854775807) :
    Calls Tryz.prog 52 #[.int .i64 k] w fun e w' => e = .returned (.agg #[.int .i64 (-1 - k), .int .i64 (-1), .int .i64 (-1)]) ∧ Below w.heap.size w w' := by
  go_enter Tryz.func52, Tryz.ntmps52
  go_wp2
  exact bodyPost_ret (v := .agg #[.int .i64 (-1 - k), .int .i64 (-1), .int .i64 (-1)]) (by simp [results, Tryz.results52, go_sem]) rfl ⟨rfl, (by repeat (first | exact Below.refl _ _ | assumption | refine Below.drewN ?_ _ | refine Below.alloc ?_ (by simp) _))⟩
set_option maxHeartbeats 400000 in
theorem sameMarks_nil (w : World) : Calls Tryz.prog 62 #[.slice none 0 0, .slice none 0 0] w fun e w' => e = .returned (.bool true) ∧ w' = w := by
  go_enter Tryz.func62, Tryz.ntmps62
  go_wp2
  go_loop [5] (fun i => i = .int .i64 0) (fun _ => 0)
  case atStart => rfl
  case round =>
    subst hrel
    go_wp2
    go_ret
    exact ⟨rfl, rfl⟩
end
end Go.Proofs.YtefjhnhdagolhaaGreat
namespace Go.Proofs.YtefjhnhdagolhaaGreat
open Go.RowKit
attribute [local go_sem ↓] Go.wp_at_zero Go.wp_at_succ
theorem refNew_err (cap st co : Int) (nx ou : List Int) (vn vo : Value) (w : World) (hn : Sl w vn (ints nx)) (ho : Sl w vo (ints ou)) (kind th : Int) (h : cfgErr kind th cap st co nx ou ≠ 0) :
    Calls Tryz.prog 41 #[.agg #[.int .i64 kind, .int .i64 th, .int .i64 cap, .int .i64 st, .int .i64 co, vn, vo]] w fun e w' => e = .returned (.tuple #[.pointer none, .int .i64 (cfgErr kind th cap st co nx ou)]) ∧ Below w.heap.size w w' := by
  by_cases hc : 1 ≤ kind ∧ kind ≤ 5 ∧ 1 ≤ th ∧ th ≤ 64 ∧ 0 ≤ cap ∧ cap ≤ 64
  · have h5 : kind = 5 ∧ tableOk st co nx ou = false := by
      unfold cfgErr at h
      rw [if_pos hc] at h
      by_cases hk : kind = 5
      · rw [if_pos hk] at h
        refine ⟨hk, ?_⟩
        cases ht : tableOk st co nx ou
        · rfl
        · rw [ht] at h; simp at h
      · rw [if_neg hk] at h; exact absurd rfl h
    obtain ⟨rfl, ht⟩ := h5
    rw [cfgErr_two hc rfl ht]
    exact refNew_two cap st co nx ou vn vo w hn ho th ⟨hc.2.2.1, hc.2.2.2.1, hc.2.2.2.2.1, hc.2.2.2.2.2⟩ ht
  · exact refNew_one cap st co nx ou vn vo w kind th hc
theorem beyond_sl {w : World} {g : Nat} {xs : List Int} (h : Row w g 3 (ints (xs ++ [-77, -77]))) (hl : xs.length ≤ 1048576) : Sl w (.slice (some ⟨g, 0, none⟩) xs.length (xs.length + 2)) (ints xs) :=
  h.sl (by simp [ints]) (by simp [ints]) (by omega) (by unfold maxLen; omega)
theorem beyond_all {w : World} {g : Nat} {xs : List Int} (h : Row w g 3 (ints (xs ++ [-77, -77]))) (hl : xs.length ≤ 1048576) : Sl w (.slice (some ⟨g, 0, none⟩) (xs.length + 2) (xs.length + 2)) (ints (xs ++ [-77, -77])) :=
  h.sl (by rw [List.take_of_length_le (by simp [ints])]) (by simp [ints]) (by omega) (by unfold maxLen; omega)
set_option maxRecDepth 20000 in
set_option maxHeartbeats 2000000 in
theorem made_err (kind th cap st co : Int) (nx ou : List Int) (vn vo : Value) (w : World) (hn : Sl w vn (ints nx)) (ho : Sl w vo (ints ou)) (n1 : nx.length ≤ 1048576) (n2 : ou.length ≤ 1048576) (h : cfgErr kind th cap st co nx ou ≠ 0) :
    Calls Tryz.prog 17 #[.agg #[.int .i64 kind, .int .i64 th, .int .i64 cap, .int .i64 st, .int .i64 co, vn, vo]] w fun e w' => e = .returned (.tuple #[.pointer none, .bool true]) ∧ Below w.heap.size w w' := by
  have HREF := hide (fun W hW => refNew_err cap st co nx ou vn vo W (hn.below hW) (ho.below hW) kind th h)
  have HNEW := hide (fun (W : World) (u1 u2 : Value) (s1 : Sl W u1 (ints nx)) (s2 : Sl W u2 (ints ou)) => new_err cap st co nx ou u1 u2 W s1 s2 kind th h)
  obtain ⟨a1, k1, e1, -⟩ := hn.open_ints
  obtain ⟨a2, k2, e2, -⟩ := ho.open_ints
  have HN := hide hn
  have HO := hide ho
  clear hn ho
  subst e1
  subst e2
  generalize cfgErr kind th cap st co nx ou = x at *
  clear h
  go_enter Tryz.func17, Tryz.ntmps17
  go_wp2_with fail
  refine (HREF.out _ (below_alloc _ _)).mono ?_
  rintro e w1 ⟨rfl, hb1⟩
  have hR1 : Row w1 w.heap.size 26 [.int .i64 kind, .int .i64 th, .int .i64 cap, .int .i64 st, .int .i64 co, .slice a1 nx.length k1, .slice a2 ou.length k2] := (Row.new' rfl).old hb1
  have q5 : w1.cell? ⟨w.heap.size, 5, none⟩ = some (.slice a1 nx.length k1) := hR1.cell_of rfl
  have HB1 := hide (Below.next (below_alloc w _) hb1 (by simp))
  have HR1 := hide hR1
  clear hb1 hR1
  go_wp2_with fail
  refine (handed_any nx _ _ (HN.out.below HB1.out) n1).mono ?_
  rintro e w2 ⟨g1, rfl, hg1, hr1, hb2⟩
  have q6 : w2.cell? ⟨w.heap.size, 6, none⟩ = some (.slice a2 ou.length k2) := cell_later hb2 (HR1.out.cell_of rfl)
  have HB2 := hide hb2
  have HG1 := hide (show Row w2 g1 3 (ints (nx ++ [-77, -77])) from hr1)
  have HBw2 := hide (Below.next HB1.out hb2 HB1.out.size)
  clear q5 hb2 hr1
  go_wp2_with fail
  refine (handed_any ou _ _ (HO.out.below HBw2.out) n2).mono ?_
  rintro e w3 ⟨g2, rfl, hg2, hr2, hb3⟩
  have HB3 := hide hb3
  have HG2 := hide (show Row w3 g2 3 (ints (ou ++ [-77, -77])) from hr2)
  have HG1' := hide (HG1.out.old hb3)
  have HBw3 := hide (Below.next HBw2.out hb3 HBw2.out.size)
  have HR3 := hide ((HR1.out.old HB2.out).old hb3)
  obtain ⟨-, q0, q1, q2, q3, q4, q5, q6'⟩ := cells7 HR3.out
  have q5' := fun ob => cell_new q5 ob
  have q6'' := fun ob => cell_new q6' ob
  have hne : ¬ w.heap.size = w3.heap.size := by have := HR3.out.lt; omega
  clear hb3 hr2 q6
  go_wp2_with fail
  refine (HNEW.out _ _ _ (beyond_sl (HG1'.out.alloc _) n1) (beyond_sl (HG2.out.alloc _) n2)).mono ?_
  rintro e w4 ⟨rfl, hb4⟩
  have HB4 := hide (Below.next (below_alloc w3 _) hb4 (by simp))
  have HBw4 := hide (Below.next HBw3.out HB4.out HBw3.out.size)
  have r5 : w4.cell? ⟨w.heap.size, 5, none⟩ = some (.slice a1 nx.length k1) := cell_later HB4.out q5
  have HG14 := hide (HG1'.out.old HB4.out)
  have HG24 := hide (HG2.out.old HB4.out)
  have HR4 := hide (HR3.out.old HB4.out)
  clear hb4 q0 q1 q2 q3 q4 q5 q6' q5' q6''
  go_wp2_with fail
  refine (handed_any nx _ _ (HN.out.below HBw4.out) n1).mono ?_
  rintro e w5 ⟨g3, rfl, hg3, hr3, hb5⟩
  have HB5 := hide hb5
  have HG3 := hide (show Row w5 g3 3 (ints (nx ++ [-77, -77])) from hr3)
  clear hb5 hr3 r5
  go_wp2_with fail
  refine (sameInts_any (nx ++ [-77, -77]) (nx ++ [-77, -77]) _ _ _ (beyond_all (HG14.out.old HB5.out) n1) (beyond_all HG3.out n1)).mono ?_
  rintro e w6 ⟨rfl, k6, rfl⟩
  rw [decide_eq_true (rfl : nx ++ [-77, -77] = nx ++ [-77, -77])]
  have HBw6 := hide (Below.drewN (Below.next HBw4.out HB5.out HBw4.out.size) k6)
  have r6 : (w5.drewN k6).cell? ⟨w.heap.size, 6, none⟩ = some (.slice a2 ou.length k2) := (HR4.out.old HB5.out).cell_of rfl
  generalize hW6 : World.drewN w5 k6 = w6 at r6 HBw6 ⊢
  have HG26 := hide (show Row w6 g2 3 (ints (ou ++ [-77, -77])) by rw [← hW6]; exact HG24.out.old (Below.drewN HB5.out _))
  have HG16 := hide (show Row w6 g1 3 (ints (nx ++ [-77, -77])) by rw [← hW6]; exact HG14.out.old (Below.drewN HB5.out _))
  clear hW6
  go_wp2_with fail
  refine (handed_any ou _ _ (HO.out.below HBw6.out) n2).mono ?_
  rintro e w7 ⟨g4, rfl, hg4, hr4, hb7⟩
  have HB7 := hide hb7
  have HG4 := hide (show Row w7 g4 3 (ints (ou ++ [-77, -77])) from hr4)
  clear hb7 hr4 r6
  go_wp2_with fail
  refine (sameInts_any (ou ++ [-77, -77]) (ou ++ [-77, -77]) _ _ _ (beyond_all (HG26.out.old HB7.out) n2) (beyond_all HG4.out n2)).mono ?_
  rintro e w8 ⟨rfl, k8, rfl⟩
  rw [decide_eq_true (rfl : ou ++ [-77, -77] = ou ++ [-77, -77])]
  generalize hW8 : World.drewN w7 k8 = w8
  have HBw8 := hide (show Below w.heap.size w w8 by rw [← hW8]; exact Below.drewN (Below.next HBw6.out HB7.out HBw6.out.size) _)
  have HG28 := hide (show Row w8 g2 3 (ints (ou ++ [-77, -77])) by rw [← hW8]; exact HG26.out.old (Below.drewN HB7.out _))
  have HG18 := hide (show Row w8 g1 3 (ints (nx ++ [-77, -77])) by rw [← hW8]; exact HG16.out.old (Below.drewN HB7.out _))
  clear hW8
  have hzz : w.heap.size ≤ g1 := by have := HB1.out.size; omega
  have hzz2 : w.heap.size ≤ g2 := by have := HBw2.out.size; omega
  have ht1 : w8.there g1 0 (nx.length + 2) := HG18.out.there (by simp [ints])
  have ht2 : w8.there g2 0 (ou.length + 2) := HG28.out.there (by simp [ints])
  have HS := hide (show Below w.heap.size w w8 ∧ w8.there g1 0 (nx.length + 2) ∧ w8.there g2 0 (ou.length + 2) from ⟨HBw8.out, ht1, ht2⟩)
  clear ht1 ht2
  go_wp2
  go_loopw [13] (fun i w' => ∃ k : Nat, k ≤ nx.length + 2 ∧ i = .int .i64 (k : Int) ∧ Below w.heap.size w w' ∧ w'.there g1 0 (nx.length + 2) ∧ w'.there g2 0 (ou.length + 2)) (fun i _ => nx.length + 2 - (intOf i).toNat)
  case atStart => exact ⟨0, Nat.zero_le _, rfl, HS.out⟩
  case round =>
    obtain ⟨k, hk, rfl, hB, hT1, hT2⟩ := hrel
    by_cases hlt : k < nx.length + 2
    · obtain ⟨hv1, hv2⟩ := hT1 k hlt
      rw [Nat.zero_add] at hv1 hv2
      obtain ⟨v, hv⟩ := Option.isSome_iff_exists.1 hv1
      have hlt' : (k : Int) < (nx.length : Int) + 2 := by omega
      have hk0 : (0 : Int) ≤ (k : Int) := by omega
      have HX := hide (And.intro hB (And.intro hT1 hT2))
      clear hB hT1 hT2 hv1
      go_wp2
      go_roundw
      case rel => exact ⟨k + 1, by omega, by go_num, HX.out.1.setCell hzz _, there_set HX.out.2.1 _ rfl _, there_set HX.out.2.2 _ rfl _⟩
      case measure => simp [intOf]; omega
    · have hlt' : ¬ (k : Int) < (nx.length : Int) + 2 := by omega
      have HX := hide (And.intro hB (And.intro hT1 hT2))
      clear hB hT1 hT2
      go_wp2
      go_loopw [14] (fun i w' => ∃ k : Nat, k ≤ ou.length + 2 ∧ i = .int .i64 (k : Int) ∧ Below w.heap.size w w' ∧ w'.there g2 0 (ou.length + 2)) (fun i _ => ou.length + 2 - (intOf i).toNat)
      case atStart => exact ⟨0, Nat.zero_le _, rfl, HX.out.1, HX.out.2.2⟩
      case round =>
        obtain ⟨k9, hk9, rfl, hB, hT2⟩ := hrel
        by_cases hlt9 : k9 < ou.length + 2
        · obtain ⟨hv1, hv2⟩ := hT2 k9 hlt9
          rw [Nat.zero_add] at hv1 hv2
          obtain ⟨v, hv⟩ := Option.isSome_iff_exists.1 hv1
          have hlt9' : (k9 : Int) < (ou.length : Int) + 2 := by omega
          have hk0 : (0 : Int) ≤ (k9 : Int) := by omega
          have HX2 := hide (And.intro hB hT2)
          clear hB hT2 hv1
          go_wp2
          go_roundw
          case rel => exact ⟨k9 + 1, by omega, by go_num, HX2.out.1.setCell hzz2 _, there_set HX2.out.2 _ rfl _⟩
          case measure => simp [intOf]; omega
        · have hlt9' : ¬ (k9 : Int) < (ou.length : Int) + 2 := by omega
          have HX2 := hide hB
          clear hB hT2
          go_wp2
          go_ret2
          exact ⟨rfl, HX2.out⟩
end Go.Proofs.YtefjhnhdagolhaaGreat
namespace Go.Proofs.YtefjhnhdagolhaaGreat
open Go.RowKit
attribute [local go_sem ↓] Go.wp_at_zero Go.wp_at_succ
theorem cfg_ok {kind th cap st co : Int} {nx ou : List Int} (h : cfgErr kind th cap st co nx ou = 0) : (1 ≤ kind ∧ kind ≤ 5 ∧ 1 ≤ th ∧ th ≤ 64 ∧ 0 ≤ cap ∧ cap ≤ 64) ∧ (kind = 5 → tableOk st co nx ou = true) := by
  unfold cfgErr at h
  split at h
  · rename_i hc
    refine ⟨hc, fun h5 => ?_⟩
    rw [if_pos h5] at h
    split at h
    · assumption
    · omega
  · omega
theorem table_len {st co : Int} {nx ou : List Int} (h : tableOk st co nx ou = true) : 0 < nx.length ∧ 0 < ou.length := by
  simp only [tableOk, Bool.and_eq_true, decide_eq_true_eq] at h
  obtain ⟨⟨⟨⟨⟨⟨a, b⟩, c⟩, d⟩, e⟩, f⟩, -⟩ := h
  have : 0 < st * co := Int.mul_pos (by omega) (by omega)
  omega
theorem new_ok (n : Nat) (cap st co : Int) (nx ou : List Int) (vn vo : Value) (w : World) (hn : Sl w vn (ints nx)) (ho : Sl w vo (ints ou)) (kind : Int) (h : cfgErr kind n cap st co nx ou = 0) (n1 : nx.length ≤ 1048576) (n3 : ou.length ≤ 1048576) :
    Calls Tryz.prog 42 #[.agg #[.int .i64 kind, .int .i64 (n : Int), .int .i64 cap, .int .i64 st, .int .i64 co, vn, vo]] w fun e w' => ∃ b, e = .returned (.tuple #[.pointer (some ⟨b, 0, none⟩), .int .i64 0]) ∧ Made w kind n cap st co nx ou b w' := by
  obtain ⟨hc, h5⟩ := cfg_ok h
  by_cases e5 : kind = 5
  · subst e5
    exact (new_five n cap st co nx ou vn vo w hn ho (by omega) (by omega) (by omega) (by omega) (h5 rfl) n1 (table_len (h5 rfl)).1 n3 (table_len (h5 rfl)).2).mono fun e w' ⟨b, he, hb⟩ => ⟨b, he, hb.made⟩
  · have e4 : kind = 1 ∨ kind = 2 ∨ kind = 3 ∨ kind = 4 := by omega
    rcases e4 with rfl | rfl | rfl | rfl
    · exact (new_one n cap st co nx ou vn vo w hn ho (by omega) (by omega) (by omega) (by omega)).mono fun e w' ⟨b, he, hb⟩ => ⟨b, he, .inl ⟨rfl, hb⟩⟩
    · exact (new_two n cap st co nx ou vn vo w hn ho (by omega) (by omega) (by omega) (by omega)).mono fun e w' ⟨b, he, hb⟩ => ⟨b, he, .inr (.inl ⟨rfl, hb⟩)⟩
    · exact (new_three n cap st co nx ou vn vo w hn ho (by omega) (by omega) (by omega) (by omega)).mono fun e w' ⟨b, he, hb⟩ => ⟨b, he, .inr (.inr (.inl ⟨rfl, hb⟩))⟩
    · exact (new_four n cap st co nx ou vn vo w hn ho (by omega) (by omega) (by omega) (by omega)).mono fun e w' ⟨b, he, hb⟩ => ⟨b, he, .inr (.inr (.inr (.inl ⟨rfl, hb⟩)))⟩
theorem refNew_ok (n : Nat) (cap st co : Int) (nx ou : List Int) (vn vo : Value) (w : World) (hn : Sl w vn (ints nx)) (ho : Sl w vo (ints ou)) (kind : Int) (h : cfgErr kind n cap st co nx ou = 0) (n1 : nx.length ≤ 1048576) (n3 : ou.length ≤ 1048576) :
    Calls Tryz.prog 41 #[.agg #[.int .i64 kind, .int .i64 (n : Int), .int .i64 cap, .int .i64 st, .int .i64 co, vn, vo]] w fun e w' => ∃ b, e = .returned (.tuple #[.pointer (some ⟨b, 0, none⟩), .int .i64 0]) ∧ RefMade w kind n cap st co nx ou vn vo b w' := by
  obtain ⟨hc, h5⟩ := cfg_ok h
  by_cases e5 : kind = 5
  · subst e5
    exact refNew_table cap st co nx ou vn vo w hn ho n (h5 rfl) n1 n3 (by omega) (by omega) (by omega) (by omega)
  · exact refNew_plain cap st co nx ou vn vo w kind n (by omega) (by omega) (by omega) (by omega) (by omega) (by omega)
theorem RefMade.reads2 {w0 : World} {kind : Int} {n : Nat} {cap st co : Int} {nx ou : List Int} {p1 p2 : Option Addr} {m1 k1 m2 k2 : Nat} {b : Nat} {w : World} (h : RefMade w0 kind n cap st co nx ou (.slice p1 m1 k1) (.slice p2 m2 k2) b w) (hn : 1 ≤ n) :
    ∃ g gc bT a1 l1 c1 a2 l2 c2, RefRd b n g gc bT kind cap st co (.slice a1 l1 c1) (.slice a2 l2 c2) w ∧ Below w0.heap.size w0 w := by
  obtain ⟨W1, vn', vo', v, bT, bF, rfl, hb, hI, hv⟩ := h
  have hs : ∃ a1 l1 c1 a2 l2 c2, vn' = .slice a1 l1 c1 ∧ vo' = .slice a2 l2 c2 := by
    rcases hv with ⟨-, rfl, rfl⟩ | ⟨-, g1, g2, rfl, rfl, -⟩
    · exact ⟨_, _, _, _, _, _, rfl, rfl⟩
    · exact ⟨_, _, _, _, _, _, rfl, rfl⟩
  obtain ⟨a1, l1, c1, a2, l2, c2, rfl, rfl⟩ := hs
  obtain ⟨hE, hO, hT, -, hB⟩ := hI
  obtain ⟨hl, ⟨rfl, hn0⟩ | ⟨g, gc, cur, rfl, -, hg, hnc, hcm, hcs, htk⟩⟩ := hO
  · omega
  · refine ⟨g, gc, bT, a1, l1, c1, a2, l2, c2, ⟨hE, fun t ht => ?_, fun t ht => (hT t ht).1.cell_of rfl, fun t ht => (hT t ht).1.cell_of rfl⟩, Below.next hb hB hb.size⟩
    rw [cell_of_row w g _ cur _ _ hg]
    have : (ptrs bT n)[t]? = some (.pointer (some ⟨bT t, 0, none⟩)) := by simp [ptrs, List.getElem?_range ht]
    rw [← htk, List.getElem?_take] at this
    split at this
    · simpa using this
    · cases this
theorem Row.apart {w : World} {g g' : Nat} {t t' : TypeId} {xs xs' : List Value} (h : Row w g t xs) (h' : Row w g' t' xs') (ne : t ≠ t') : g ≠ g' := by
  rintro rfl
  have e := (show w.heap[g]? = _ from h).symm.trans (show w.heap[g]? = _ from h')
  simp at e
  exact ne e.2
structure MadeInv (w w1 w4 : World) (base bX : Nat) (v : Value) (w' : World) : Prop where
  b0 : Below w.heap.size w w'
  b1 : Below w1.heap.size w1 w'
  k4 : Keeps base w4 w'
  sz : w4.heap.size ≤ w'.heap.size
  rX : Row w' bX 74 [v]
theorem MadeInv.set {w w1 w4 : World} {base bX : Nat} {v : Value} {w' : World} (h : MadeInv w w1 w4 base bX v w') {a : Addr} (h0 : w.heap.size ≤ a.block) (h1 : w1.heap.size ≤ a.block) (h4 : a.block < base) (hX : bX ≠ a.block) (u : Value) : MadeInv w w1 w4 base bX v (w'.setCell a u) :=
  ⟨h.b0.setCell h0 u, h.b1.setCell h1 u, h.k4.set h4 u, by simpa [World.setCell] using h.sz, h.rX.setOther hX u⟩
structure Sides (base bX bY n g gc : Nat) (bT : Nat → Nat) (kind cap st co : Int) (vn vo : Value) (tE : TypeId) (bN fA fO fS fB : Nat) (w0 wr : World) : Prop where
  obj : Row wr bX 74 [.iface tE (.pointer (some ⟨bN, 0, none⟩))]
  eng : Eng base tE bN fA fO fS fB n cap (holdsNew kind) w0
  old : Keeps base w0 wr
  sz : w0.heap.size ≤ wr.heap.size
  ref : RefRd bY n g gc bT kind cap st co vn vo wr
theorem Sides.both {base bX bY n g gc : Nat} {bT : Nat → Nat} {kind cap st co : Int} {vn vo : Value} {tE : TypeId} {bN fA fO fS fB : Nat} {w0 wr : World} (h : Sides base bX bY n g gc bT kind cap st co vn vo tE bN fA fO fS fB w0 wr) {bL : Nat} {ms is : Value} {w : World} (hb : Below wr.heap.size wr w)
    (hl : Row w bL 90 [.pointer (some ⟨bX, 0, none⟩), .pointer (some ⟨bY, 0, none⟩), ms, is]) : Both base bL bX bY n g gc bT kind cap st co vn vo tE bN fA fO fS fB ms is w0 w :=
  ⟨hl, h.obj.old hb, h.eng, h.old.next h.sz hb, h.ref.later hb⟩
def MadeOk (n : Nat) (kind cap st co : Int) (w : World) (e : Ending) (w' : World) : Prop :=
  ∃ base bX bY g gc bT a1 l1 c1 a2 l2 c2 tE bN fA fO fS fB w0 wr, e = .returned (.tuple #[.pointer (some ⟨wr.heap.size, 0, none⟩), .bool true]) ∧
    Sides base bX bY n g gc bT kind cap st co (.slice a1 l1 c1) (.slice a2 l2 c2) tE bN fA fO fS fB w0 wr ∧
    Row w' wr.heap.size 90 [.pointer (some ⟨bX, 0, none⟩), .pointer (some ⟨bY, 0, none⟩), .slice none 0 0, .slice none 0 0] ∧ Below wr.heap.size wr w' ∧ Below w.heap.size w wr
set_option maxRecDepth 20000 in
set_option maxHeartbeats 2000000 in
theorem made_ok (kind : Int) (n : Nat) (cap st co : Int) (nx ou : List Int) (vn vo : Value) (w : World) (hn : Sl w vn (ints nx)) (ho : Sl w vo (ints ou)) (n1 : nx.length ≤ 1048576) (n2 : ou.length ≤ 1048576) (h : cfgErr kind n cap st co nx ou = 0) :
    Calls Tryz.prog 17 #[.agg #[.int .i64 kind, .int .i64 (n : Int), .int .i64 cap, .int .i64 st, .int .i64 co, vn, vo]] w (MadeOk n kind cap st co w) := by
  have hcf := (cfg_ok h).1
  have HREF := hide (fun W hW => refNew_ok n cap st co nx ou vn vo W (hn.below hW) (ho.below hW) kind h n1 n2)
  have HNEW := hide (fun (W : World) (u1 u2 : Value) (s1 : Sl W u1 (ints nx)) (s2 : Sl W u2 (ints ou)) => new_ok n cap st co nx ou u1 u2 W s1 s2 kind h n1 n2)
  obtain ⟨a1, k1, e1, -⟩ := hn.open_ints
  obtain ⟨a2, k2, e2, -⟩ := ho.open_ints
  have HN := hide hn
  have HO := hide ho
  clear hn ho
  subst e1
  subst e2
  clear h
  go_enter Tryz.func17, Tryz.ntmps17
  go_wp2_with fail
  refine (HREF.out _ (below_alloc _ _)).mono ?_
  rintro e w1 ⟨bY, rfl, hRef⟩
  obtain ⟨rg, rgc, bT, ra1, rl1, rc1, ra2, rl2, rc2, hRd, hb1⟩ := hRef.reads2 (by omega)
  have HRD := hide hRd
  clear hRef hRd
  have hR1 : Row w1 w.heap.size 26 [.int .i64 kind, .int .i64 (n : Int), .int .i64 cap, .int .i64 st, .int .i64 co, .slice a1 nx.length k1, .slice a2 ou.length k2] := (Row.new' rfl).old hb1
  have q5 : w1.cell? ⟨w.heap.size, 5, none⟩ = some (.slice a1 nx.length k1) := hR1.cell_of rfl
  have HB1 := hide (Below.next (below_alloc w _) hb1 (by simp))
  have HR1 := hide hR1
  clear hb1 hR1
  go_wp2_with fail
  refine (handed_any nx _ _ (HN.out.below HB1.out) n1).mono ?_
  rintro e w2 ⟨g1, rfl, hg1, hr1, hb2⟩
  have q6 : w2.cell? ⟨w.heap.size, 6, none⟩ = some (.slice a2 ou.length k2) := cell_later hb2 (HR1.out.cell_of rfl)
  have HB2 := hide hb2
  have HG1 := hide (show Row w2 g1 3 (ints (nx ++ [-77, -77])) from hr1)
  have HBw2 := hide (Below.next HB1.out hb2 HB1.out.size)
  clear q5 hb2 hr1
  go_wp2_with fail
  refine (handed_any ou _ _ (HO.out.below HBw2.out) n2).mono ?_
  rintro e w3 ⟨g2, rfl, hg2, hr2, hb3⟩
  have HB3 := hide hb3
  have HG2 := hide (show Row w3 g2 3 (ints (ou ++ [-77, -77])) from hr2)
  have HG1' := hide (HG1.out.old hb3)
  have HBw3 := hide (Below.next HBw2.out hb3 HBw2.out.size)
  have HR3 := hide ((HR1.out.old HB2.out).old hb3)
  obtain ⟨-, q0, q1, q2, q3, q4, q5, q6'⟩ := cells7 HR3.out
  have q5' := fun ob => cell_new q5 ob
  have q6'' := fun ob => cell_new q6' ob
  have hne : ¬ w.heap.size = w3.heap.size := by have := HR3.out.lt; omega
  clear hb3 hr2 q6
  go_wp2_with fail
  refine (HNEW.out _ _ _ (beyond_sl (HG1'.out.alloc _) n1) (beyond_sl (HG2.out.alloc _) n2)).mono ?_
  rintro e w4 ⟨bX, rfl, hMade⟩
  obtain ⟨tE, bN, fA, fO, fS, fB, hrX, hEng, hb4⟩ := hMade.eng (by omega) (by omega) (by omega) (by omega)
  have HRX := hide hrX
  have HENG := hide hEng
  clear hMade hrX hEng
  have HB4 := hide (Below.next (below_alloc w3 _) hb4 (by simp))
  have HBw4 := hide (Below.next HBw3.out HB4.out HBw3.out.size)
  have r5 : w4.cell? ⟨w.heap.size, 5, none⟩ = some (.slice a1 nx.length k1) := cell_later HB4.out q5
  have HG14 := hide (HG1'.out.old HB4.out)
  have HG24 := hide (HG2.out.old HB4.out)
  have HR4 := hide (HR3.out.old HB4.out)
  clear hb4 q0 q1 q2 q3 q4 q5 q6' q5' q6''
  go_wp2_with fail
  refine (handed_any nx _ _ (HN.out.below HBw4.out) n1).mono ?_
  rintro e w5 ⟨g3, rfl, hg3, hr3, hb5⟩
  have HB5 := hide hb5
  have HG3 := hide (show Row w5 g3 3 (ints (nx ++ [-77, -77])) from hr3)
  clear hb5 hr3 r5
  go_wp2_with fail
  refine (sameInts_any (nx ++ [-77, -77]) (nx ++ [-77, -77]) _ _ _ (beyond_all (HG14.out.old HB5.out) n1) (beyond_all HG3.out n1)).mono ?_
  rintro e w6 ⟨rfl, k6, rfl⟩
  rw [decide_eq_true (rfl : nx ++ [-77, -77] = nx ++ [-77, -77])]
  have HBw6 := hide (Below.drewN (Below.next HBw4.out HB5.out HBw4.out.size) k6)
  have r6 : (w5.drewN k6).cell? ⟨w.heap.size, 6, none⟩ = some (.slice a2 ou.length k2) := (HR4.out.old HB5.out).cell_of rfl
  have HK6 := hide (show Below w4.heap.size w4 (w5.drewN k6) from Below.drewN HB5.out _)
  generalize hW6 : World.drewN w5 k6 = w6 at r6 HBw6 HK6 ⊢
  have HG26 := hide (show Row w6 g2 3 (ints (ou ++ [-77, -77])) by rw [← hW6]; exact HG24.out.old (Below.drewN HB5.out _))
  have HG16 := hide (show Row w6 g1 3 (ints (nx ++ [-77, -77])) by rw [← hW6]; exact HG14.out.old (Below.drewN HB5.out _))
  clear hW6
  go_wp2_with fail
  refine (handed_any ou _ _ (HO.out.below HBw6.out) n2).mono ?_
  rintro e w7 ⟨g4, rfl, hg4, hr4, hb7⟩
  have HB7 := hide hb7
  have HG4 := hide (show Row w7 g4 3 (ints (ou ++ [-77, -77])) from hr4)
  clear hb7 hr4 r6
  go_wp2_with fail
  refine (sameInts_any (ou ++ [-77, -77]) (ou ++ [-77, -77]) _ _ _ (beyond_all (HG26.out.old HB7.out) n2) (beyond_all HG4.out n2)).mono ?_
  rintro e w8 ⟨rfl, k8, rfl⟩
  rw [decide_eq_true (rfl : ou ++ [-77, -77] = ou ++ [-77, -77])]
  generalize hW8 : World.drewN w7 k8 = w8
  have HK8 := hide (show Below w4.heap.size w4 w8 by rw [← hW8]; exact Below.drewN (Below.next HK6.out HB7.out HK6.out.size) _)
  have HBw8 := hide (show Below w.heap.size w w8 by rw [← hW8]; exact Below.drewN (Below.next HBw6.out HB7.out HBw6.out.size) _)
  have HG28 := hide (show Row w8 g2 3 (ints (ou ++ [-77, -77])) by rw [← hW8]; exact HG26.out.old (Below.drewN HB7.out _))
  have HG18 := hide (show Row w8 g1 3 (ints (nx ++ [-77, -77])) by rw [← hW8]; exact HG16.out.old (Below.drewN HB7.out _))
  clear hW8
  have hzz : w.heap.size ≤ g1 := by have := HB1.out.size; omega
  have hzz2 : w.heap.size ≤ g2 := by have := HBw2.out.size; omega
  have hz2 : w1.heap.size ≤ g2 := by have := HB2.out.size; omega
  have hs1 := HG1'.out.lt
  have hs2 := HG2.out.lt
  have hx1 : bX ≠ g1 := Row.apart HRX.out HG14.out (by decide)
  have hx2 : bX ≠ g2 := Row.apart HRX.out HG24.out (by decide)
  have ht1 : w8.there g1 0 (nx.length + 2) := HG18.out.there (by simp [ints])
  have ht2 : w8.there g2 0 (ou.length + 2) := HG28.out.there (by simp [ints])
  have hb13 := Below.next HB2.out HB3.out HB2.out.size
  have hb14 := Below.next hb13 HB4.out hb13.size
  have HI := hide (show MadeInv w w1 w4 (w3.heap.size + 1) bX _ w8 from ⟨HBw8.out, Below.next hb14 HK8.out hb14.size, Keeps.of_below HK8.out, HK8.out.size, HRX.out.old HK8.out⟩)
  have HS := hide (show MadeInv w w1 w4 (w3.heap.size + 1) bX _ w8 ∧ w8.there g1 0 (nx.length + 2) ∧ w8.there g2 0 (ou.length + 2) from ⟨HI.out, ht1, ht2⟩)
  clear ht1 ht2 hb13 hb14
  go_wp2
  go_loopw [13] (fun i w' => ∃ k : Nat, k ≤ nx.length + 2 ∧ i = .int .i64 (k : Int) ∧ MadeInv w w1 w4 (w3.heap.size + 1) bX (.iface tE (.pointer (some ⟨bN, 0, none⟩))) w' ∧ w'.there g1 0 (nx.length + 2) ∧ w'.there g2 0 (ou.length + 2)) (fun i _ => nx.length + 2 - (intOf i).toNat)
  case atStart => exact ⟨0, Nat.zero_le _, rfl, HS.out⟩
  case round =>
    obtain ⟨k, hk, rfl, hB, hT1, hT2⟩ := hrel
    by_cases hlt : k < nx.length + 2
    · obtain ⟨hv1, hv2⟩ := hT1 k hlt
      rw [Nat.zero_add] at hv1 hv2
      obtain ⟨v, hv⟩ := Option.isSome_iff_exists.1 hv1
      have hlt' : (k : Int) < (nx.length : Int) + 2 := by omega
      have hk0 : (0 : Int) ≤ (k : Int) := by omega
      have HX := hide (And.intro hB (And.intro hT1 hT2))
      clear hB hT1 hT2 hv1
      go_wp2
      go_roundw
      case rel => exact ⟨k + 1, by omega, by go_num, HX.out.1.set hzz (by show _ ≤ g1; omega) (by show g1 < _; omega) hx1 _, there_set HX.out.2.1 _ rfl _, there_set HX.out.2.2 _ rfl _⟩
      case measure => simp [intOf]; omega
    · have hlt' : ¬ (k : Int) < (nx.length : Int) + 2 := by omega
      have HX := hide (And.intro hB (And.intro hT1 hT2))
      clear hB hT1 hT2
      go_wp2
      go_loopw [14] (fun i w' => ∃ k : Nat, k ≤ ou.length + 2 ∧ i = .int .i64 (k : Int) ∧ MadeInv w w1 w4 (w3.heap.size + 1) bX (.iface tE (.pointer (some ⟨bN, 0, none⟩))) w' ∧ w'.there g2 0 (ou.length + 2)) (fun i _ => ou.length + 2 - (intOf i).toNat)
      case atStart => exact ⟨0, Nat.zero_le _, rfl, HX.out.1, HX.out.2.2⟩
      case round =>
        obtain ⟨k9, hk9, rfl, hB, hT2⟩ := hrel
        by_cases hlt9 : k9 < ou.length + 2
        · obtain ⟨hv1, hv2⟩ := hT2 k9 hlt9
          rw [Nat.zero_add] at hv1 hv2
          obtain ⟨v, hv⟩ := Option.isSome_iff_exists.1 hv1
          have hlt9' : (k9 : Int) < (ou.length : Int) + 2 := by omega
          have hk0 : (0 : Int) ≤ (k9 : Int) := by omega
          have HX2 := hide (And.intro hB hT2)
          clear hB hT2 hv1
          go_wp2
          go_roundw
          case rel => exact ⟨k9 + 1, by omega, by go_num, HX2.out.1.set hzz2 hz2 (by show g2 < _; omega) hx2 _, there_set HX2.out.2 _ rfl _⟩
          case measure => simp [intOf]; omega
        · have hlt9' : ¬ (k9 : Int) < (ou.length : Int) + 2 := by omega
          have HX2 := hide hB
          clear hB hT2
          go_wp2
          go_ret2
          unfold MadeOk
          exact ⟨_, bX, bY, rg, rgc, bT, ra1, rl1, rc1, ra2, rl2, rc2, tE, bN, fA, fO, fS, fB, w4, _, rfl, ⟨HX2.out.rX, by simpa using HENG.out, HX2.out.k4, HX2.out.sz, HRD.out.later HX2.out.b1⟩, Row.new' rfl, below_alloc _ _, HX2.out.b0⟩
end Go.Proofs.YtefjhnhdagolhaaGreat
namespace Go.Proofs.YtefjhnhdagolhaaGreat
open Go.RowKit
attribute [local go_sem ↓] Go.wp_at_zero Go.wp_at_succ
set_option maxHeartbeats 1000000 in
theorem plays_err (s : Value) (kind th cap st co : Int) (nx ou : List Int) (vn vo : Value) (w : World) (hn : Sl w vn (ints nx)) (ho : Sl w vo (ints ou)) (n1 : nx.length ≤ 1048576) (n2 : ou.length ≤ 1048576) (h : cfgErr kind th cap st co nx ou ≠ 0) :
    Calls Tryz.prog 15 #[.agg #[.int .i64 kind, .int .i64 th, .int .i64 cap, .int .i64 st, .int .i64 co, vn, vo], s] w fun e w' => e = .returned (.bool true) ∧ Below w.heap.size w w' := by
  have HM := hide (fun W (hW : Below w.heap.size w W) => made_err kind th cap st co nx ou vn vo W (hn.below hW) (ho.below hW) n1 n2 h)
  clear hn ho n1 n2 h
  go_enter Tryz.func15, Tryz.ntmps15
  go_wp2_with fail
  refine (HM.out _ (below_alloc _ _)).mono ?_
  rintro e w1 ⟨rfl, hb1⟩
  have HB1 := hide (Below.next (below_alloc w _) hb1 (by simp))
  clear hb1
  go_wp2_with fail
  go_ret
  exact ⟨rfl, HB1.out⟩
set_option maxHeartbeats 1000000 in
theorem news_err (kind th cap st co : Int) (nx ou : List Int) (vn vo : Value) (w : World) (hn : Sl w vn (ints nx)) (ho : Sl w vo (ints ou)) (n1 : nx.length ≤ 1048576) (n2 : ou.length ≤ 1048576) (h : cfgErr kind th cap st co nx ou ≠ 0) :
    Calls Tryz.prog 3 #[.agg #[.int .i64 kind, .int .i64 th, .int .i64 cap, .int .i64 st, .int .i64 co, vn, vo]] w fun e w' => e = .returned (.bool true) ∧ Below w.heap.size w w' := by
  have HM := hide (fun W (hW : Below w.heap.size w W) => plays_err (.slice none 0 0) kind th cap st co nx ou vn vo W (hn.below hW) (ho.below hW) n1 n2 h)
  clear hn ho n1 n2 h
  go_enter Tryz.func3, Tryz.ntmps3
  go_wp2_with fail
  refine (HM.out _ (below_alloc _ _)).mono ?_
  rintro e w1 ⟨rfl, hb1⟩
  go_wp2_with fail
  go_ret
  exact ⟨rfl, Below.next (below_alloc w _) hb1 (by simp)⟩
theorem ref_threads {b n g gc : Nat} {bT : Nat → Nat} {kind cap st co : Int} {vn vo : Value} {w : World} (h : RefRd b n g gc bT kind cap st co vn vo w) : w.cell? ⟨b, 7, none⟩ = some (.slice (some ⟨g, 0, none⟩) n gc) := h.row.cell_of rfl
set_option maxRecDepth 20000 in
set_option maxHeartbeats 2000000 in
theorem last_of {base bX bY n g gc : Nat} {bT : Nat → Nat} {kind cap st co : Int} {vn vo : Value} {tE : TypeId} {bN fA fO fS fB : Nat} {w0 wz : World} (h : Sides base bX bY n g gc bT kind cap st co vn vo tE bN fA fO fS fB w0 wz) (h2 : n ≤ 64) {bL : Nat} (w : World) (hb : Below wz.heap.size wz w)
    (hl : Row w bL 90 [.pointer (some ⟨bX, 0, none⟩), .pointer (some ⟨bY, 0, none⟩), .slice none 0 0, .slice none 0 0]) (P1 P2 : World → Prop)
    (hord : ∀ W, Below wz.heap.size wz W → Row W bL 90 [.pointer (some ⟨bX, 0, none⟩), .pointer (some ⟨bY, 0, none⟩), .slice none 0 0, .slice none 0 0] → Calls Tryz.prog 49 #[.pointer (some ⟨bL, 0, none⟩)] W fun e w' => e = .returned (.bool true) ∧ P1 w')
    (hsta : ∀ W, P1 W → Calls Tryz.prog 50 #[.pointer (some ⟨bL, 0, none⟩)] W fun e w' => e = .returned (.bool true) ∧ P2 w')
    (hbnd : ∀ W, P2 W → Calls Tryz.prog 51 #[.pointer (some ⟨bL, 0, none⟩)] W fun e w' => e = .returned (.bool true) ∧ P2 w')
    (hloo : ∀ W, P2 W → Calls Tryz.prog 19 #[.pointer (some ⟨bL, 0, none⟩)] W fun e w' => e = .returned (.bool true) ∧ Below wz.heap.size wz w') :
    Calls Tryz.prog 20 #[.pointer (some ⟨bL, 0, none⟩)] w fun e w' => e = .returned (.bool true) ∧ Below wz.heap.size wz w' := by
  have HH := hide h
  have HS := hide (And.intro hb hl)
  have HO := hide hord
  have HT := hide hsta
  have HN := hide hbnd
  have HL := hide hloo
  clear h hb hl hord hsta hbnd hloo
  go_enter Tryz.func20, Tryz.ntmps20
  go_wp2
  go_loopw [3] (fun i w' => ∃ k : Nat, k ≤ n + 2 ∧ i = .int .i64 ((k : Int) - 1) ∧ Below wz.heap.size wz w' ∧ Row w' bL 90 [.pointer (some ⟨bX, 0, none⟩), .pointer (some ⟨bY, 0, none⟩), .slice none 0 0, .slice none 0 0]) (fun i _ => n + 2 - (intOf i + 1).toNat)
  case atStart => exact ⟨0, Nat.zero_le _, rfl, HS.out⟩
  case round =>
    obtain ⟨k, hk, rfl, hB, hR⟩ := hrel
    have c1 : wr.cell? ⟨bL, 1, none⟩ = some (.pointer (some ⟨bY, 0, none⟩)) := hR.cell_of rfl
    have c7 : wr.cell? ⟨bY, 7, none⟩ = some (.slice (some ⟨g, 0, none⟩) n gc) := ref_threads (HH.out.ref.later hB)
    by_cases hlt : k < n + 2
    · have hlt' : (k : Int) - 1 ≤ (n : Int) := by omega
      have HX := hide (And.intro hB hR)
      have HA : Calls Tryz.prog 48 #[.pointer (some ⟨bL, 0, none⟩), .int .i64 ((k : Int) - 1)] wr fun e w' => e = .returned (.bool true) ∧ Below wr.heap.size wr w' := by
        by_cases ht : 1 ≤ k ∧ k ≤ n
        · have := lawAnswer_new wr (k - 1) (HH.out.both hB hR) h2 (by omega)
          rwa [show ((k - 1 : Nat) : Int) = (k : Int) - 1 by omega] at this
        · exact lawAnswer_out wr _ (HH.out.both hB hR) h2 (by omega)
      have HA' := hide HA
      clear hB hR HA
      go_wp2_with fail
      refine HA'.out.mono ?_
      rintro e w1 ⟨rfl, hb1⟩
      have HX1 := hide (And.intro (Below.next HX.out.1 hb1 HX.out.1.size) (HX.out.2.old hb1))
      clear hb1 c1 c7
      go_wp2
      go_roundw
      case rel => exact ⟨k + 1, by omega, by go_num, HX1.out⟩
      case measure => simp [intOf]; omega
    · have hlt' : ¬ (k : Int) - 1 ≤ (n : Int) := by omega
      have HX := hide (And.intro hB hR)
      clear hB hR
      go_wp2_with fail
      refine (HO.out _ HX.out.1 HX.out.2).mono ?_
      rintro e w1 ⟨rfl, p1⟩
      go_wp2_with fail
      refine (HT.out _ p1).mono ?_
      rintro e w2 ⟨rfl, p2⟩
      go_wp2_with fail
      refine (HN.out _ p2).mono ?_
      rintro e w3 ⟨rfl, p3⟩
      go_wp2_with fail
      refine (HL.out _ p3).mono ?_
      rintro e w4 ⟨rfl, hb4⟩
      go_wp2_with fail
      go_ret
      exact ⟨rfl, hb4⟩
def LastOk (n : Nat) (kind cap st co : Int) : Prop :=
  ∀ (base bX bY g gc : Nat) (bT : Nat → Nat) (a1 : Option Addr) (l1 c1 : Nat) (a2 : Option Addr) (l2 c2 : Nat) (tE : TypeId) (bN fA fO fS fB : Nat) (w0 wz w : World), Sides base bX bY n g gc bT kind cap st co (.slice a1 l1 c1) (.slice a2 l2 c2) tE bN fA fO fS fB w0 wz →
    Row w wz.heap.size 90 [.pointer (some ⟨bX, 0, none⟩), .pointer (some ⟨bY, 0, none⟩), .slice none 0 0, .slice none 0 0] → Below wz.heap.size wz w →
    Calls Tryz.prog 20 #[.pointer (some ⟨wz.heap.size, 0, none⟩)] w fun e w' => e = .returned (.bool true) ∧ Below wz.heap.size wz w'
set_option maxRecDepth 20000 in
set_option maxHeartbeats 2000000 in
theorem plays_ok (kind : Int) (n : Nat) (cap st co : Int) (hlast : LastOk n kind cap st co) (nx ou : List Int) (vn vo : Value) (w : World) (hn : Sl w vn (ints nx)) (ho : Sl w vo (ints ou)) (n1 : nx.length ≤ 1048576) (n2 : ou.length ≤ 1048576) (h : cfgErr kind n cap st co nx ou = 0) :
    Calls Tryz.prog 15 #[.agg #[.int .i64 kind, .int .i64 (n : Int), .int .i64 cap, .int .i64 st, .int .i64 co, vn, vo], .slice none 0 0] w fun e w' => e = .returned (.bool true) ∧ Below w.heap.size w w' := by
  have HM := hide (fun W (hW : Below w.heap.size w W) => made_ok kind n cap st co nx ou vn vo W (hn.below hW) (ho.below hW) n1 n2 h)
  have HL := hide hlast
  clear hn ho n1 n2 h hlast
  go_enter Tryz.func15, Tryz.ntmps15
  go_wp2_with fail
  refine (HM.out _ (below_alloc _ _)).mono ?_
  rintro e w1 ⟨base, bX, bY, g, gc, bT, a1, l1, c1, a2, l2, c2, tE, bN, fA, fO, fS, fB, w0, wz, rfl, hS, hR, hb, hz⟩
  have HLL := hide (HL.out _ _ _ _ _ _ _ _ _ _ _ _ _ _ _ _ _ _ _ _ _ hS hR hb)
  have HZ := hide (Below.next (below_alloc w _) hz (by simp))
  clear hS hR hb hz
  go_wp2
  go_loopw [7] (fun i w' => i = .int .i64 0 ∧ w' = w1) (fun _ _ => 0)
  case atStart => exact ⟨rfl, rfl⟩
  case round =>
    obtain ⟨rfl, rfl⟩ := hrel
    go_wp2_with fail
    refine HLL.out.mono ?_
    rintro e w2 ⟨rfl, hb2⟩
    go_wp2_with fail
    go_ret
    exact ⟨rfl, Below.next HZ.out hb2 HZ.out.size⟩
set_option maxHeartbeats 1000000 in
theorem news_ok (kind : Int) (n : Nat) (cap st co : Int) (hlast : LastOk n kind cap st co) (nx ou : List Int) (vn vo : Value) (w : World) (hn : Sl w vn (ints nx)) (ho : Sl w vo (ints ou)) (n1 : nx.length ≤ 1048576) (n2 : ou.length ≤ 1048576) (h : cfgErr kind n cap st co nx ou = 0) :
    Calls Tryz.prog 3 #[.agg #[.int .i64 kind, .int .i64 (n : Int), .int .i64 cap, .int .i64 st, .int .i64 co, vn, vo]] w fun e w' => e = .returned (.bool true) ∧ Below w.heap.size w w' := by
  have HM := hide (fun W (hW : Below w.heap.size w W) => plays_ok kind n cap st co hlast nx ou vn vo W (hn.below hW) (ho.below hW) n1 n2 h)
  clear hn ho n1 n2 h hlast
  go_enter Tryz.func3, Tryz.ntmps3
  go_wp2_with fail
  refine (HM.out _ (below_alloc _ _)).mono ?_
  rintro e w1 ⟨rfl, hb1⟩
  go_wp2_with fail
  go_ret
  exact ⟨rfl, Below.next (below_alloc w _) hb1 (by simp)⟩
end Go.Proofs.YtefjhnhdagolhaaGreat
