import Derived.Test.YtefjhnhdagolhaaGreatQ10
import Derived.Test.YtefjhnhdagolhaaGreatQ05
import Derived.Test.YtefjhnhdagolhaaGreatQ06
import Derived.Test.YtefjhnhdagolhaaGreatProg
import Derived.Test.YtefjhnhdagolhaaGreatQ11
import Derived.Test.YtefjhnhdagolhaaGreatQ12
namespace Go.Proofs.YtefjhnhdagolhaaGreat
open Go.RowKit
attribute [local go_sem ↓] Go.wp_at_zero Go.wp_at_succ
theorem refNew_err (cap st co : Int) (nx ou : List Int) (vn vo : Value) (w : World) (hn : Sl w vn (ints nx)) (ho : Sl w vo (ints ou)) (kind th : Int) (h : cfgErr kind th cap st co nx ou ≠ 0) :
    Calls Tryz.prog 41 #[.agg #[.int .i64 kind, .int .i64 th, .int .i64 cap, .int .i64 st, .int .i64 co, vn, vo]] w fun e w' => e = .returned (.tuple #[.pointer none, .int .i64 (cfgErr kind th cap st co nx ou)]) ∧ Below w.heap.size w w' := by
  by_cases hc : 1 ≤ kind ∧ kind ≤ 5 ∧ 1 ≤ th ∧ th ≤ 64 ∧ 0 ≤ cap ∧ cap ≤ 64
  · have h5 : kind = 5 ∧ tableOk st co nx ou = false := by
      unfold cfgErr at h
      rw [if_pos hc] at h
      by_cases hk : kind = 5
      · rw [if_pos hk] at h
        refine ⟨hk, ?_⟩
        cases ht : tableOk st co nx ou
        · rfl
        · rw [ht] at h; simp at h
      · rw [if_neg hk] at h; exact absurd rfl h
    obtain ⟨rfl, ht⟩ := h5
    rw [cfgErr_two hc rfl ht]
    exact refNew_two cap st co nx ou vn vo w hn ho th ⟨hc.2.2.1, hc.2.2.2.1, hc.2.2.2.2.1, hc.2.2.2.2.2⟩ ht
  · exact refNew_one cap st co nx ou vn vo w kind th hc
theorem beyond_sl {w : World} {g : Nat} {xs : List Int} (h : Row w g 3 (ints (xs ++ [-77, -77]))) (hl : xs.length ≤ 1048576) : Sl w (.slice (some ⟨g, 0, none⟩) xs.length (xs.length + 2)) (ints xs) :=
  h.sl (by simp [ints]) (by simp [ints]) (by omega) (by unfold maxLen; omega)
theorem beyond_all {w : World} {g : Nat} {xs : List Int} (h : Row w g 3 (ints (xs ++ [-77, -77]))) (hl : xs.length ≤ 1048576) : Sl w (.slice (some ⟨g, 0, none⟩) (xs.length + 2) (xs.length + 2)) (ints (xs ++ [-77, -77])) :=
  h.sl (by rw [List.take_of_length_le (by simp [ints])]) (by simp [ints]) (by omega) (by unfold maxLen; omega)
set_option maxRecDepth 20000 in
set_option maxHeartbeats 2000000 in
theorem made_err (kind th cap st co : Int) (nx ou : List Int) (vn vo : Value) (w : World) (hn : Sl w vn (ints nx)) (ho : Sl w vo (ints ou)) (n1 : nx.length ≤ 1048576) (n2 : ou.length ≤ 1048576) (h : cfgErr kind th cap st co nx ou ≠ 0) :
    Calls Tryz.prog 17 #[.agg #[.int .i64 kind, .int .i64 th, .int .i64 cap, .int .i64 st, .int .i64 co, vn, vo]] w fun e w' => e = .returned (.tuple #[.pointer none, .bool true]) ∧ Below w.heap.size w w' := by
  have HREF := hide (fun W hW => refNew_err cap st co nx ou vn vo W (hn.below hW) (ho.below hW) kind th h)
  have HNEW := hide (fun (W : World) (u1 u2 : Value) (s1 : Sl W u1 (ints nx)) (s2 : Sl W u2 (ints ou)) => new_err cap st co nx ou u1 u2 W s1 s2 kind th h)
  obtain ⟨a1, k1, e1, -⟩ := hn.open_ints
  obtain ⟨a2, k2, e2, -⟩ := ho.open_ints
  have HN := hide hn
  have HO := hide ho
  clear hn ho
  subst e1
  subst e2
  generalize cfgErr kind th cap st co nx ou = x at *
  clear h
  go_enter Tryz.func17, Tryz.ntmps17
  go_wp2_with fail
  refine (HREF.out _ (below_alloc _ _)).mono ?_
  rintro e w1 ⟨rfl, hb1⟩
  have hR1 : Row w1 w.heap.size 26 [.int .i64 kind, .int .i64 th, .int .i64 cap, .int .i64 st, .int .i64 co, .slice a1 nx.length k1, .slice a2 ou.length k2] := (Row.new' rfl).old hb1
  have q5 : w1.cell? ⟨w.heap.size, 5, none⟩ = some (.slice a1 nx.length k1) := hR1.cell_of rfl
  have HB1 := hide (Below.next (below_alloc w _) hb1 (by simp))
  have HR1 := hide hR1
  clear hb1 hR1
  go_wp2_with fail
  refine (handed_any nx _ _ (HN.out.below HB1.out) n1).mono ?_
  rintro e w2 ⟨g1, rfl, hg1, hr1, hb2⟩
  have q6 : w2.cell? ⟨w.heap.size, 6, none⟩ = some (.slice a2 ou.length k2) := cell_later hb2 (HR1.out.cell_of rfl)
  have HB2 := hide hb2
  have HG1 := hide (show Row w2 g1 3 (ints (nx ++ [-77, -77])) from hr1)
  have HBw2 := hide (Below.next HB1.out hb2 HB1.out.size)
  clear q5 hb2 hr1
  go_wp2_with fail
  refine (handed_any ou _ _ (HO.out.below HBw2.out) n2).mono ?_
  rintro e w3 ⟨g2, rfl, hg2, hr2, hb3⟩
  have HB3 := hide hb3
  have HG2 := hide (show Row w3 g2 3 (ints (ou ++ [-77, -77])) from hr2)
  have HG1' := hide (HG1.out.old hb3)
  have HBw3 := hide (Below.next HBw2.out hb3 HBw2.out.size)
  have HR3 := hide ((HR1.out.old HB2.out).old hb3)
  obtain ⟨-, q0, q1, q2, q3, q4, q5, q6'⟩ := cells7 HR3.out
  have q5' := fun ob => cell_new q5 ob
  have q6'' := fun ob => cell_new q6' ob
  have hne : ¬ w.heap.size = w3.heap.size := by have := HR3.out.lt; omega
  clear hb3 hr2 q6
  go_wp2_with fail
  refine (HNEW.out _ _ _ (beyond_sl (HG1'.out.alloc _) n1) (beyond_sl (HG2.out.alloc _) n2)).mono ?_
  rintro e w4 ⟨rfl, hb4⟩
  have HB4 := hide (Below.next (below_alloc w3 _) hb4 (by simp))
  have HBw4 := hide (Below.next HBw3.out HB4.out HBw3.out.size)
  have r5 : w4.cell? ⟨w.heap.size, 5, none⟩ = some (.slice a1 nx.length k1) := cell_later HB4.out q5
  have HG14 := hide (HG1'.out.old HB4.out)
  have HG24 := hide (HG2.out.old HB4.out)
  have HR4 := hide (HR3.out.old HB4.out)
  clear hb4 q0 q1 q2 q3 q4 q5 q6' q5' q6''
  go_wp2_with fail
  refine (handed_any nx _ _ (HN.out.below HBw4.out) n1).mono ?_
  rintro e w5 ⟨g3, rfl, hg3, hr3, hb5⟩
  have HB5 := hide hb5
  have HG3 := hide (show Row w5 g3 3 (ints (nx ++ [-77, -77])) from hr3)
  clear hb5 hr3 r5
  go_wp2_with fail
  refine (sameInts_any (nx ++ [-77, -77]) (nx ++ [-77, -77]) _ _ _ (beyond_all (HG14.out.old HB5.out) n1) (beyond_all HG3.out n1)).mono ?_
  rintro e w6 ⟨rfl, k6, rfl⟩
  rw [decide_eq_true (rfl : nx ++ [-77, -77] = nx ++ [-77, -77])]
  have HBw6 := hide (Below.drewN (Below.next HBw4.out HB5.out HBw4.out.size) k6)
  have r6 : (w5.drewN k6).cell? ⟨w.heap.size, 6, none⟩ = some (.slice a2 ou.length k2) := (HR4.out.old HB5.out).cell_of rfl
  generalize hW6 : World.drewN w5 k6 = w6 at r6 HBw6 ⊢
  have HG26 := hide (show Row w6 g2 3 (ints (ou ++ [-77, -77])) by rw [← hW6]; exact HG24.out.old (Below.drewN HB5.out _))
  have HG16 := hide (show Row w6 g1 3 (ints (nx ++ [-77, -77])) by rw [← hW6]; exact HG14.out.old (Below.drewN HB5.out _))
  clear hW6
  go_wp2_with fail
  refine (handed_any ou _ _ (HO.out.below HBw6.out) n2).mono ?_
  rintro e w7 ⟨g4, rfl, hg4, hr4, hb7⟩
  have HB7 := hide hb7
  have HG4 := hide (show Row w7 g4 3 (ints (ou ++ [-77, -77])) from hr4)
  clear hb7 hr4 r6
  go_wp2_with fail
  refine (sameInts_any (ou ++ [-77, -77]) (ou ++ [-77, -77]) _ _ _ (beyond_all (HG26.out.old HB7.out) n2) (beyond_all HG4.out n2)).mono ?_
  rintro e w8 ⟨rfl, k8, rfl⟩
  rw [decide_eq_true (rfl : ou ++ [-77, -77] = ou ++ [-77, -77])]
  generalize hW8 : World.drewN w7 k8 = w8
  have HBw8 := hide (show Below w.heap.size w w8 by rw [← hW8]; exact Below.drewN (Below.next HBw6.out HB7.out HBw6.out.size) _)
  have HG28 := hide (show Row w8 g2 3 (ints (ou ++ [-77, -77])) by rw [← hW8]; exact HG26.out.old (Below.drewN HB7.out _))
  have HG18 := hide (show Row w8 g1 3 (ints (nx ++ [-77, -77])) by rw [← hW8]; exact HG16.out.old (Below.drewN HB7.out _))
  clear hW8
  have hzz : w.heap.size ≤ g1 := by have := HB1.out.size; omega
  have hzz2 : w.heap.size ≤ g2 := by have := HBw2.out.size; omega
  have ht1 : w8.there g1 0 (nx.length + 2) := HG18.out.there (by simp [ints])
  have ht2 : w8.there g2 0 (ou.length + 2) := HG28.out.there (by simp [ints])
  have HS := hide (show Below w.heap.size w w8 ∧ w8.there g1 0 (nx.length + 2) ∧ w8.there g2 0 (ou.length + 2) from ⟨HBw8.out, ht1, ht2⟩)
  clear ht1 ht2
  go_wp2
  go_loopw [13] (fun i w' => ∃ k : Nat, k ≤ nx.length + 2 ∧ i = .int .i64 (k : Int) ∧ Below w.heap.size w w' ∧ w'.there g1 0 (nx.length + 2) ∧ w'.there g2 0 (ou.length + 2)) (fun i _ => nx.length + 2 - (intOf i).toNat)
  case atStart => exact ⟨0, Nat.zero_le _, rfl, HS.out⟩
  case round =>
    obtain ⟨k, hk, rfl, hB, hT1, hT2⟩ := hrel
    by_cases hlt : k < nx.length + 2
    · obtain ⟨hv1, hv2⟩ := hT1 k hlt
      rw [Nat.zero_add] at hv1 hv2
      obtain ⟨v, hv⟩ := Option.isSome_iff_exists.1 hv1
      have hlt' : (k : Int) < (nx.length : Int) + 2 := by omega
      have hk0 : (0 : Int) ≤ (k : Int) := by omega
      have HX := hide (And.intro hB (And.intro hT1 hT2))
      clear hB hT1 hT2 hv1
      go_wp2
      go_roundw
      case rel => exact ⟨k + 1, by omega, by go_num, HX.out.1.setCell hzz _, there_set HX.out.2.1 _ rfl _, there_set HX.out.2.2 _ rfl _⟩
      case measure => simp [intOf]; omega
    · have hlt' : ¬ (k : Int) < (nx.length : Int) + 2 := by omega
      have HX := hide (And.intro hB (And.intro hT1 hT2))
      clear hB hT1 hT2
      go_wp2
      go_loopw [14] (fun i w' => ∃ k : Nat, k ≤ ou.length + 2 ∧ i = .int .i64 (k : Int) ∧ Below w.heap.size w w' ∧ w'.there g2 0 (ou.length + 2)) (fun i _ => ou.length + 2 - (intOf i).toNat)
      case atStart => exact ⟨0, Nat.zero_le _, rfl, HX.out.1, HX.out.2.2⟩
      case round =>
        obtain ⟨k9, hk9, rfl, hB, hT2⟩ := hrel
        by_cases hlt9 : k9 < ou.length + 2
        · obtain ⟨hv1, hv2⟩ := hT2 k9 hlt9
          rw [Nat.zero_add] at hv1 hv2
          obtain ⟨v, hv⟩ := Option.isSome_iff_exists.1 hv1
          have hlt9' : (k9 : Int) < (ou.length : Int) + 2 := by omega
          have hk0 : (0 : Int) ≤ (k9 : Int) := by omega
          have HX2 := hide (And.intro hB hT2)
          clear hB hT2 hv1
          go_wp2
          go_roundw
          case rel => exact ⟨k9 + 1, by omega, by go_num, HX2.out.1.setCell hzz2 _, there_set HX2.out.2 _ rfl _⟩
          case measure => simp [intOf]; omega
        · have hlt9' : ¬ (k9 : Int) < (ou.length : Int) + 2 := by omega
          have HX2 := hide hB
          clear hB hT2
          go_wp2
          go_ret2
          exact ⟨rfl, HX2.out⟩
end Go.Proofs.YtefjhnhdagolhaaGreat
namespace Go.Proofs.YtefjhnhdagolhaaGreat
open Go.RowKit
attribute [local go_sem ↓] Go.wp_at_zero Go.wp_at_succ
section
variable {base bL bX bY n g gc : Nat} {bT : Nat → Nat} {kind cap st co : Int} {vn vo : Value} {tE : TypeId} {bN fA fO fS fB : Nat} {ms is : Value} {w0 : World} (w : World)
set_option maxHeartbeats 400000 in
theorem markOf_any (k : Int) (w : World) (h0 : 0 ≤ k) (h1 : k ≤ 9223372036854775807) :
    Calls Tryz.prog 52 #[.int .i64 k] w fun e w' => e = .returned (.agg #[.int .i64 (-1 - k), .int .i64 (-1), .int .i64 (-1)]) ∧ Below w.heap.size w w' := by
  go_enter Tryz.func52, Tryz.ntmps52
  go_wp2
  exact bodyPost_ret (v := .agg #[.int .i64 (-1 - k), .int .i64 (-1), .int .i64 (-1)]) (by simp [results, Tryz.results52, go_sem]) rfl ⟨rfl, (by repeat (first | exact Below.refl _ _ | assumption | refine Below.drewN ?_ _ | refine Below.alloc ?_ (by simp) _))⟩
end
end Go.Proofs.YtefjhnhdagolhaaGreat
namespace Go.Proofs.YtefjhnhdagolhaaGreat
open Go.RowKit
attribute [local go_sem ↓] Go.wp_at_zero Go.wp_at_succ
theorem cfg_ok {kind th cap st co : Int} {nx ou : List Int} (h : cfgErr kind th cap st co nx ou = 0) : (1 ≤ kind ∧ kind ≤ 5 ∧ 1 ≤ th ∧ th ≤ 64 ∧ 0 ≤ cap ∧ cap ≤ 64) ∧ (kind = 5 → tableOk st co nx ou = true) := by
  unfold cfgErr at h
  split at h
  · rename_i hc
    refine ⟨hc, fun h5 => ?_⟩
    rw [if_pos h5] at h
    split at h
    · assumption
    · omega
  · omega
theorem RefMade.reads2 {w0 : World} {kind : Int} {n : Nat} {cap st co : Int} {nx ou : List Int} {p1 p2 : Option Addr} {m1 k1 m2 k2 : Nat} {b : Nat} {w : World} (h : RefMade w0 kind n cap st co nx ou (.slice p1 m1 k1) (.slice p2 m2 k2) b w) (hn : 1 ≤ n) :
    ∃ g gc bT a1 l1 c1 a2 l2 c2, RefRd b n g gc bT kind cap st co (.slice a1 l1 c1) (.slice a2 l2 c2) w ∧ Below w0.heap.size w0 w := by
  obtain ⟨W1, vn', vo', v, bT, bF, rfl, hb, hI, hv⟩ := h
  have hs : ∃ a1 l1 c1 a2 l2 c2, vn' = .slice a1 l1 c1 ∧ vo' = .slice a2 l2 c2 := by
    rcases hv with ⟨-, rfl, rfl⟩ | ⟨-, g1, g2, rfl, rfl, -⟩
    · exact ⟨_, _, _, _, _, _, rfl, rfl⟩
    · exact ⟨_, _, _, _, _, _, rfl, rfl⟩
  obtain ⟨a1, l1, c1, a2, l2, c2, rfl, rfl⟩ := hs
  obtain ⟨hE, hO, hT, -, hB⟩ := hI
  obtain ⟨hl, ⟨rfl, hn0⟩ | ⟨g, gc, cur, rfl, -, hg, hnc, hcm, hcs, htk⟩⟩ := hO
  · omega
  · refine ⟨g, gc, bT, a1, l1, c1, a2, l2, c2, ⟨hE, fun t ht => ?_, fun t ht => (hT t ht).1.cell_of rfl, fun t ht => (hT t ht).1.cell_of rfl⟩, Below.next hb hB hb.size⟩
    rw [cell_of_row w g _ cur _ _ hg]
    have : (ptrs bT n)[t]? = some (.pointer (some ⟨bT t, 0, none⟩)) := by simp [ptrs, List.getElem?_range ht]
    rw [← htk, List.getElem?_take] at this
    split at this
    · simpa using this
    · cases this
theorem Row.apart {w : World} {g g' : Nat} {t t' : TypeId} {xs xs' : List Value} (h : Row w g t xs) (h' : Row w g' t' xs') (ne : t ≠ t') : g ≠ g' := by
  rintro rfl
  have e := (show w.heap[g]? = _ from h).symm.trans (show w.heap[g]? = _ from h')
  simp at e
  exact ne e.2
structure MadeInv (w w1 w4 : World) (base bX : Nat) (v : Value) (w' : World) : Prop where
  b0 : Below w.heap.size w w'
  b1 : Below w1.heap.size w1 w'
  k4 : Keeps base w4 w'
  sz : w4.heap.size ≤ w'.heap.size
  rX : Row w' bX 74 [v]
theorem MadeInv.set {w w1 w4 : World} {base bX : Nat} {v : Value} {w' : World} (h : MadeInv w w1 w4 base bX v w') {a : Addr} (h0 : w.heap.size ≤ a.block) (h1 : w1.heap.size ≤ a.block) (h4 : a.block < base) (hX : bX ≠ a.block) (u : Value) : MadeInv w w1 w4 base bX v (w'.setCell a u) :=
  ⟨h.b0.setCell h0 u, h.b1.setCell h1 u, h.k4.set h4 u, by simpa [World.setCell] using h.sz, h.rX.setOther hX u⟩
end Go.Proofs.YtefjhnhdagolhaaGreat
namespace Go.Proofs.YtefjhnhdagolhaaGreat
open Go.RowKit
attribute [local go_sem ↓] Go.wp_at_zero Go.wp_at_succ
set_option maxHeartbeats 1000000 in
theorem plays_err (s : Value) (kind th cap st co : Int) (nx ou : List Int) (vn vo : Value) (w : World) (hn : Sl w vn (ints nx)) (ho : Sl w vo (ints ou)) (n1 : nx.length ≤ 1048576) (n2 : ou.length ≤ 1048576) (h : cfgErr kind th cap st co nx ou ≠ 0) :
    Calls Tryz.prog 15 #[.agg #[.int .i64 kind, .int .i64 th, .int .i64 cap, .int .i64 st, .int .i64 co, vn, vo], s] w fun e w' => e = .returned (.bool true) ∧ Below w.heap.size w w' := by
  have HM := hide (fun W (hW : Below w.heap.size w W) => made_err kind th cap st co nx ou vn vo W (hn.below hW) (ho.below hW) n1 n2 h)
  clear hn ho n1 n2 h
  go_enter Tryz.func15, Tryz.ntmps15
  go_wp2_with fail
  refine (HM.out _ (below_alloc _ _)).mono ?_
  rintro e w1 ⟨rfl, hb1⟩
  have HB1 := hide (Below.next (below_alloc w _) hb1 (by simp))
  clear hb1
  go_wp2_with fail
  go_ret
  exact ⟨rfl, HB1.out⟩
end Go.Proofs.YtefjhnhdagolhaaGreat
