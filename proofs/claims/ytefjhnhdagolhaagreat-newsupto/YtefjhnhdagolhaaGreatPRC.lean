import Derived.Test.YtefjhnhdagolhaaGreatPRB
namespace Go.Proofs.YtefjhnhdagolhaaGreat
open Go.RowKit
attribute [local go_sem ↓] Go.wp_at_zero Go.wp_at_succ

/-- What an ask of the document's new object reads. -/
structure RefRd (b n g gc : Nat) (bT : Nat → Nat) (kind cap st co : Int) (vn vo : Value) (w : World) : Prop where
  row : Row w b 105 (ccs kind n cap st co vn vo ++ [.slice (some ⟨g, 0, none⟩) n gc, .slice none 0 0])
  ptr : ∀ t, t < n → w.cell? ⟨g, t, none⟩ = some (.pointer (some ⟨bT t, 0, none⟩))
  ended : ∀ t, t < n → w.cell? ⟨bT t, 1, none⟩ = some (.int .i64 0)
  part : ∀ t, t < n → w.cell? ⟨bT t, 3, none⟩ = some (.int .i64 0)

theorem RefRd.later {b n g gc : Nat} {bT : Nat → Nat} {kind cap st co : Int} {vn vo : Value} {w w' : World} (h : RefRd b n g gc bT kind cap st co vn vo w) (hb : Below w.heap.size w w') : RefRd b n g gc bT kind cap st co vn vo w' :=
  ⟨h.row.old hb, fun t ht => cell_later hb (h.ptr t ht), fun t ht => cell_later hb (h.ended t ht), fun t ht => cell_later hb (h.part t ht)⟩

theorem RefMade.reads {w0 : World} {kind : Int} {n : Nat} {cap st co : Int} {nx ou : List Int} {vn vo : Value} {b : Nat} {w : World} (h : RefMade w0 kind n cap st co nx ou vn vo b w) (hn : 1 ≤ n) :
    ∃ g gc bT vn' vo', RefRd b n g gc bT kind cap st co vn' vo' w ∧ Below w0.heap.size w0 w := by
  obtain ⟨W1, vn', vo', v, bT, bF, rfl, hb, hI, -⟩ := h
  obtain ⟨hE, hO, hT, -, hB⟩ := hI
  obtain ⟨hl, ⟨rfl, hn0⟩ | ⟨g, gc, cur, rfl, -, hg, hnc, hcm, hcs, htk⟩⟩ := hO
  · omega
  · refine ⟨g, gc, bT, vn', vo', ⟨hE, fun t ht => ?_, fun t ht => (hT t ht).1.cell_of rfl, fun t ht => (hT t ht).1.cell_of rfl⟩, Below.next hb hB hb.size⟩
    rw [cell_of_row w g _ cur _ _ hg]
    have : (ptrs bT n)[t]? = some (.pointer (some ⟨bT t, 0, none⟩)) := by simp [ptrs, List.getElem?_range ht]
    rw [← htk, List.getElem?_take] at this
    split at this
    · simpa using this
    · cases this

section
variable {b n g gc : Nat} {bT : Nat → Nat} {kind cap st co : Int} {vn vo : Value} (w : World)

set_option maxHeartbeats 400000 in
theorem refWords (hR : RefRd b n g gc bT kind cap st co vn vo w) (_h1 : 1 ≤ n) (_h2 : n ≤ 64) :
    Calls Tryz.prog 86 #[.pointer (some ⟨b, 0, none⟩)] w fun e w' => e = .returned (.int .i64 (((n : Int) + 15) / 16)) ∧ w' = w := by
  have c1 : w.cell? ⟨b, 1, none⟩ = some (.int .i64 (n : Int)) := hR.row.cell_of rfl
  clear hR
  go_enter Tryz.func86, Tryz.ntmps86
  go_wp2
  go_ret
  exact ⟨rfl, rfl⟩

set_option maxHeartbeats 400000 in
theorem refParts (hR : RefRd b n g gc bT kind cap st co vn vo w) (_h1 : 1 ≤ n) (_h2 : n ≤ 64) :
    Calls Tryz.prog 109 #[.pointer (some ⟨b, 0, none⟩)] w fun e w' => e = .returned (.int .i64 (((n : Int) + 15) / 16 + 2 * (n : Int) + 1)) ∧ ∃ k, w' = w.drewN k := by
  have c1 : w.cell? ⟨b, 1, none⟩ = some (.int .i64 (n : Int)) := hR.row.cell_of rfl
  have HR := hide (fun k => hR.later (Below.drewN (Below.refl _ _) k))
  clear hR
  go_enter Tryz.func109, Tryz.ntmps109
  go_wp2
  go_quiet ((go_at_call 86; exact Calls.quiet_of_same (refWords _ (HR.out _) _h1 _h2)))
  go_wp2
  go_ret
  exact ⟨rfl, _, rfl⟩

set_option maxHeartbeats 800000 in
theorem refBound (hR : RefRd b n g gc bT kind cap st co vn vo w) (_h1 : 1 ≤ n) (_h2 : n ≤ 64) (_h3 : 0 ≤ cap) (_h4 : cap ≤ 64) :
    Calls Tryz.prog 84 #[.pointer (some ⟨b, 0, none⟩)] w fun e w' => e = .returned (.int .i64 (4 + 2 * (cap + 3 + 2 * (((n : Int) + 15) / 16 + 2 * (n : Int) + 1) + ((n : Int) + 15) / 16 + 3 * (n : Int)) + 3)) ∧ ∃ k, w' = w.drewN k := by
  have c1 : w.cell? ⟨b, 1, none⟩ = some (.int .i64 (n : Int)) := hR.row.cell_of rfl
  have c2 : w.cell? ⟨b, 2, none⟩ = some (.int .i64 cap) := hR.row.cell_of rfl
  have HR := hide (fun k => hR.later (Below.drewN (Below.refl _ _) k))
  have HR0 := hide hR
  clear hR
  go_enter Tryz.func84, Tryz.ntmps84
  go_wp2_with fail
  refine (refWords _ HR0.out _h1 _h2).mono ?_
  rintro e w1 ⟨rfl, rfl⟩
  go_wp2_with fail
  refine (refParts _ HR0.out _h1 _h2).mono ?_
  rintro e w1 ⟨rfl, k, rfl⟩
  go_wp2_with fail
  go_quiet (fail)
  go_wp2
  go_ret
  exact ⟨rfl, _, by first | rfl | rw [World.drewN_drewN]⟩

set_option maxHeartbeats 400000 in
theorem refAnswer_out (t : Int) (hR : RefRd b n g gc bT kind cap st co vn vo w) (_h2 : n ≤ 64) (ht : t < 0 ∨ (n : Int) ≤ t) :
    Calls Tryz.prog 54 #[.pointer (some ⟨b, 0, none⟩), .int .i64 t] w fun e w' => e = .returned (.tuple #[.agg #[.int .i64 0, .int .i64 0], .int .i64 3]) ∧ Below w.heap.size w w' := by
  have c7 : w.cell? ⟨b, 7, none⟩ = some (.slice (some ⟨g, 0, none⟩) n gc) := hR.row.cell_of rfl
  have c7' := fun ob => cell_new c7 ob
  clear hR
  by_cases h0 : t < 0
  · go_enter Tryz.func54, Tryz.ntmps54
    go_wp2
    exact bodyPost_ret (v := .tuple #[.agg #[.int .i64 0, .int .i64 0], .int .i64 3]) (by simp [results, Tryz.results54, go_sem]) rfl ⟨rfl, (by repeat (first | exact Below.refl _ _ | assumption | refine Below.drewN ?_ _ | refine Below.alloc ?_ (by simp) _))⟩
  · have h1 : (n : Int) ≤ t := by omega
    clear ht
    go_enter Tryz.func54, Tryz.ntmps54
    go_wp2
    exact bodyPost_ret (v := .tuple #[.agg #[.int .i64 0, .int .i64 0], .int .i64 3]) (by simp [results, Tryz.results54, go_sem]) rfl ⟨rfl, (by repeat (first | exact Below.refl _ _ | assumption | refine Below.drewN ?_ _ | refine Below.alloc ?_ (by simp) _))⟩

set_option maxHeartbeats 400000 in
theorem refAnswer_new (t : Nat) (hR : RefRd b n g gc bT kind cap st co vn vo w) (_h2 : n ≤ 64) (ht : t < n) :
    Calls Tryz.prog 54 #[.pointer (some ⟨b, 0, none⟩), .int .i64 (t : Int)] w fun e w' => e = .returned (.tuple #[.agg #[.int .i64 0, .int .i64 0], .int .i64 5]) ∧ Below w.heap.size w w' := by
  have c7 : w.cell? ⟨b, 7, none⟩ = some (.slice (some ⟨g, 0, none⟩) n gc) := hR.row.cell_of rfl
  have c7' := fun ob => cell_new c7 ob
  have p1 := fun ob => cell_new (hR.ptr t ht) ob
  have p2 := fun ob => cell_new (hR.ended t ht) ob
  have p3 := fun ob => cell_new (hR.part t ht) ob
  have x1 : (0 : Int) ≤ (t : Int) := by omega
  have x2 : (t : Int) < (n : Int) := by omega
  have x3 : ¬ (n : Int) ≤ (t : Int) := by omega
  clear hR
  go_enter Tryz.func54, Tryz.ntmps54
  go_wp2
  exact bodyPost_ret (v := .tuple #[.agg #[.int .i64 0, .int .i64 0], .int .i64 5]) (by simp [results, Tryz.results54, go_sem]) rfl ⟨rfl, (by repeat (first | exact Below.refl _ _ | assumption | refine Below.drewN ?_ _ | refine Below.alloc ?_ (by simp) _))⟩

set_option maxHeartbeats 400000 in
theorem refOrder_new (hR : RefRd b n g gc bT kind cap st co vn vo w) :
    Calls Tryz.prog 55 #[.pointer (some ⟨b, 0, none⟩)] w fun e w' => e = .returned (.slice none 0 0) ∧ w' = w := by
  have c8 : w.cell? ⟨b, 8, none⟩ = some (.slice none 0 0) := hR.row.cell_of rfl
  clear hR
  go_enter Tryz.func55, Tryz.ntmps55
  go_wp2
  go_loop [3, 4] (fun s i => s = .slice none 0 0 ∧ i = .int .i64 0) (fun _ _ => 0)
  case atStart => exact ⟨rfl, rfl⟩
  case round =>
    obtain ⟨rfl, rfl⟩ := hrel
    go_wp2
    go_ret
    exact ⟨rfl, rfl⟩

end

end Go.Proofs.YtefjhnhdagolhaaGreat

namespace Go.Proofs.YtefjhnhdagolhaaGreat
open Go.RowKit
attribute [local go_sem ↓] Go.wp_at_zero Go.wp_at_succ

section
variable (kind n cap st co : Int) (a1 : Option Addr) (l1 c1 : Nat) (a2 : Option Addr) (l2 c2 : Nat) (w : World)

set_option maxHeartbeats 1000000 in
theorem start_num (hk : kind = 1 ∨ kind = 5) :
    Calls Tryz.prog 113 #[.agg #[.int .i64 kind, .int .i64 n, .int .i64 cap, .int .i64 st, .int .i64 co, .slice a1 l1 c1, .slice a2 l2 c2]] w fun e w' => ∃ g, e = .returned (.agg #[.int .i64 kind, .int .i64 st, .int .i64 co, .slice a1 l1 c1, .slice a2 l2 c2, .slice (some ⟨g, 0, none⟩) 1 1]) ∧
      w.heap.size ≤ g ∧ Row w' g 3 [.int .i64 0] ∧ Below w.heap.size w w' := by
  rcases hk with rfl | rfl
  all_goals
    go_enter Tryz.func113, Tryz.ntmps113
    go_wp2
    refine bodyPost_ret (v := .agg #[_, .int .i64 st, .int .i64 co, .slice a1 l1 c1, .slice a2 l2 c2, .slice (some ⟨w.heap.size + 1 + 1 + 1, 0, none⟩) 1 1]) (by simp [results, Tryz.results113, go_sem]) rfl ⟨_, rfl, by omega, ?_, ?_⟩
    · exact Row.new' (xs := [.int .i64 0]) (by simp)
    · exact (by repeat (first | exact Below.refl _ _ | refine Below.drewN ?_ _ | refine Below.drew ?_ | refine Below.alloc ?_ (by first | (simp; done) | (simp; omega)) _ | refine Below.next ?_ (by assumption) (by first | (simp; done) | (simp; omega))))

set_option maxHeartbeats 1000000 in
theorem start_list (h1 : 2 ≤ kind) (h2 : kind ≤ 4) :
    Calls Tryz.prog 113 #[.agg #[.int .i64 kind, .int .i64 n, .int .i64 cap, .int .i64 st, .int .i64 co, .slice a1 l1 c1, .slice a2 l2 c2]] w fun e w' => e = .returned (.agg #[.int .i64 kind, .int .i64 st, .int .i64 co, .slice a1 l1 c1, .slice a2 l2 c2, .slice none 0 0]) ∧
      Below w.heap.size w w' := by
  have k1 : (kind == 1) = false := beq_eq_false_iff_ne.2 (by omega)
  have k2 : (kind == 5) = false := beq_eq_false_iff_ne.2 (by omega)
  go_enter Tryz.func113, Tryz.ntmps113
  go_wp2
  refine bodyPost_ret (v := .agg #[.int .i64 kind, .int .i64 st, .int .i64 co, .slice a1 l1 c1, .slice a2 l2 c2, .slice none 0 0]) (by simp [results, Tryz.results113, go_sem]) rfl ⟨rfl, ?_⟩
  exact (by repeat (first | exact Below.refl _ _ | refine Below.drewN ?_ _ | refine Below.drew ?_ | refine Below.alloc ?_ (by first | (simp; done) | (simp; omega)) _ | refine Below.next ?_ (by assumption) (by first | (simp; done) | (simp; omega))))

/-- What a new plain object of the document holds. -/
def holdsNew (kind : Int) : List Int := if kind = 1 ∨ kind = 5 then [0] else []

theorem start_any (h1 : 1 ≤ kind) (h2 : kind ≤ 5) :
    Calls Tryz.prog 113 #[.agg #[.int .i64 kind, .int .i64 n, .int .i64 cap, .int .i64 st, .int .i64 co, .slice a1 l1 c1, .slice a2 l2 c2]] w fun e w' => ∃ a l c, e = .returned (.agg #[.int .i64 kind, .int .i64 st, .int .i64 co, .slice a1 l1 c1, .slice a2 l2 c2, .slice a l c]) ∧
      w'.ownsRow w.heap.size 3 1 (.slice a l c) (holdsNew kind).length (ints (holdsNew kind)) ∧ Below w.heap.size w w' ∧ (holdsNew kind = [] → a = none ∧ l = 0 ∧ c = 0) := by
  by_cases hk : kind = 1 ∨ kind = 5
  · refine (start_num kind n cap st co a1 l1 c1 a2 l2 c2 w hk).mono ?_
    rintro e w' ⟨g, rfl, hg, hr, hb⟩
    refine ⟨_, _, _, rfl, ?_, hb, fun hh => by rw [holdsNew, if_pos hk] at hh; cases hh⟩
    rw [holdsNew, if_pos hk]
    exact ⟨rfl, .inr ⟨g, 1, #[.int .i64 0], rfl, hg, hr, Nat.le_refl _, by decide, rfl, rfl⟩⟩
  · refine (start_list kind n cap st co a1 l1 c1 a2 l2 c2 w (by omega) (by omega)).mono ?_
    rintro e w' ⟨rfl, hb⟩
    refine ⟨_, _, _, rfl, ?_, hb, fun _ => ⟨rfl, rfl, rfl⟩⟩
    rw [holdsNew, if_neg hk]
    exact World.ownsRow_nil _ _ _ _
end

end Go.Proofs.YtefjhnhdagolhaaGreat

namespace Go.Proofs.YtefjhnhdagolhaaGreat
open Go.RowKit
attribute [local go_sem ↓] Go.wp_at_zero Go.wp_at_succ

/-- A function whose two results are structs in memory. -/
theorem results_agg2 {P : Program} {fn : Func} {tmps : Array Value} {a a' : Tmp} {t t' : TypeId} {w : World} {b o b' o' : Nat} {cs cs' : List Value} {d d' : TypeDesc} (hr : fn.results = #[.cell a t, .cell a' t']) (ha : tmps.getD a undef = .pointer (some ⟨b, o, none⟩)) (ha' : tmps.getD a' undef = .pointer (some ⟨b', o', none⟩))
    (hc : w.rangeAt b o cs) (hc' : w.rangeAt b' o' cs') (hu : P.underlying t = some d) (hd : d.isRow = true) (hi : (P.info? t).map (·.size) = some cs.length) (hu' : P.underlying t' = some d') (hd' : d'.isRow = true) (hi' : (P.info? t').map (·.size) = some cs'.length) :
    (results fn tmps).run P w = .ok (.tuple #[.agg cs.toArray, .agg cs'.toArray]) w := by
  rw [Array.getD_eq_getD_getElem?] at ha ha'
  unfold results
  simp [hr, ha, ha', asAddr, run_loadVar_mid w b o t cs d hc hu hd hi, run_loadVar_mid w b' o' t' cs' d' hc' hu' hd' hi']
theorem owns_setCells {base : Nat} {e : TypeId} {size : Nat} {v : Value} {n : Nat} {xs : List Value} {b : Nat} (hb : b < base) : ∀ (vs : List Value) (o : Nat) (w : World), w.ownsRow base e size v n xs → (w.setCells b o vs).ownsRow base e size v n xs
  | [], _, _, h => h
  | u :: vs, o, _, h => owns_setCells hb vs (o + 1) _ (ownsRow_setCell_below h (a := ⟨b, o, none⟩) hb u)

set_option maxRecDepth 20000 in
set_option maxHeartbeats 1500000 in
theorem replay_new {b n g gc : Nat} {bT : Nat → Nat} {kind cap st co : Int} {a1 : Option Addr} {l1 c1 : Nat} {a2 : Option Addr} {l2 c2 : Nat} (t q : Int) (w : World) (hR : RefRd b n g gc bT kind cap st co (.slice a1 l1 c1) (.slice a2 l2 c2) w) (h1 : 1 ≤ kind) (h2 : kind ≤ 5) :
    Calls Tryz.prog 88 #[.pointer (some ⟨b, 0, none⟩), .int .i64 t, .int .i64 q] w fun e w' => ∃ a l c, e = .returned (.tuple #[.agg #[.int .i64 kind, .int .i64 st, .int .i64 co, .slice a1 l1 c1, .slice a2 l2 c2, .slice a l c], .agg #[.int .i64 0, .int .i64 0]]) ∧
      w'.ownsRow w.heap.size 3 1 (.slice a l c) (holdsNew kind).length (ints (holdsNew kind)) ∧ Below w.heap.size w w' ∧ (holdsNew kind = [] → a = none ∧ l = 0 ∧ c = 0) := by
  have HR := hide hR
  obtain ⟨-, k0, k1, k2, k3, k4, k5, k6⟩ : True ∧ w.cell? ⟨b, 0, none⟩ = some (.int .i64 kind) ∧ w.cell? ⟨b, 1, none⟩ = some (.int .i64 (n : Int)) ∧ w.cell? ⟨b, 2, none⟩ = some (.int .i64 cap) ∧ w.cell? ⟨b, 3, none⟩ = some (.int .i64 st) ∧ w.cell? ⟨b, 4, none⟩ = some (.int .i64 co) ∧ w.cell? ⟨b, 5, none⟩ = some (.slice a1 l1 c1) ∧ w.cell? ⟨b, 6, none⟩ = some (.slice a2 l2 c2) :=
    ⟨trivial, hR.row.cell_of rfl, hR.row.cell_of rfl, hR.row.cell_of rfl, hR.row.cell_of rfl, hR.row.cell_of rfl, hR.row.cell_of rfl, hR.row.cell_of rfl⟩
  have hlt : b < w.heap.size := World.block_lt_of_cell? w _ k0
  have hne1 : ¬ b = w.heap.size := by omega
  have hne2 : ¬ b = w.heap.size + 1 := by omega
  clear hR
  go_enter Tryz.func88, Tryz.ntmps88
  go_wp2_with fail
  refine (start_any kind (n : Int) cap st co a1 l1 c1 a2 l2 c2 _ h1 h2).mono ?_
  rintro e w1 ⟨a, l, c, rfl, hO, hb1, hnil⟩
  have HNIL := hide hnil
  clear hnil
  have hN : Row w1 w.heap.size 159 [.int .i64 0, .int .i64 0, .int .i64 0, .slice none 0 0, .slice none 0 0, .slice none 0 0] := ((Row.new' rfl).alloc _).old hb1
  have hM : Row w1 (w.heap.size + 1) 94 [.int .i64 0, .int .i64 0] := (Row.new' (by simp)).old hb1
  have HB1 := hide (Below.next (((Below.refl _ _).alloc (Nat.le_refl _) _).alloc (by simp) _) hb1 (by simp; omega))
  have HO := hide hO
  have hz1 : w.heap.size + 1 < w1.heap.size := hM.lt
  have m0 : w1.cell? ⟨w.heap.size, 0, none⟩ = some (.int .i64 0) := hN.cell_of rfl
  have m1 : w1.cell? ⟨w.heap.size, 1, none⟩ = some (.int .i64 0) := hN.cell_of rfl
  have m2 : w1.cell? ⟨w.heap.size, 2, none⟩ = some (.int .i64 0) := hN.cell_of rfl
  have m3 : w1.cell? ⟨w.heap.size, 3, none⟩ = some (.slice none 0 0) := hN.cell_of rfl
  have m4 : w1.cell? ⟨w.heap.size, 4, none⟩ = some (.slice none 0 0) := hN.cell_of rfl
  have m5 : w1.cell? ⟨w.heap.size, 5, none⟩ = some (.slice none 0 0) := hN.cell_of rfl
  have mf := hN.frozen
  have y0 : w1.cell? ⟨w.heap.size + 1, 0, none⟩ = some (.int .i64 0) := hM.cell_of rfl
  have y1 : w1.cell? ⟨w.heap.size + 1, 1, none⟩ = some (.int .i64 0) := hM.cell_of rfl
  have yf := hM.frozen
  have HTN := hide (hN.there (o := 0) (n := 6) (by simp))
  have HTM := hide (hM.there (o := 0) (n := 2) (by simp))
  clear hN hM hO hb1 k0 k1 k2 k3 k4 k5 k6 m0 m1 m2 m3 m4 m5 mf y0 y1 yf
  go_wp2_with fail
  refine (refOrder_new _ (HR.out.later (Below.next HB1.out (((Below.refl _ _).alloc (Nat.le_refl _) _).alloc (by simp) _) HB1.out.size))).mono ?_
  rintro e w2 ⟨rfl, rfl⟩
  go_wp2_with fail
  go_loop [11] (fun i => i = .int .i64 0) (fun _ => 0)
  case atStart => rfl
  case round =>
    subst hrel
    go_wp2
    generalize hW3 : World.alloc (World.alloc w1 _) _ = W3
    have hb3 : Below w1.heap.size w1 W3 := by rw [← hW3]; exact ((Below.refl _ _).alloc (Nat.le_refl _) _).alloc (by simp) _
    have hP : Row W3 w1.heap.size 159 [.int .i64 kind, .int .i64 st, .int .i64 co, .slice a1 l1 c1, .slice a2 l2 c2, .slice a l c] := by rw [← hW3]; exact (Row.new' rfl).alloc _
    have hA : Row W3 (w1.heap.size + 1) 94 [.int .i64 0, .int .i64 0] := by rw [← hW3]; exact Row.new' (by simp)
    have n0 : W3.there w.heap.size 0 6 := there_later hb3 HTN.out
    have n1 : W3.there (w.heap.size + 1) 0 2 := there_later hb3 HTM.out
    have hi1 : (Tryz.prog.info? 159).map (·.size) = some 6 := by kernel_rfl
    have hi2 : (Tryz.prog.info? 94).map (·.size) = some 2 := by kernel_rfl
    have rP : W3.rangeAt w1.heap.size 0 [.int .i64 kind, .int .i64 st, .int .i64 co, .slice a1 l1 c1, .slice a2 l2 c2, .slice a l c] := fun j v hv => by rw [Nat.zero_add]; exact hP.cell_of hv
    have rA : W3.rangeAt (w1.heap.size + 1) 0 [.int .i64 0, .int .i64 0] := fun j v hv => by rw [Nat.zero_add]; exact hA.cell_of hv
    have HB3 := hide hb3
    clear hW3 hP hA hb3
    refine wp_region_held_drew (S := (fun w' => w'.rangeAt w1.heap.size 0 [.int .i64 kind, .int .i64 st, .int .i64 co, .slice a1 l1 c1, .slice a2 l2 c2, .slice a l c] ∧ w'.rangeAt (w1.heap.size + 1) 0 [.int .i64 0, .int .i64 0] ∧ w'.there w.heap.size 0 6 ∧ w'.there (w.heap.size + 1) 0 2)) (by kernel_rfl) ?_ (fun hHeld => ?_)
    · exact ⟨rP, rA, n0, n1⟩
    refine wpAnyH_ready (rs := [0, 1]) (by kernel_rfl) (by simp) ?_
    refine AllReadyH.cons (o := { dst := some 65, op := Go.Op.load 159 (Go.Operand.tmp 8), type := 159, pos := "steps.go:252", after := #[], guard := none }) (by rfl) (fun K hK => ?_) (AllReadyH.cons (o := { dst := some 66, op := Go.Op.load 94 (Go.Operand.tmp 9), type := 94, pos := "steps.go:252", after := #[{ on := 2, ground := Go.Ground.gcOnly Go.Departure.lateStores }], guard := none }) (by rfl) (fun K hK => ?_) AllReadyH.nil)
    · rw [if_pos (by rfl)]
      refine wp_load_mid 159 (.tmp 8) rfl w1.heap.size 0 rfl [.int .i64 kind, .int .i64 st, .int .i64 co, .slice a1 l1 c1, .slice a2 l2 c2, .slice a l c] _ ?_ Tryz.underlying159 rfl ?_ ?_
      · exact hHeld.1
      · exact hi1
      refine hK.out _ _ ?_ (fun hHeld => ?_)
      · exact hHeld
      clear hK K
      (try go_frame)
      refine wpAnyH_ready (rs := [1, 2]) (by kernel_rfl) (by simp) ?_
      refine AllReadyH.cons (o := { dst := some 66, op := Go.Op.load 94 (Go.Operand.tmp 9), type := 94, pos := "steps.go:252", after := #[{ on := 2, ground := Go.Ground.gcOnly Go.Departure.lateStores }], guard := none }) (by rfl) (fun K hK => ?_) (AllReadyH.cons (o := { dst := none, op := Go.Op.store 159 (Go.Operand.tmp 6) (Go.Operand.tmp 65), type := 0, pos := "steps.go:252", after := #[{ on := 0, ground := Go.Ground.data }, { on := 0, ground := Go.Ground.phase }, { on := 1, ground := Go.Ground.textOnly Go.Departure.lateStores }], guard := none }) (by rfl) (fun K hK => ?_) AllReadyH.nil)
      · (try (have e1' := e1; clear e1'; generalize hWs : World.setCells W3.drew w.heap.size 0 [.int .i64 kind, .int .i64 st, .int .i64 co, .slice a1 l1 c1, .slice a2 l2 c2, .slice a l c] = W4 at hHeld e1 ⊢; have HWS := hide hWs; clear hWs))
        rw [if_pos (by rfl)]
        refine wp_load_mid 94 (.tmp 9) rfl (w1.heap.size + 1) 0 rfl [.int .i64 0, .int .i64 0] _ ?_ Tryz.underlying94 rfl ?_ ?_
        · exact hHeld.2.1
        · exact hi2
        refine hK.out _ _ ?_ (fun hHeld => ?_)
        · exact hHeld
        clear hK K
        (try go_frame)
        refine wpAnyH_ready (rs := [2]) (by kernel_rfl) (by simp) ?_
        refine AllReadyH.cons (o := { dst := none, op := Go.Op.store 159 (Go.Operand.tmp 6) (Go.Operand.tmp 65), type := 0, pos := "steps.go:252", after := #[{ on := 0, ground := Go.Ground.data }, { on := 0, ground := Go.Ground.phase }, { on := 1, ground := Go.Ground.textOnly Go.Departure.lateStores }], guard := none }) (by rfl) (fun K hK => ?_) AllReadyH.nil
        rw [if_pos (by rfl)]
        have e1 := World.rangeAt_setCells_same _ w.heap.size 0 [.int .i64 kind, .int .i64 st, .int .i64 co, .slice a1 l1 c1, .slice a2 l2 c2, .slice a l c] hHeld.2.2.1
        refine wp_store_mid 159 (.tmp 6) (.tmp 65) rfl w.heap.size 0 (List.toArray [.int .i64 kind, .int .i64 st, .int .i64 co, .slice a1 l1 c1, .slice a2 l2 c2, .slice a l c]) rfl rfl ?_ ?_ ?_ ?_
        · exact hHeld.2.2.1
        · exact hi1
        · exact all_oneCell_toArray (by simp [Value.oneCell'])
        refine hK.out _ _ ?_ (fun hHeld => ?_)
        · exact ⟨World.rangeAt_setCells_apart hHeld.1 _ _ _ (.inl (by omega)), World.rangeAt_setCells_apart hHeld.2.1 _ _ _ (.inl (by omega)), World.there_setCells hHeld.2.2.1 _ _ _, World.there_setCells hHeld.2.2.2 _ _ _⟩
        clear hK K
        (try go_frame)
        refine wpAnyH_ready (rs := [3]) (by kernel_rfl) (by simp) ?_
        refine AllReadyH.cons (o := { dst := none, op := Go.Op.store 94 (Go.Operand.tmp 7) (Go.Operand.tmp 66), type := 0, pos := "steps.go:252", after := #[{ on := 1, ground := Go.Ground.data }, { on := 2, ground := Go.Ground.chain }, { on := 0, ground := Go.Ground.phase }, { on := 1, ground := Go.Ground.phase }, { on := 2, ground := Go.Ground.phase }], guard := none }) (by rfl) (fun K hK => ?_) AllReadyH.nil
        first | (have h9 := HWS; clear h9) | (generalize hWs : World.setCells W3.drew w.heap.size 0 [.int .i64 kind, .int .i64 st, .int .i64 co, .slice a1 l1 c1, .slice a2 l2 c2, .slice a l c] = W4 at hHeld e1 ⊢; have HWS := hide hWs; clear hWs)
        rw [if_pos (by rfl)]
        have e2 := World.rangeAt_setCells_same W4 (w.heap.size + 1) 0 [.int .i64 0, .int .i64 0] hHeld.2.2.2
        refine wp_store_mid 94 (.tmp 7) (.tmp 66) rfl (w.heap.size + 1) 0 (List.toArray [.int .i64 0, .int .i64 0]) rfl rfl ?_ ?_ ?_ ?_
        · exact hHeld.2.2.2
        · exact hi2
        · exact all_oneCell_toArray (by simp [Value.oneCell'])
        refine hK.out _ _ ?_ (fun hHeld => ?_)
        · exact ⟨World.rangeAt_setCells_apart hHeld.1 _ _ _ (.inl (by omega)), World.rangeAt_setCells_apart hHeld.2.1 _ _ _ (.inl (by omega)), World.there_setCells hHeld.2.2.1 _ _ _, World.there_setCells hHeld.2.2.2 _ _ _⟩
        clear hK K
        (try go_frame)
        refine wpAnyH_done (by kernel_rfl) ?_ _
        generalize hWt : World.setCells W4 (w.heap.size + 1) 0 [.int .i64 0, .int .i64 0] = W5 at hHeld e2 ⊢
        have e1' : W5.rangeAt w.heap.size 0 [.int .i64 kind, .int .i64 st, .int .i64 co, .slice a1 l1 c1, .slice a2 l2 c2, .slice a l c] := by rw [← hWt]; exact World.rangeAt_setCells_apart e1 _ _ _ (.inl (by omega))
        have HWT := hide hWt
        clear hWt
        (try go_wp2_with fail)
        refine bodyPost_ret (v := .tuple #[.agg (List.toArray [.int .i64 kind, .int .i64 st, .int .i64 co, .slice a1 l1 c1, .slice a2 l2 c2, .slice a l c]), .agg (List.toArray [.int .i64 0, .int .i64 0])]) (results_agg2 rfl rfl rfl e1' e2 Tryz.underlying159 rfl hi1 Tryz.underlying94 rfl hi2) rfl ⟨a, l, c, rfl, ?_, ?_, HNIL.out⟩
        · rw [← HWT.out, ← HWS.out]
          refine owns_base (base := w.heap.size + 1 + 1) ?_ (by omega)
          refine owns_setCells (by omega) _ _ _ (owns_setCells (by omega) _ _ _ ?_)
          exact owns_later (w := w1) (w' := W3) (owns_base HO.out (by simp)) HB3.out
        · rw [← HWT.out, ← HWS.out]
          exact below_setCells (by omega) _ _ _ (below_setCells (by omega) _ _ _ (Below.drew (Below.next HB1.out HB3.out HB1.out.size)))
      · rw [if_pos (by rfl)]
        have e1 := World.rangeAt_setCells_same _ w.heap.size 0 [.int .i64 kind, .int .i64 st, .int .i64 co, .slice a1 l1 c1, .slice a2 l2 c2, .slice a l c] hHeld.2.2.1
        refine wp_store_mid 159 (.tmp 6) (.tmp 65) rfl w.heap.size 0 (List.toArray [.int .i64 kind, .int .i64 st, .int .i64 co, .slice a1 l1 c1, .slice a2 l2 c2, .slice a l c]) rfl rfl ?_ ?_ ?_ ?_
        · exact hHeld.2.2.1
        · exact hi1
        · exact all_oneCell_toArray (by simp [Value.oneCell'])
        refine hK.out _ _ ?_ (fun hHeld => ?_)
        · exact ⟨World.rangeAt_setCells_apart hHeld.1 _ _ _ (.inl (by omega)), World.rangeAt_setCells_apart hHeld.2.1 _ _ _ (.inl (by omega)), World.there_setCells hHeld.2.2.1 _ _ _, World.there_setCells hHeld.2.2.2 _ _ _⟩
        clear hK K
        (try go_frame)
        refine wpAnyH_ready (rs := [1]) (by kernel_rfl) (by simp) ?_
        refine AllReadyH.cons (o := { dst := some 66, op := Go.Op.load 94 (Go.Operand.tmp 9), type := 94, pos := "steps.go:252", after := #[{ on := 2, ground := Go.Ground.gcOnly Go.Departure.lateStores }], guard := none }) (by rfl) (fun K hK => ?_) AllReadyH.nil
        (try (have e1' := e1; clear e1'; generalize hWs : World.setCells W3.drew w.heap.size 0 [.int .i64 kind, .int .i64 st, .int .i64 co, .slice a1 l1 c1, .slice a2 l2 c2, .slice a l c] = W4 at hHeld e1 ⊢; have HWS := hide hWs; clear hWs))
        rw [if_pos (by rfl)]
        refine wp_load_mid 94 (.tmp 9) rfl (w1.heap.size + 1) 0 rfl [.int .i64 0, .int .i64 0] _ ?_ Tryz.underlying94 rfl ?_ ?_
        · exact hHeld.2.1
        · exact hi2
        refine hK.out _ _ ?_ (fun hHeld => ?_)
        · exact hHeld
        clear hK K
        (try go_frame)
        refine wpAnyH_ready (rs := [3]) (by kernel_rfl) (by simp) ?_
        refine AllReadyH.cons (o := { dst := none, op := Go.Op.store 94 (Go.Operand.tmp 7) (Go.Operand.tmp 66), type := 0, pos := "steps.go:252", after := #[{ on := 1, ground := Go.Ground.data }, { on := 2, ground := Go.Ground.chain }, { on := 0, ground := Go.Ground.phase }, { on := 1, ground := Go.Ground.phase }, { on := 2, ground := Go.Ground.phase }], guard := none }) (by rfl) (fun K hK => ?_) AllReadyH.nil
        first | (have h9 := HWS; clear h9) | (generalize hWs : World.setCells W3.drew w.heap.size 0 [.int .i64 kind, .int .i64 st, .int .i64 co, .slice a1 l1 c1, .slice a2 l2 c2, .slice a l c] = W4 at hHeld e1 ⊢; have HWS := hide hWs; clear hWs)
        rw [if_pos (by rfl)]
        have e2 := World.rangeAt_setCells_same W4 (w.heap.size + 1) 0 [.int .i64 0, .int .i64 0] hHeld.2.2.2
        refine wp_store_mid 94 (.tmp 7) (.tmp 66) rfl (w.heap.size + 1) 0 (List.toArray [.int .i64 0, .int .i64 0]) rfl rfl ?_ ?_ ?_ ?_
        · exact hHeld.2.2.2
        · exact hi2
        · exact all_oneCell_toArray (by simp [Value.oneCell'])
        refine hK.out _ _ ?_ (fun hHeld => ?_)
        · exact ⟨World.rangeAt_setCells_apart hHeld.1 _ _ _ (.inl (by omega)), World.rangeAt_setCells_apart hHeld.2.1 _ _ _ (.inl (by omega)), World.there_setCells hHeld.2.2.1 _ _ _, World.there_setCells hHeld.2.2.2 _ _ _⟩
        clear hK K
        (try go_frame)
        refine wpAnyH_done (by kernel_rfl) ?_ _
        generalize hWt : World.setCells W4 (w.heap.size + 1) 0 [.int .i64 0, .int .i64 0] = W5 at hHeld e2 ⊢
        have e1' : W5.rangeAt w.heap.size 0 [.int .i64 kind, .int .i64 st, .int .i64 co, .slice a1 l1 c1, .slice a2 l2 c2, .slice a l c] := by rw [← hWt]; exact World.rangeAt_setCells_apart e1 _ _ _ (.inl (by omega))
        have HWT := hide hWt
        clear hWt
        (try go_wp2_with fail)
        refine bodyPost_ret (v := .tuple #[.agg (List.toArray [.int .i64 kind, .int .i64 st, .int .i64 co, .slice a1 l1 c1, .slice a2 l2 c2, .slice a l c]), .agg (List.toArray [.int .i64 0, .int .i64 0])]) (results_agg2 rfl rfl rfl e1' e2 Tryz.underlying159 rfl hi1 Tryz.underlying94 rfl hi2) rfl ⟨a, l, c, rfl, ?_, ?_, HNIL.out⟩
        · rw [← HWT.out, ← HWS.out]
          refine owns_base (base := w.heap.size + 1 + 1) ?_ (by omega)
          refine owns_setCells (by omega) _ _ _ (owns_setCells (by omega) _ _ _ ?_)
          exact owns_later (w := w1) (w' := W3) (owns_base HO.out (by simp)) HB3.out
        · rw [← HWT.out, ← HWS.out]
          exact below_setCells (by omega) _ _ _ (below_setCells (by omega) _ _ _ (Below.drew (Below.next HB1.out HB3.out HB1.out.size)))
    · (try (have e1' := e1; clear e1'; generalize hWs : World.setCells W3.drew w.heap.size 0 [.int .i64 kind, .int .i64 st, .int .i64 co, .slice a1 l1 c1, .slice a2 l2 c2, .slice a l c] = W4 at hHeld e1 ⊢; have HWS := hide hWs; clear hWs))
      rw [if_pos (by rfl)]
      refine wp_load_mid 94 (.tmp 9) rfl (w1.heap.size + 1) 0 rfl [.int .i64 0, .int .i64 0] _ ?_ Tryz.underlying94 rfl ?_ ?_
      · exact hHeld.2.1
      · exact hi2
      refine hK.out _ _ ?_ (fun hHeld => ?_)
      · exact hHeld
      clear hK K
      (try go_frame)
      refine wpAnyH_ready (rs := [0]) (by kernel_rfl) (by simp) ?_
      refine AllReadyH.cons (o := { dst := some 65, op := Go.Op.load 159 (Go.Operand.tmp 8), type := 159, pos := "steps.go:252", after := #[], guard := none }) (by rfl) (fun K hK => ?_) AllReadyH.nil
      rw [if_pos (by rfl)]
      refine wp_load_mid 159 (.tmp 8) rfl w1.heap.size 0 rfl [.int .i64 kind, .int .i64 st, .int .i64 co, .slice a1 l1 c1, .slice a2 l2 c2, .slice a l c] _ ?_ Tryz.underlying159 rfl ?_ ?_
      · exact hHeld.1
      · exact hi1
      refine hK.out _ _ ?_ (fun hHeld => ?_)
      · exact hHeld
      clear hK K
      (try go_frame)
      refine wpAnyH_ready (rs := [2]) (by kernel_rfl) (by simp) ?_
      refine AllReadyH.cons (o := { dst := none, op := Go.Op.store 159 (Go.Operand.tmp 6) (Go.Operand.tmp 65), type := 0, pos := "steps.go:252", after := #[{ on := 0, ground := Go.Ground.data }, { on := 0, ground := Go.Ground.phase }, { on := 1, ground := Go.Ground.textOnly Go.Departure.lateStores }], guard := none }) (by rfl) (fun K hK => ?_) AllReadyH.nil
      rw [if_pos (by rfl)]
      have e1 := World.rangeAt_setCells_same _ w.heap.size 0 [.int .i64 kind, .int .i64 st, .int .i64 co, .slice a1 l1 c1, .slice a2 l2 c2, .slice a l c] hHeld.2.2.1
      refine wp_store_mid 159 (.tmp 6) (.tmp 65) rfl w.heap.size 0 (List.toArray [.int .i64 kind, .int .i64 st, .int .i64 co, .slice a1 l1 c1, .slice a2 l2 c2, .slice a l c]) rfl rfl ?_ ?_ ?_ ?_
      · exact hHeld.2.2.1
      · exact hi1
      · exact all_oneCell_toArray (by simp [Value.oneCell'])
      refine hK.out _ _ ?_ (fun hHeld => ?_)
      · exact ⟨World.rangeAt_setCells_apart hHeld.1 _ _ _ (.inl (by omega)), World.rangeAt_setCells_apart hHeld.2.1 _ _ _ (.inl (by omega)), World.there_setCells hHeld.2.2.1 _ _ _, World.there_setCells hHeld.2.2.2 _ _ _⟩
      clear hK K
      (try go_frame)
      refine wpAnyH_ready (rs := [3]) (by kernel_rfl) (by simp) ?_
      refine AllReadyH.cons (o := { dst := none, op := Go.Op.store 94 (Go.Operand.tmp 7) (Go.Operand.tmp 66), type := 0, pos := "steps.go:252", after := #[{ on := 1, ground := Go.Ground.data }, { on := 2, ground := Go.Ground.chain }, { on := 0, ground := Go.Ground.phase }, { on := 1, ground := Go.Ground.phase }, { on := 2, ground := Go.Ground.phase }], guard := none }) (by rfl) (fun K hK => ?_) AllReadyH.nil
      first | (have h9 := HWS; clear h9) | (generalize hWs : World.setCells W3.drew w.heap.size 0 [.int .i64 kind, .int .i64 st, .int .i64 co, .slice a1 l1 c1, .slice a2 l2 c2, .slice a l c] = W4 at hHeld e1 ⊢; have HWS := hide hWs; clear hWs)
      rw [if_pos (by rfl)]
      have e2 := World.rangeAt_setCells_same W4 (w.heap.size + 1) 0 [.int .i64 0, .int .i64 0] hHeld.2.2.2
      refine wp_store_mid 94 (.tmp 7) (.tmp 66) rfl (w.heap.size + 1) 0 (List.toArray [.int .i64 0, .int .i64 0]) rfl rfl ?_ ?_ ?_ ?_
      · exact hHeld.2.2.2
      · exact hi2
      · exact all_oneCell_toArray (by simp [Value.oneCell'])
      refine hK.out _ _ ?_ (fun hHeld => ?_)
      · exact ⟨World.rangeAt_setCells_apart hHeld.1 _ _ _ (.inl (by omega)), World.rangeAt_setCells_apart hHeld.2.1 _ _ _ (.inl (by omega)), World.there_setCells hHeld.2.2.1 _ _ _, World.there_setCells hHeld.2.2.2 _ _ _⟩
      clear hK K
      (try go_frame)
      refine wpAnyH_done (by kernel_rfl) ?_ _
      generalize hWt : World.setCells W4 (w.heap.size + 1) 0 [.int .i64 0, .int .i64 0] = W5 at hHeld e2 ⊢
      have e1' : W5.rangeAt w.heap.size 0 [.int .i64 kind, .int .i64 st, .int .i64 co, .slice a1 l1 c1, .slice a2 l2 c2, .slice a l c] := by rw [← hWt]; exact World.rangeAt_setCells_apart e1 _ _ _ (.inl (by omega))
      have HWT := hide hWt
      clear hWt
      (try go_wp2_with fail)
      refine bodyPost_ret (v := .tuple #[.agg (List.toArray [.int .i64 kind, .int .i64 st, .int .i64 co, .slice a1 l1 c1, .slice a2 l2 c2, .slice a l c]), .agg (List.toArray [.int .i64 0, .int .i64 0])]) (results_agg2 rfl rfl rfl e1' e2 Tryz.underlying159 rfl hi1 Tryz.underlying94 rfl hi2) rfl ⟨a, l, c, rfl, ?_, ?_, HNIL.out⟩
      · rw [← HWT.out, ← HWS.out]
        refine owns_base (base := w.heap.size + 1 + 1) ?_ (by omega)
        refine owns_setCells (by omega) _ _ _ (owns_setCells (by omega) _ _ _ ?_)
        exact owns_later (w := w1) (w' := W3) (owns_base HO.out (by simp)) HB3.out
      · rw [← HWT.out, ← HWS.out]
        exact below_setCells (by omega) _ _ _ (below_setCells (by omega) _ _ _ (Below.drew (Below.next HB1.out HB3.out HB1.out.size)))

end Go.Proofs.YtefjhnhdagolhaaGreat

namespace Go.Proofs.YtefjhnhdagolhaaGreat
open Go.RowKit
attribute [local go_sem ↓] Go.wp_at_zero Go.wp_at_succ

set_option maxHeartbeats 400000 in
theorem sorted_nil (w : World) : Calls Tryz.prog 115 #[.slice none 0 0] w fun e w' => e = .returned (.slice none 0 0) ∧ w' = w := by
  go_enter Tryz.func115, Tryz.ntmps115
  go_wp2
  go_loop [3] (fun s => s = .slice none 0 0) (fun _ => 0)
  case atStart => rfl
  case round =>
    subst hrel
    go_wp2
    go_ret
    exact ⟨rfl, rfl⟩

section
variable (kind st co : Int) (s1 s2 : Value) (b : Nat) (w : World)

set_option maxHeartbeats 800000 in
theorem tells_list (h2 : 2 ≤ kind) (h4 : kind ≤ 4) (hR : Row w b 159 [.int .i64 kind, .int .i64 st, .int .i64 co, s1, s2, .slice none 0 0]) :
    Calls Tryz.prog 89 #[.pointer (some ⟨b, 0, none⟩)] w fun e w' => e = .returned (.slice none 0 0) ∧ w' = w := by
  have c0 : w.cell? ⟨b, 0, none⟩ = some (.int .i64 kind) := hR.cell_of rfl
  have c5 : w.cell? ⟨b, 5, none⟩ = some (.slice none 0 0) := hR.cell_of rfl
  clear hR
  have hk : kind = 2 ∨ kind = 3 ∨ kind = 4 := by omega
  clear h2 h4
  rcases hk with rfl | rfl | rfl
  · go_enter Tryz.func89, Tryz.ntmps89
    go_wp2
    go_loop [3, 5] (fun s i => s = .slice none 0 0 ∧ i = .int .i64 (-1)) (fun _ _ => 0)
    case atStart => exact ⟨rfl, rfl⟩
    case round =>
      obtain ⟨rfl, rfl⟩ := hrel
      go_wp2
      go_ret
      exact ⟨rfl, rfl⟩
  · go_enter Tryz.func89, Tryz.ntmps89
    go_wp2
    go_loop [3, 6] (fun s i => s = .slice none 0 0 ∧ i = .int .i64 0) (fun _ _ => 0)
    case atStart => exact ⟨rfl, rfl⟩
    case round =>
      obtain ⟨rfl, rfl⟩ := hrel
      go_wp2
      go_ret
      exact ⟨rfl, rfl⟩
  · go_enter Tryz.func89, Tryz.ntmps89
    go_wp2_with fail
    refine (sorted_nil _).mono ?_
    rintro e w1 ⟨rfl, rfl⟩
    go_wp2_with fail
    go_ret
    exact ⟨rfl, rfl⟩

set_option maxHeartbeats 800000 in
theorem tells_num (g l : Nat) (hk : kind = 1 ∨ kind = 5) (hR : Row w b 159 [.int .i64 kind, .int .i64 st, .int .i64 co, s1, s2, .slice (some ⟨g, 0, none⟩) 1 l]) (hg : w.cell? ⟨g, 0, none⟩ = some (.int .i64 0)) :
    Calls Tryz.prog 89 #[.pointer (some ⟨b, 0, none⟩)] w fun e w' => ∃ v, e = .returned v ∧ w'.ownsRow w.heap.size 3 1 v 1 (ints [0]) ∧ Below w.heap.size w w' := by
  have c0 : w.cell? ⟨b, 0, none⟩ = some (.int .i64 kind) := hR.cell_of rfl
  have c5 : w.cell? ⟨b, 5, none⟩ = some (.slice (some ⟨g, 0, none⟩) 1 l) := hR.cell_of rfl
  have k2 : (kind == 2) = false := beq_eq_false_iff_ne.2 (by omega)
  have k4 : (kind == 4) = false := beq_eq_false_iff_ne.2 (by omega)
  obtain ⟨ti, hti, htz⟩ := Option.map_eq_some_iff.1 info_int
  simp only [Prod.mk.injEq] at htz
  obtain ⟨htz1, htz2, htz3⟩ := htz
  have HTI := hide hti
  have HT1 := hide htz1
  have HT2 := hide htz2
  have HT3 := hide htz3
  have HC5 := hide c5
  have HG := hide hg
  clear hti htz1 htz2 htz3 hR hk hg
  go_enter Tryz.func89, Tryz.ntmps89
  go_wp2
  clear c5
  go_loopw [3, 6] (fun s i w' => Below w.heap.size w w' ∧ ((s = .slice none 0 0 ∧ i = .int .i64 0) ∨ (i = .int .i64 1 ∧ w'.ownsRow w.heap.size 3 1 s 1 (ints [0])))) (fun _ i _ => 1 - (intOf i).toNat)
  case atStart => exact ⟨Below.refl _ _, .inl ⟨rfl, rfl⟩⟩
  case round =>
    obtain ⟨hb, ⟨rfl, rfl⟩ | ⟨rfl, ho⟩⟩ := hrel
    · have c5 : wr.cell? ⟨b, 5, none⟩ = some (.slice (some ⟨g, 0, none⟩) 1 l) := cell_later hb HC5.out
      have hg : wr.cell? ⟨g, 0, none⟩ = some (.int .i64 0) := cell_later hb HG.out
      have HBR := hide hb
      clear hb
      go_wp2_with (at_builtin; refine wpList_append_lies _ rfl (.tmp 47) (.tmp 55) 22 rfl w.heap.size 3 ti (.int .i64 0) 1 8 Tryz.underlying22 HTI.out HT1.out HT2.out HT3.out rfl (by decide) (.slice none 0 0) 0 [] rfl (World.ownsRow_nil _ _ _ _) ⟨wr.heap.size, 0, none⟩ 1 1 [.int .i64 0] rfl rfl ?_ (by simp [Value.oneCell']) (by decide) (by decide) (by decide) ?_ (wr.heap.size + 1) (by simp) ?_)
      · exact World.news_of_block (Row.new wr _ _)
      · have := HBR.out.size; simp; omega
      · intro g1 cap1 w4 hown hgr hat hlt4
        have hb4 : Below wr.heap.size wr w4 := (below_alloc wr _).grown hgr (by simp) (fun q hq => by simp [Value.ownBlock] at hq)
        have HO := hide hown
        have HB4 := hide (Below.next HBR.out hb4 HBR.out.size)
        clear hown hgr hat hb4 c5 hg
        go_wp2
        go_roundw
        case rel => exact ⟨HB4.out, .inr ⟨rfl, HO.out⟩⟩
        case measure => simp [intOf]
    · have HBR := hide hb
      have HO := hide ho
      clear hb ho
      go_wp2
      go_ret
      exact ⟨_, rfl, HO.out, HBR.out⟩

end

end Go.Proofs.YtefjhnhdagolhaaGreat

namespace Go.Proofs.YtefjhnhdagolhaaGreat
open Go.RowKit
attribute [local go_sem ↓] Go.wp_at_zero Go.wp_at_succ

theorem tells_any (kind st co : Int) (s1 s2 : Value) (b : Nat) (w w0 : World) (a : Option Addr) (l c : Nat) (h1 : 1 ≤ kind) (h5 : kind ≤ 5) (hR : Row w b 159 [.int .i64 kind, .int .i64 st, .int .i64 co, s1, s2, .slice a l c])
    (hO : w.ownsRow w0.heap.size 3 1 (.slice a l c) (holdsNew kind).length (ints (holdsNew kind))) (hnil : (holdsNew kind = [] → a = none ∧ l = 0 ∧ c = 0)) :
    Calls Tryz.prog 89 #[.pointer (some ⟨b, 0, none⟩)] w fun e w' => ∃ v, e = .returned v ∧ w'.ownsRow w.heap.size 3 1 v (holdsNew kind).length (ints (holdsNew kind)) ∧ Below w.heap.size w w' := by
  by_cases hk : kind = 1 ∨ kind = 5
  · have hh : holdsNew kind = [0] := by rw [holdsNew, if_pos hk]
    rw [hh] at hO ⊢
    obtain ⟨_, ⟨e, hn0⟩ | ⟨g, cap, cur, e, -, hg, -, -, hcs, htk⟩⟩ := hO
    · simp at hn0
    · simp only [Value.slice.injEq] at e
      obtain ⟨rfl, rfl, rfl⟩ := e
      refine (tells_num kind st co s1 s2 b w g _ hk hR ?_).mono ?_
      · rw [cell_of_row w g _ cur _ _ hg]
        have : cur.toList[0]? = some (.int .i64 0) := by
          have h0 : (cur.toList.take (([0] : List Int).length * 1))[0]? = some (.int .i64 0) := by rw [htk]; rfl
          rw [List.getElem?_take] at h0
          simpa using h0
        simpa using this
      · rintro e w' h; exact h
  · have hh : holdsNew kind = [] := by rw [holdsNew, if_neg hk]
    rw [hh] at hO ⊢
    obtain ⟨rfl, rfl, rfl⟩ := hnil hh
    refine (tells_list kind st co s1 s2 b w (by omega) (by omega) hR).mono ?_
    rintro e w' ⟨rfl, rfl⟩
    exact ⟨_, rfl, World.ownsRow_nil _ _ _ _, Below.refl _ _⟩

set_option maxRecDepth 20000 in
set_option maxHeartbeats 1000000 in
theorem refState_new {b n g gc : Nat} {bT : Nat → Nat} {kind cap st co : Int} {a1 : Option Addr} {l1 c1 : Nat} {a2 : Option Addr} {l2 c2 : Nat} (w : World) (hR : RefRd b n g gc bT kind cap st co (.slice a1 l1 c1) (.slice a2 l2 c2) w) (h1 : 1 ≤ kind) (h5 : kind ≤ 5) :
    Calls Tryz.prog 56 #[.pointer (some ⟨b, 0, none⟩)] w fun e w' => ∃ v, e = .returned v ∧ w'.ownsRow w.heap.size 3 1 v (holdsNew kind).length (ints (holdsNew kind)) ∧ Below w.heap.size w w' := by
  have HR := hide hR
  clear hR
  go_enter Tryz.func56, Tryz.ntmps56
  go_wp2_with fail
  refine (replay_new (-1) 0 w HR.out h1 h5).mono ?_
  rintro e w1 ⟨a, l, c, rfl, hO, hb1, hnil⟩
  have HO := hide hO
  have HB1 := hide hb1
  have HNIL := hide hnil
  clear hO hb1 hnil
  go_wp2_with fail
  refine (tells_any kind st co (.slice a1 l1 c1) (.slice a2 l2 c2) _ _ w a l c h1 h5 ((Row.new' rfl).alloc _) (owns_later HO.out (((Below.refl _ _).alloc (Nat.le_refl _) _).alloc (by simp) _)) HNIL.out).mono ?_
  rintro e w2 ⟨v, rfl, hO2, hb2⟩
  have HO2 := hide hO2
  have HB2 := hide hb2
  clear hO2 hb2
  go_wp2_with fail
  go_ret
  have hz := HB1.out.size
  refine ⟨v, rfl, owns_base HO2.out (by simp; omega), ?_⟩
  exact Below.next (Below.next HB1.out (((Below.refl _ _).alloc (Nat.le_refl _) _).alloc (by simp) _) hz) HB2.out (by simp; omega)

end Go.Proofs.YtefjhnhdagolhaaGreat
