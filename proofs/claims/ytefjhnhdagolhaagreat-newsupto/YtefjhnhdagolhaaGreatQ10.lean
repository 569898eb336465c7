import Derived.Test.YtefjhnhdagolhaaGreatQ00
import Derived.Test.YtefjhnhdagolhaaGreatQ01
import Derived.Test.YtefjhnhdagolhaaGreatQ03
import Derived.Test.YtefjhnhdagolhaaGreatQ05
import Derived.Test.YtefjhnhdagolhaaGreatQ07
import Derived.Test.YtefjhnhdagolhaaGreatQ09
namespace Go.Proofs.YtefjhnhdagolhaaGreat
open Go.RowKit
attribute [local go_sem ↓] Go.wp_at_zero Go.wp_at_succ
def Made (w : World) (kind : Int) (n : Nat) (cap st co : Int) (nx ou : List Int) (b : Nat) (w' : World) : Prop :=
  (kind = 1 ∧ int.ObjNew w n cap 140 (.agg #[]) b w') ∨ (kind = 2 ∧ list.ObjNew w n cap 143 (.agg #[]) b w') ∨ (kind = 3 ∧ row.ObjNew w n cap 147 (.agg #[]) b w') ∨
  (kind = 4 ∧ tree.ObjNew w n cap 150 (.agg #[]) b w') ∨
  (kind = 5 ∧ ∃ g1 k1 g2 k2, int.ObjNew w n cap 152 (.agg #[.int .i64 st, .int .i64 co, .slice (some ⟨g1, 0, none⟩) nx.length k1, .slice (some ⟨g2, 0, none⟩) ou.length k2]) b w' ∧
    w'.ownsRow w.heap.size 3 1 (.slice (some ⟨g1, 0, none⟩) nx.length k1) nx.length (ints nx) ∧ w'.ownsRow w.heap.size 3 1 (.slice (some ⟨g2, 0, none⟩) ou.length k2) ou.length (ints ou))
def TabMade (n : Nat) (cap st co : Int) (nx ou : List Int) (w : World) (b : Nat) (w' : World) : Prop :=
  ∃ w1 g1 k1 g2 k2, Below w.heap.size w w1 ∧ int.ObjNew w1 n cap 152 (.agg #[.int .i64 st, .int .i64 co, .slice (some ⟨g1, 0, none⟩) nx.length k1, .slice (some ⟨g2, 0, none⟩) ou.length k2]) b w' ∧
    w1.ownsRow w.heap.size 3 1 (.slice (some ⟨g1, 0, none⟩) nx.length k1) nx.length (ints nx) ∧ w1.ownsRow w.heap.size 3 1 (.slice (some ⟨g2, 0, none⟩) ou.length k2) ou.length (ints ou)
section
variable {w0 w1 : World} {n : Nat} {most : Int} {oT : TypeId} {ov : Value} {b : Nat} {w : World}
theorem int.ObjNew.from (h : int.ObjNew w1 n most oT ov b w) (hb : Below w0.heap.size w0 w1) : int.ObjNew w0 n most oT ov b w := let ⟨bN, h1, h2, h3⟩ := h; ⟨bN, h1, h2.from hb, Nat.le_trans hb.size h3⟩
theorem list.ObjNew.from (h : list.ObjNew w1 n most oT ov b w) (hb : Below w0.heap.size w0 w1) : list.ObjNew w0 n most oT ov b w := let ⟨bN, h1, h2, h3⟩ := h; ⟨bN, h1, h2.from hb, Nat.le_trans hb.size h3⟩
theorem row.ObjNew.from (h : row.ObjNew w1 n most oT ov b w) (hb : Below w0.heap.size w0 w1) : row.ObjNew w0 n most oT ov b w := let ⟨bN, h1, h2, h3⟩ := h; ⟨bN, h1, h2.from hb, Nat.le_trans hb.size h3⟩
theorem tree.ObjNew.from (h : tree.ObjNew w1 n most oT ov b w) (hb : Below w0.heap.size w0 w1) : tree.ObjNew w0 n most oT ov b w := let ⟨bN, h1, h2, h3⟩ := h; ⟨bN, h1, h2.from hb, Nat.le_trans hb.size h3⟩
theorem int.ObjNew.below (h : int.ObjNew w0 n most oT ov b w) : Below w0.heap.size w0 w := let ⟨_, _, h2, _⟩ := h; h2.below.1
end
theorem TabMade.made {n : Nat} {cap st co : Int} {nx ou : List Int} {w : World} {b : Nat} {w' : World} (h : TabMade n cap st co nx ou w b w') : Made w 5 n cap st co nx ou b w' :=
  let ⟨_, g1, k1, g2, k2, hb, ho, h1, h2⟩ := h
  .inr (.inr (.inr (.inr ⟨rfl, g1, k1, g2, k2, ho.from hb, owns_later h1 ho.below, owns_later h2 ho.below⟩)))
theorem cells7 {w' : World} {N : Nat} {t : TypeId} {a b c d e f g : Value} (h : Row w' N t [a, b, c, d, e, f, g]) : Row w' N t [a, b, c, d, e, f, g] ∧ w'.cell? ⟨N, 0, none⟩ = some a ∧ w'.cell? ⟨N, 1, none⟩ = some b ∧ w'.cell? ⟨N, 2, none⟩ = some c ∧
    w'.cell? ⟨N, 3, none⟩ = some d ∧ w'.cell? ⟨N, 4, none⟩ = some e ∧ w'.cell? ⟨N, 5, none⟩ = some f ∧ w'.cell? ⟨N, 6, none⟩ = some g :=
  ⟨h, h.cell_of rfl, h.cell_of rfl, h.cell_of rfl, h.cell_of rfl, h.cell_of rfl, h.cell_of rfl, h.cell_of rfl⟩
section
variable (n : Nat) (cap st co : Int) (nx ou : List Int) (vn vo : Value) (w : World)
set_option maxHeartbeats 1000000 in
theorem new_err (hn : Sl w vn (ints nx)) (ho : Sl w vo (ints ou)) (kind th : Int) (h : cfgErr kind th cap st co nx ou ≠ 0) :
    Calls Tryz.prog 42 #[.agg #[.int .i64 kind, .int .i64 th, .int .i64 cap, .int .i64 st, .int .i64 co, vn, vo]] w fun e w' => e = .returned (.tuple #[.pointer none, .int .i64 (cfgErr kind th cap st co nx ou)]) ∧ Below w.heap.size w w' := by
  have hc := checkConfig_any kind th cap st co nx ou vn vo (w.alloc (.cells #[.int .i64 kind, .int .i64 th, .int .i64 cap, .int .i64 st, .int .i64 co, vn, vo] 26)) (hn.below (below_alloc _ _)) (ho.below (below_alloc _ _))
  generalize hx : cfgErr kind th cap st co nx ou = x at *
  have hx0 : (x != 0) = true := by rw [bne_iff_ne]; exact h
  have HC := hide hc
  clear hc hx h hn ho
  go_enter Tryz.func42, Tryz.ntmps42
  go_wp2_with fail
  refine HC.out.mono ?_
  rintro e w1 ⟨rfl, hb1⟩
  go_wp2_with fail
  go_ret2
  exact ⟨rfl, Below.next (below_alloc _ _) hb1 (by simp)⟩
set_option maxHeartbeats 1000000 in
theorem new_one (hn : Sl w vn (ints nx)) (ho : Sl w vo (ints ou)) (h1 : 1 ≤ n) (h2 : n ≤ 64) (h3 : 0 ≤ cap) (h4 : cap ≤ 64) :
    Calls Tryz.prog 42 #[.agg #[.int .i64 1, .int .i64 (n : Int), .int .i64 cap, .int .i64 st, .int .i64 co, vn, vo]] w fun e w' => ∃ b, e = .returned (.tuple #[.pointer (some ⟨b, 0, none⟩), .int .i64 0]) ∧ int.ObjNew w n cap 140 (.agg #[]) b w' := by
  have hc := checkConfig_any 1 n cap st co nx ou vn vo (w.alloc (.cells #[.int .i64 1, .int .i64 (n : Int), .int .i64 cap, .int .i64 st, .int .i64 co, vn, vo] 26)) (hn.below (below_alloc _ _)) (ho.below (below_alloc _ _))
  rw [cfgErr_zero (by omega) (by omega)] at hc
  have HC := hide hc
  have HOB := hide (fun W => int.objectOf_any 140 (.agg #[]) 181 (.agg #[]) counterFirst_m counterFirst_c counterFirst 1 n cap st co vn vo W h1 h2)
  clear hc hn ho
  go_enter Tryz.func42, Tryz.ntmps42
  go_wp2_with fail
  refine HC.out.mono ?_
  rintro e w1 ⟨rfl, hb1⟩
  have HB1 := hide (Below.next (below_alloc w _) hb1 (by simp))
  obtain ⟨hcc, -⟩ := bcell hb1
  clear hb1
  go_wp2_with fail
  refine (HOB.out w1).mono ?_
  rintro e w2 ⟨b, rfl, hob⟩
  have HX := hide (hob.from HB1.out)
  clear hob
  go_wp2_with fail
  go_ret2
  exact ⟨b, rfl, HX.out⟩
set_option maxHeartbeats 1000000 in
theorem new_two (hn : Sl w vn (ints nx)) (ho : Sl w vo (ints ou)) (h1 : 1 ≤ n) (h2 : n ≤ 64) (h3 : 0 ≤ cap) (h4 : cap ≤ 64) :
    Calls Tryz.prog 42 #[.agg #[.int .i64 2, .int .i64 (n : Int), .int .i64 cap, .int .i64 st, .int .i64 co, vn, vo]] w fun e w' => ∃ b, e = .returned (.tuple #[.pointer (some ⟨b, 0, none⟩), .int .i64 0]) ∧ list.ObjNew w n cap 143 (.agg #[]) b w' := by
  have hc := checkConfig_any 2 n cap st co nx ou vn vo (w.alloc (.cells #[.int .i64 2, .int .i64 (n : Int), .int .i64 cap, .int .i64 st, .int .i64 co, vn, vo] 26)) (hn.below (below_alloc _ _)) (ho.below (below_alloc _ _))
  rw [cfgErr_zero (by omega) (by omega)] at hc
  have HC := hide hc
  have HOB := hide (fun W => list.objectOf_any 143 (.agg #[]) 183 (.agg #[]) stackFirst_m stackFirst_c stackFirst 2 n cap st co vn vo W h1 h2)
  clear hc hn ho
  go_enter Tryz.func42, Tryz.ntmps42
  go_wp2_with fail
  refine HC.out.mono ?_
  rintro e w1 ⟨rfl, hb1⟩
  have HB1 := hide (Below.next (below_alloc w _) hb1 (by simp))
  obtain ⟨hcc, -⟩ := bcell hb1
  clear hb1
  go_wp2_with fail
  refine (HOB.out w1).mono ?_
  rintro e w2 ⟨b, rfl, hob⟩
  have HX := hide (hob.from HB1.out)
  clear hob
  go_wp2_with fail
  go_ret2
  exact ⟨b, rfl, HX.out⟩
set_option maxHeartbeats 1000000 in
theorem new_three (hn : Sl w vn (ints nx)) (ho : Sl w vo (ints ou)) (h1 : 1 ≤ n) (h2 : n ≤ 64) (h3 : 0 ≤ cap) (h4 : cap ≤ 64) :
    Calls Tryz.prog 42 #[.agg #[.int .i64 3, .int .i64 (n : Int), .int .i64 cap, .int .i64 st, .int .i64 co, vn, vo]] w fun e w' => ∃ b, e = .returned (.tuple #[.pointer (some ⟨b, 0, none⟩), .int .i64 0]) ∧ row.ObjNew w n cap 147 (.agg #[]) b w' := by
  have hc := checkConfig_any 3 n cap st co nx ou vn vo (w.alloc (.cells #[.int .i64 3, .int .i64 (n : Int), .int .i64 cap, .int .i64 st, .int .i64 co, vn, vo] 26)) (hn.below (below_alloc _ _)) (ho.below (below_alloc _ _))
  rw [cfgErr_zero (by omega) (by omega)] at hc
  have HC := hide hc
  have HOB := hide (fun W => row.objectOf_any 147 (.agg #[]) 185 (.agg #[]) queueFirst_m queueFirst_c queueFirst 3 n cap st co vn vo W h1 h2)
  clear hc hn ho
  go_enter Tryz.func42, Tryz.ntmps42
  go_wp2_with fail
  refine HC.out.mono ?_
  rintro e w1 ⟨rfl, hb1⟩
  have HB1 := hide (Below.next (below_alloc w _) hb1 (by simp))
  obtain ⟨hcc, -⟩ := bcell hb1
  clear hb1
  go_wp2_with fail
  refine (HOB.out w1).mono ?_
  rintro e w2 ⟨b, rfl, hob⟩
  have HX := hide (hob.from HB1.out)
  clear hob
  go_wp2_with fail
  go_ret2
  exact ⟨b, rfl, HX.out⟩
set_option maxHeartbeats 1000000 in
theorem new_four (hn : Sl w vn (ints nx)) (ho : Sl w vo (ints ou)) (h1 : 1 ≤ n) (h2 : n ≤ 64) (h3 : 0 ≤ cap) (h4 : cap ≤ 64) :
    Calls Tryz.prog 42 #[.agg #[.int .i64 4, .int .i64 (n : Int), .int .i64 cap, .int .i64 st, .int .i64 co, vn, vo]] w fun e w' => ∃ b, e = .returned (.tuple #[.pointer (some ⟨b, 0, none⟩), .int .i64 0]) ∧ tree.ObjNew w n cap 150 (.agg #[]) b w' := by
  have hc := checkConfig_any 4 n cap st co nx ou vn vo (w.alloc (.cells #[.int .i64 4, .int .i64 (n : Int), .int .i64 cap, .int .i64 st, .int .i64 co, vn, vo] 26)) (hn.below (below_alloc _ _)) (ho.below (below_alloc _ _))
  rw [cfgErr_zero (by omega) (by omega)] at hc
  have HC := hide hc
  have HOB := hide (fun W => tree.objectOf_any 150 (.agg #[]) 187 (.agg #[]) mapFirst_m mapFirst_c mapFirst 4 n cap st co vn vo W h1 h2)
  clear hc hn ho
  go_enter Tryz.func42, Tryz.ntmps42
  go_wp2_with fail
  refine HC.out.mono ?_
  rintro e w1 ⟨rfl, hb1⟩
  have HB1 := hide (Below.next (below_alloc w _) hb1 (by simp))
  obtain ⟨hcc, -⟩ := bcell hb1
  clear hb1
  go_wp2_with fail
  refine (HOB.out w1).mono ?_
  rintro e w2 ⟨b, rfl, hob⟩
  have HX := hide (hob.from HB1.out)
  clear hob
  go_wp2_with fail
  go_ret2
  exact ⟨b, rfl, HX.out⟩
set_option maxRecDepth 20000 in
set_option maxHeartbeats 2000000 in
theorem new_five (hn : Sl w vn (ints nx)) (ho : Sl w vo (ints ou)) (h1 : 1 ≤ n) (h2 : n ≤ 64) (h3 : 0 ≤ cap) (h4 : cap ≤ 64) (ht : tableOk st co nx ou = true) (n1 : nx.length ≤ 1048576) (n2 : 0 < nx.length) (n3 : ou.length ≤ 1048576) (n4 : 0 < ou.length) :
    Calls Tryz.prog 42 #[.agg #[.int .i64 5, .int .i64 (n : Int), .int .i64 cap, .int .i64 st, .int .i64 co, vn, vo]] w fun e w' => ∃ b, e = .returned (.tuple #[.pointer (some ⟨b, 0, none⟩), .int .i64 0]) ∧ TabMade n cap st co nx ou w b w' := by
  have hc := checkConfig_any 5 n cap st co nx ou vn vo (w.alloc (.cells #[.int .i64 5, .int .i64 (n : Int), .int .i64 cap, .int .i64 st, .int .i64 co, vn, vo] 26)) (hn.below (below_alloc _ _)) (ho.below (below_alloc _ _))
  rw [cfgErr_zero5 (by omega) rfl ht] at hc
  have HC := hide hc
  have HOB := hide (fun W u1 u2 => int.objectOf_any 152 (.agg #[.int .i64 st, .int .i64 co, u1, u2]) 188 (.agg #[.int .i64 st, .int .i64 co, u1, u2]) (tableFirst_m _ _ _ _) (tableFirst_c _ _ _ _) (tableFirst _ _ _ _) 5 n cap st co vn vo W h1 h2)
  have HN := hide hn
  have HO := hide ho
  clear hc hn ho ht
  go_enter Tryz.func42, Tryz.ntmps42
  go_wp2_with fail
  refine HC.out.mono ?_
  rintro e w1 ⟨rfl, hb1⟩
  have hB : Below w.heap.size w w1 := Below.next (below_alloc w _) hb1 (by simp)
  have hR : Row w1 w.heap.size 26 [.int .i64 5, .int .i64 (n : Int), .int .i64 cap, .int .i64 st, .int .i64 co, vn, vo] := (Row.new' rfl).old hb1
  obtain ⟨-, q0, q1, q2, q3, q4, q5, q6⟩ := cells7 hR
  have HB1 := hide hB
  have HR := hide hR
  clear hb1 hB hR
  go_wp2_with fail
  refine rg0 (S := (fun w' => Row w' w.heap.size 26 [.int .i64 5, .int .i64 (n : Int), .int .i64 cap, .int .i64 st, .int .i64 co, vn, vo] ∧ w'.cell? ⟨w.heap.size, 0, none⟩ = some (.int .i64 5) ∧ w'.cell? ⟨w.heap.size, 1, none⟩ = some (.int .i64 (n : Int)) ∧ w'.cell? ⟨w.heap.size, 2, none⟩ = some (.int .i64 cap) ∧ w'.cell? ⟨w.heap.size, 3, none⟩ = some (.int .i64 st) ∧ w'.cell? ⟨w.heap.size, 4, none⟩ = some (.int .i64 co) ∧ w'.cell? ⟨w.heap.size, 5, none⟩ = some vn ∧ w'.cell? ⟨w.heap.size, 6, none⟩ = some vo)) 8 rfl (by kernel_rfl) ?_ (fun hHeld => ?_)
  · exact cells7 HR.out
  iterate 2 (refine tk 7 (by rfl) (by kernel_rfl) (by exact fun _ _ _ h => h) (.inl ⟨by rfl, fun w hS => by (try dsimp only at hS); go_simp; (try with_reducible rfl)⟩) (by assumption) ?_; try go_frame)
  iterate 1 (refine tk 9 (by rfl) (by kernel_rfl) (by exact fun _ _ _ h => h) (.inl ⟨by rfl, fun w hS => by (try dsimp only at hS); go_simp; (try with_reducible rfl)⟩) (by assumption) ?_; try go_frame)
  refine rd1 2 (by rfl) (by kernel_rfl) (fun K hK => ?_)
  go_simp
  refine (newTable_any st co nx ou vn vo _ (HN.out.below HB1.out.drew) (HO.out.below HB1.out.drew) n1 n2 n3 n4).mono ?_
  rintro e w2 ⟨g1, k1, g2, k2, rfl, ho1, ho2, hb2⟩
  have HO1 := hide ho1
  have HO2 := hide ho2
  clear ho1 ho2
  go_wp2_with fail
  refine hK.out _ _ ?_ (fun hHeld => ?_)
  · exact cells7 (hHeld.1.old hb2)
  clear hK K
  (try go_frame)
  iterate 1 (refine tk 6 (by rfl) (by kernel_rfl) (by exact fun _ _ _ h => h) (.inl ⟨by rfl, fun w hS => by (try dsimp only at hS); go_simp; (try with_reducible rfl)⟩) (by assumption) ?_; try go_frame)
  refine rd1 5 (by rfl) (by kernel_rfl) (fun K hK => ?_)
  go_simp
  refine (HOB.out _ _ _).mono ?_
  rintro e w3 ⟨b, rfl, hob⟩
  have HX := hide hob
  have HB3 := hide hob.below
  clear hob
  go_wp2_with fail
  refine hK.out _ _ ?_ (fun hHeld => ?_)
  · exact cells7 (hHeld.1.old HB3.out)
  clear hK K
  (try go_frame)
  iterate 2 (refine tk 7 (by rfl) (by kernel_rfl) (by exact fun _ _ _ h => h) (.inl ⟨by rfl, fun w hS => by (try dsimp only at hS); go_simp; (try with_reducible rfl)⟩) (by assumption) ?_; try go_frame)
  refine wpAnyH_done (by kernel_rfl) ?_ _
  (try go_wp2_with fail)
  go_ret2
  have hz1 := HB1.out.size
  have hb12 : Below w.heap.size w w2 := Below.next HB1.out (Below.undrew hb2) hz1
  exact ⟨b, rfl, w2, g1, k1, g2, k2, hb12, HX.out, owns_base HO1.out hz1, owns_base HO2.out hz1⟩
end
end Go.Proofs.YtefjhnhdagolhaaGreat
namespace Go.Proofs.YtefjhnhdagolhaaGreat
open Go.RowKit
def Keeps (base : Nat) (w w' : World) : Prop := ∀ k, base ≤ k → k < w.heap.size → w'.heap[k]? = w.heap[k]?
theorem Keeps.row {base : Nat} {w w' : World} (h : Keeps base w w') {g : Nat} {t : TypeId} {xs : List Value} (hr : Row w g t xs) (hg : base ≤ g) : Row w' g t xs := hr.of_block (h g hg hr.lt)
theorem Keeps.next {base : Nat} {w w1 w2 : World} (h : Keeps base w w1) (hz : w.heap.size ≤ w1.heap.size) (hb : Below w1.heap.size w1 w2) : Keeps base w w2 := fun k h1 h2 => (hb.block k (by omega)).trans (h k h1 h2)
theorem Keeps.of_below {base : Nat} {w w' : World} (hb : Below w.heap.size w w') : Keeps base w w' := fun k _ h2 => hb.block k h2
theorem Keeps.set {base : Nat} {w w' : World} (h : Keeps base w w') {a : Addr} (ha : a.block < base) (v : Value) : Keeps base w (w'.setCell a v) := fun k h1 h2 => (Below.heap_setCell w' a v k (by omega)).trans (h k h1 h2)
end Go.Proofs.YtefjhnhdagolhaaGreat
namespace Go.Proofs.YtefjhnhdagolhaaGreat
open Go.RowKit
set_option maxHeartbeats 400000 in
theorem counterTell (x : Int) (w : World) : Calls Tryz.prog 362 #[.agg #[], .int .i64 x] w fun e w' => ∃ v, e = .returned v ∧ w'.ownsRow w.heap.size 3 1 v 1 (ints [x]) ∧ Below w.heap.size w w' := by
  go_enter Tryz.func362, Tryz.ntmps362
  go_wp2
  go_ret
  refine ⟨_, rfl, ⟨rfl, .inr ⟨w.heap.size + 1, 1, #[.int .i64 x], rfl, by omega, ?_, by omega, by decide, rfl, rfl⟩⟩, (by repeat (first | exact Below.refl _ _ | refine Below.drewN ?_ _ | refine Below.drew ?_ | refine Below.alloc ?_ (by first | (simp; done) | (simp; omega)) _ | refine Below.next ?_ (by assumption) (by first | (simp; done) | (simp; omega))))⟩
  exact Row.new' (xs := [.int .i64 x]) (by simp)
set_option maxHeartbeats 400000 in
theorem tableTell (a b c d : Value) (x : Int) (w : World) : Calls Tryz.prog 388 #[.agg #[a, b, c, d], .int .i64 x] w fun e w' => ∃ v, e = .returned v ∧ w'.ownsRow w.heap.size 3 1 v 1 (ints [x]) ∧ Below w.heap.size w w' := by
  go_enter Tryz.func388, Tryz.ntmps388
  go_wp2
  go_ret
  refine ⟨_, rfl, ⟨rfl, .inr ⟨w.heap.size + 1, 1, #[.int .i64 x], rfl, by omega, ?_, by omega, by decide, rfl, rfl⟩⟩, (by repeat (first | exact Below.refl _ _ | refine Below.drewN ?_ _ | refine Below.drew ?_ | refine Below.alloc ?_ (by first | (simp; done) | (simp; omega)) _ | refine Below.next ?_ (by assumption) (by first | (simp; done) | (simp; omega))))⟩
  exact Row.new' (xs := [.int .i64 x]) (by simp)
set_option maxHeartbeats 400000 in
theorem sizeNil (w : World) : Calls Tryz.prog 182 #[.pointer none] w fun e w' => e = .returned (.int .i64 0) ∧ w' = w := by
  go_enter Tryz.func182, Tryz.ntmps182
  go_wp2
  go_ret
  exact ⟨rfl, rfl⟩
set_option maxHeartbeats 400000 in
theorem valuesNil (w : World) : Calls Tryz.prog 369 #[.pointer none] w fun e w' => e = .returned (.slice (some ⟨w.heap.size, 0, none⟩) 0 0) ∧ w' = w.alloc (.cells #[] 3) := by
  have hmk : ∀ w, (Instr.makeSlice 22 (.int .i64 0) (.int .i64 0)).run Tryz.prog w = .ok (.slice (some ⟨w.heap.size, 0, none⟩) 0 0) (w.alloc (.cells #[] 3)) := fun _ => by kernel_rfl
  go_enter Tryz.func369, Tryz.ntmps369
  go_wp2_with fail
  refine (sizeNil _).mono ?_
  rintro e w1 ⟨rfl, rfl⟩
  go_wp2_with fail
  go_loop [0, 3] (fun p v => p = .pointer none ∧ v = .slice (some ⟨w1.heap.size, 0, none⟩) 0 0) (fun _ _ => 0)
  case atStart => exact ⟨rfl, rfl⟩
  case round =>
    obtain ⟨rfl, rfl⟩ := hrel
    go_wp2
    go_ret
    exact ⟨rfl, rfl⟩
set_option maxHeartbeats 400000 in
theorem stackTell (w : World) : Calls Tryz.prog 366 #[.agg #[], .pointer none] w fun e w' => ∃ v, e = .returned v ∧ w'.ownsRow w.heap.size 3 1 v 0 (ints []) ∧ Below w.heap.size w w' := by
  go_enter Tryz.func366, Tryz.ntmps366
  go_wp2_with fail
  refine (valuesNil _).mono ?_
  rintro e w1 ⟨rfl, hw1⟩
  have H1 := hide hw1
  clear hw1
  go_wp2_with fail
  go_ret
  refine ⟨_, rfl, ⟨rfl, .inr ⟨w.heap.size + 1, 0, #[], rfl, by omega, ?_, Nat.le_refl _, Nat.zero_le _, rfl, rfl⟩⟩, ?_⟩
  · rw [H1.out]; exact Row.new' (xs := []) (by simp)
  · rw [H1.out]; exact (by repeat (first | exact Below.refl _ _ | refine Below.drewN ?_ _ | refine Below.drew ?_ | refine Below.alloc ?_ (by first | (simp; done) | (simp; omega)) _ | refine Below.next ?_ (by assumption) (by first | (simp; done) | (simp; omega))))
set_option maxHeartbeats 400000 in
theorem listedNil (v : Value) (w : World) : Calls Tryz.prog 381 #[.pointer none, v] w fun e w' => e = .returned v ∧ w' = w := by
  go_enter Tryz.func381, Tryz.ntmps381
  go_wp2
  go_ret
  exact ⟨rfl, rfl⟩
set_option maxHeartbeats 400000 in
theorem mapTell (w : World) : Calls Tryz.prog 376 #[.agg #[], .pointer none] w fun e w' => ∃ v, e = .returned v ∧ w'.ownsRow w.heap.size 3 1 v 0 (ints []) ∧ Below w.heap.size w w' := by
  go_enter Tryz.func376, Tryz.ntmps376
  go_wp2_with fail
  refine (listedNil _ _).mono ?_
  rintro e w1 ⟨rfl, rfl⟩
  go_wp2_with fail
  go_ret
  exact ⟨_, rfl, World.ownsRow_nil _ _ _ _, (by repeat (first | exact Below.refl _ _ | assumption | refine Below.drewN ?_ _ | refine Below.alloc ?_ (by simp) _))⟩
set_option maxHeartbeats 400000 in
theorem reversedNil (w : World) : Calls Tryz.prog 372 #[.pointer none] w fun e w' => e = .returned (.pointer none) ∧ w' = w := by
  go_enter Tryz.func372, Tryz.ntmps372
  go_wp2
  go_loop [0, 3] (fun p v => p = .pointer none ∧ v = .pointer none) (fun _ _ => 0)
  case atStart => exact ⟨rfl, rfl⟩
  case round =>
    obtain ⟨rfl, rfl⟩ := hrel
    go_wp2
    go_ret
    exact ⟨rfl, rfl⟩
set_option maxHeartbeats 400000 in
theorem growNil (w : World) : Calls Tryz.prog 374 #[.slice none 0 0, .int .i64 0] w fun e w' => e = .returned (.slice none 0 0) ∧ w' = w := by
  go_enter Tryz.func374, Tryz.ntmps374
  go_wp2
  go_ret
  exact ⟨rfl, rfl⟩
theorem counterTell_m (w : World) : (method 553 140 (.agg #[]) "Tell").run Tryz.prog w = .ok (362, .agg #[]) w := by kernel_rfl
theorem stackTell_m (w : World) : (method 553 143 (.agg #[]) "Tell").run Tryz.prog w = .ok (366, .agg #[]) w := by kernel_rfl
theorem queueTell_m (w : World) : (method 553 147 (.agg #[]) "Tell").run Tryz.prog w = .ok (371, .agg #[]) w := by kernel_rfl
theorem mapTell_m (w : World) : (method 553 150 (.agg #[]) "Tell").run Tryz.prog w = .ok (376, .agg #[]) w := by kernel_rfl
theorem tableTell_m (a b c d : Value) (w : World) : (method 553 152 (.agg #[a, b, c, d]) "Tell").run Tryz.prog w = .ok (388, .agg #[a, b, c, d]) w := by kernel_rfl
theorem counterTell_c (s : Value) (w : World) : (callFunc 362 #[.agg #[], s]).run Tryz.prog w = .ok (.enter 362 #[.agg #[], s]) w := by kernel_rfl
theorem stackTell_c (s : Value) (w : World) : (callFunc 366 #[.agg #[], s]).run Tryz.prog w = .ok (.enter 366 #[.agg #[], s]) w := by kernel_rfl
theorem queueTell_c (s : Value) (w : World) : (callFunc 371 #[.agg #[], s]).run Tryz.prog w = .ok (.enter 371 #[.agg #[], s]) w := by kernel_rfl
theorem mapTell_c (s : Value) (w : World) : (callFunc 376 #[.agg #[], s]).run Tryz.prog w = .ok (.enter 376 #[.agg #[], s]) w := by kernel_rfl
theorem tableTell_c (a b c d s : Value) (w : World) : (callFunc 388 #[.agg #[a, b, c, d], s]).run Tryz.prog w = .ok (.enter 388 #[.agg #[a, b, c, d], s]) w := by kernel_rfl
end Go.Proofs.YtefjhnhdagolhaaGreat
namespace Go.Proofs.YtefjhnhdagolhaaGreat
open Go.RowKit
attribute [local go_sem ↓] Go.wp_at_zero Go.wp_at_succ
set_option maxRecDepth 20000 in
set_option maxHeartbeats 1000000 in
theorem concatNil (g : Nat) (a1 a2 : Addr) (c1 c2 : Nat) (w : World) (h0 : w.cell? ⟨g, 0, none⟩ = some (.slice (some a1) 0 c1)) (h1 : w.cell? ⟨g, 1, none⟩ = some (.slice (some a2) 0 c2)) :
    Calls Tryz.prog 373 #[.slice (some ⟨g, 0, none⟩) 2 2] w fun e w' => e = .returned (.slice none 0 0) ∧ w' = w := by
  have hc : ∀ k : Nat, k < 2 → ∃ a c, w.cell? ⟨g, k, none⟩ = some (.slice (some a) 0 c) := fun k hk => by
    have : k = 0 ∨ k = 1 := by omega
    rcases this with rfl | rfl
    · exact ⟨_, _, h0⟩
    · exact ⟨_, _, h1⟩
  have HC := hide hc
  clear hc h0 h1
  have hpu : ∀ W : World, Sem.run Tryz.prog (pure #[] : Sem (Array Value)) W = .ok #[] W := fun _ => rfl
  go_enter Tryz.func373, Tryz.ntmps373
  go_wp2
  go_loop [3, 11] (fun s i => ∃ k : Nat, k ≤ 2 ∧ s = .int .i64 0 ∧ i = .int .i64 (k : Int)) (fun _ i => 2 - (intOf i).toNat)
  case atStart => exact ⟨0, by omega, rfl, rfl⟩
  case round =>
    obtain ⟨k, hk, rfl, rfl⟩ := hrel
    by_cases hlt : k < 2
    · obtain ⟨a, c, hcell⟩ := HC.out k hlt
      have hlt' : (k : Int) < 2 := by omega
      have hk0 : (0 : Int) ≤ (k : Int) := by omega
      go_wp2
      go_round
      case rel => exact ⟨k + 1, by omega, rfl, by go_num⟩
      case measure => simp [intOf]; omega
    · have hlt' : ¬ (k : Int) < 2 := by omega
      go_wp2_with fail
      refine (growNil _).mono ?_
      rintro e w1 ⟨rfl, rfl⟩
      go_wp2_with fail
      go_loop [6, 27] (fun s i => ∃ k : Nat, k ≤ 2 ∧ s = .slice none 0 0 ∧ i = .int .i64 (k : Int)) (fun _ i => 2 - (intOf i).toNat)
      case atStart => exact ⟨0, by omega, rfl, rfl⟩
      case round =>
        obtain ⟨k, hk, rfl, rfl⟩ := hrel
        by_cases hlt : k < 2
        · obtain ⟨a, c, hcell⟩ := HC.out k hlt
          have hlt' : (k : Int) < 2 := by omega
          have hk0 : (0 : Int) ≤ (k : Int) := by omega
          go_wp2
          go_round
          case rel => exact ⟨k + 1, by omega, rfl, by go_num⟩
          case measure => simp [intOf]; omega
        · have hlt' : ¬ (k : Int) < 2 := by omega
          go_wp2
          go_ret
          exact ⟨rfl, rfl⟩
set_option maxRecDepth 20000 in
set_option maxHeartbeats 1000000 in
theorem queueTell (w : World) : Calls Tryz.prog 371 #[.agg #[], .agg #[.pointer none, .pointer none]] w fun e w' => ∃ v, e = .returned v ∧ w'.ownsRow w.heap.size 3 1 v 0 (ints []) ∧ Below w.heap.size w w' := by
  go_enter Tryz.func371, Tryz.ntmps371
  go_wp2
  generalize hW0 : World.alloc (World.alloc w _) _ = W0
  have hb0 : Below w.heap.size w W0 := by rw [← hW0]; exact ((Below.refl _ _).alloc (Nat.le_refl _) _).alloc (by simp) _
  have hN : Row W0 (w.heap.size + 1) 146 [.pointer none, .pointer none] := by rw [← hW0]; exact Row.new' (by simp)
  have q0 : W0.cell? ⟨w.heap.size + 1, 0, none⟩ = some (.pointer none) := hN.cell_of rfl
  have q1 : W0.cell? ⟨w.heap.size + 1, 1, none⟩ = some (.pointer none) := hN.cell_of rfl
  have HB0 := hide hb0
  clear hW0 hN hb0
  refine rg0 (S := (fun w' => w'.cell? ⟨w.heap.size + 1, 0, none⟩ = some (.pointer none) ∧ w'.cell? ⟨w.heap.size + 1, 1, none⟩ = some (.pointer none) ∧ Below w.heap.size w w')) 10 rfl (by kernel_rfl) ?_ (fun hHeld => ?_)
  · exact ⟨q0, q1, HB0.out.drew⟩
  iterate 2 (refine tk 9 (by rfl) (by kernel_rfl) (by exact fun _ _ _ h => h) (.inl ⟨by rfl, fun w hS => by (try dsimp only at hS); go_simp; (try with_reducible rfl)⟩) (by assumption) ?_; try go_frame)
  iterate 2 (refine tk 10 (by rfl) (by kernel_rfl) (by exact fun _ _ _ h => h) (.inl ⟨by rfl, fun w hS => by (try dsimp only at hS); go_simp; (try with_reducible rfl)⟩) (by assumption) ?_; try go_frame)
  refine rd1 2 (by rfl) (by kernel_rfl) (fun K hK => ?_)
  go_simp
  refine (valuesNil _).mono ?_
  rintro e w2 ⟨rfl, hw2⟩
  have hb2 := hw2 ▸ below_alloc _ _
  clear hw2
  go_wp2_with fail
  refine hK.out _ _ ?_ (fun hHeld => ?_)
  · exact ⟨cell_later hb2 hHeld.1, cell_later hb2 hHeld.2.1, Below.next hHeld.2.2 hb2 hHeld.2.2.size⟩
  clear hK K
  (try go_frame)
  refine rd1 5 (by rfl) (by kernel_rfl) (fun K hK => ?_)
  go_simp
  refine (reversedNil _).mono ?_
  rintro e w3 ⟨rfl, rfl⟩
  go_wp2_with fail
  refine hK.out _ _ ?_ (fun hHeld => ?_)
  · exact hHeld
  clear hK K
  (try go_frame)
  refine rd1 6 (by rfl) (by kernel_rfl) (fun K hK => ?_)
  go_simp
  refine (valuesNil _).mono ?_
  rintro e w6 ⟨rfl, hw6⟩
  have hb6 := hw6 ▸ below_alloc _ _
  clear hw6
  go_wp2_with fail
  refine hK.out _ _ ?_ (fun hHeld => ?_)
  · exact ⟨cell_later hb6 hHeld.1, cell_later hb6 hHeld.2.1, Below.next hHeld.2.2 hb6 hHeld.2.2.size⟩
  clear hK K
  (try go_frame)
  refine rd1 7 (by rfl) (by kernel_rfl) (fun K hK => ?_)
  go_simp
  refine hK.out _ _ ?_ (fun hHeld => ?_)
  · exact ⟨cell_later (below_alloc _ _) hHeld.1, cell_later (below_alloc _ _) hHeld.2.1, Below.next hHeld.2.2 (below_alloc _ _) hHeld.2.2.size⟩
  clear hK K
  (try go_frame)
  refine rd1 8 (by rfl) (by kernel_rfl) (fun K hK => ?_)
  go_simp
  refine (concatNil w6.heap.size ⟨W0.heap.size, 0, none⟩ ⟨w3.heap.size, 0, none⟩ 0 0 _ ?_ ?_).mono ?_
  · exact (Row.new w6 [_, _] 22).cell_of rfl
  · exact (Row.new w6 [_, _] 22).cell_of rfl
  rintro e w9 ⟨rfl, rfl⟩
  go_wp2_with fail
  refine hK.out _ _ ?_ (fun hHeld => ?_)
  · exact hHeld
  clear hK K
  (try go_frame)
  iterate 1 (refine tk 9 (by rfl) (by kernel_rfl) (by exact fun _ _ _ h => h) (.inl ⟨by rfl, fun w hS => by (try dsimp only at hS); go_simp; (try with_reducible rfl)⟩) (by assumption) ?_; try go_frame)
  refine wpAnyH_done (by kernel_rfl) ?_ _
  (try go_wp2_with fail)
  go_ret
  exact ⟨_, rfl, World.ownsRow_nil _ _ _ _, hHeld.2.2⟩
end Go.Proofs.YtefjhnhdagolhaaGreat
namespace Go.Proofs.YtefjhnhdagolhaaGreat
open Go.RowKit
structure Eng (base : Nat) (tE : TypeId) (bN fA fO fS fB n : Nat) (cap : Int) (xs : List Int) (w : World) : Prop where
  mA : ∀ W, (method 553 tE (.pointer (some ⟨bN, 0, none⟩)) "Answer").run Tryz.prog W = .ok (fA, .pointer (some ⟨bN, 0, none⟩)) W
  mO : ∀ W, (method 553 tE (.pointer (some ⟨bN, 0, none⟩)) "Order").run Tryz.prog W = .ok (fO, .pointer (some ⟨bN, 0, none⟩)) W
  mS : ∀ W, (method 553 tE (.pointer (some ⟨bN, 0, none⟩)) "State").run Tryz.prog W = .ok (fS, .pointer (some ⟨bN, 0, none⟩)) W
  mB : ∀ W, (method 553 tE (.pointer (some ⟨bN, 0, none⟩)) "Bound").run Tryz.prog W = .ok (fB, .pointer (some ⟨bN, 0, none⟩)) W
  cA : ∀ (t : Value) (W : World), (callFunc fA #[.pointer (some ⟨bN, 0, none⟩), t]).run Tryz.prog W = .ok (.enter fA #[.pointer (some ⟨bN, 0, none⟩), t]) W
  cO : ∀ W, (callFunc fO #[.pointer (some ⟨bN, 0, none⟩)]).run Tryz.prog W = .ok (.enter fO #[.pointer (some ⟨bN, 0, none⟩)]) W
  cS : ∀ W, (callFunc fS #[.pointer (some ⟨bN, 0, none⟩)]).run Tryz.prog W = .ok (.enter fS #[.pointer (some ⟨bN, 0, none⟩)]) W
  cB : ∀ W, (callFunc fB #[.pointer (some ⟨bN, 0, none⟩)]).run Tryz.prog W = .ok (.enter fB #[.pointer (some ⟨bN, 0, none⟩)]) W
  aOut : ∀ (t : Int) (W : World), Keeps base w W → (t < 0 ∨ (n : Int) ≤ t) → Calls Tryz.prog fA #[.pointer (some ⟨bN, 0, none⟩), .int .i64 t] W fun e w' => e = .returned (.tuple #[.agg #[.int .i64 0, .int .i64 0], .int .i64 3]) ∧ Below W.heap.size W w'
  aNew : ∀ (t : Nat) (W : World), Keeps base w W → t < n → Calls Tryz.prog fA #[.pointer (some ⟨bN, 0, none⟩), .int .i64 (t : Int)] W fun e w' => e = .returned (.tuple #[.agg #[.int .i64 0, .int .i64 0], .int .i64 5]) ∧ Below W.heap.size W w'
  ord : ∀ W, Keeps base w W → Calls Tryz.prog fO #[.pointer (some ⟨bN, 0, none⟩)] W fun e w' => e = .returned (.slice none 0 0) ∧ Below W.heap.size W w'
  sta : ∀ W, Keeps base w W → Calls Tryz.prog fS #[.pointer (some ⟨bN, 0, none⟩)] W fun e w' => ∃ v, e = .returned v ∧ w'.ownsRow W.heap.size 3 1 v xs.length (ints xs) ∧ Below W.heap.size W w'
  bnd : ∀ W, Keeps base w W → Calls Tryz.prog fB #[.pointer (some ⟨bN, 0, none⟩)] W fun e w' => e = .returned (.int .i64 (4 + 2 * (cap + 3 + 2 * (((n : Int) + 15) / 16 + 2 * (n : Int) + 1) + ((n : Int) + 15) / 16 + 3 * (n : Int)) + 3)) ∧ Below W.heap.size W w'
end Go.Proofs.YtefjhnhdagolhaaGreat
namespace Go.Proofs.YtefjhnhdagolhaaGreat
open Go.RowKit
attribute [local go_sem ↓] Go.wp_at_zero Go.wp_at_succ
def ptrs (bT : Nat → Nat) (k : Nat) : List Value := (List.range k).map fun (t : Nat) => .pointer (some ⟨bT t, 0, none⟩)
theorem ptrs_succ (bT : Nat → Nat) (k a : Nat) : ptrs (fun t => if t = k then a else bT t) (k + 1) = ptrs bT k ++ [.pointer (some ⟨a, 0, none⟩)] := by
  unfold ptrs
  rw [List.range_succ, List.map_append]
  congr 1
  · apply List.map_congr_left
    intro t ht
    have : t < k := List.mem_range.1 ht
    simp only [if_neg (show ¬ t = k by omega)]
  · simp
def ccs (kind n cap st co : Int) (vn vo : Value) : List Value := [.int .i64 kind, .int .i64 n, .int .i64 cap, .int .i64 st, .int .i64 co, vn, vo]
def rthNew (n bF : Nat) : List Value := [.slice none 0 0, .int .i64 0, .int .i64 0, .int .i64 0, .int .i64 0, .int .i64 0, .int .i64 0, .int .i64 0, .slice (some ⟨bF, 0, none⟩) n n, .slice none 0 0]
def RfI (W1 : World) (n : Nat) (cc : List Value) (v : Value) (k : Nat) (bT bF : Nat → Nat) (w' : World) : Prop :=
  Row w' W1.heap.size 105 (cc ++ [v, .slice none 0 0]) ∧ w'.ownsRow (W1.heap.size + 1) 107 1 v k (ptrs bT k) ∧
  (∀ t, t < k → Row w' (bT t) 109 (rthNew n (bF t)) ∧ Row w' (bF t) 3 (zeros (.int .i64 0) n) ∧ W1.heap.size < bT t ∧ W1.heap.size < bF t ∧ some (bT t) ≠ v.ownBlock ∧ some (bF t) ≠ v.ownBlock ∧ bT t ≠ bF t) ∧
  (∀ s t, s < t → t < k → bT s ≠ bT t ∧ bT s ≠ bF t ∧ bF s ≠ bT t ∧ bF s ≠ bF t) ∧ Below W1.heap.size W1 w'
theorem RfI.next {W1 : World} {n : Nat} {cc : List Value} {v : Value} {k : Nat} {bT bF : Nat → Nat} {wr w2 w4 : World} {a b g cap : Nat} (hcc : cc.length = 7) (h : RfI W1 n cc v k bT bF wr) (hb : Below wr.heap.size wr w2)
    (ha : wr.heap.size ≤ a) (hb' : wr.heap.size ≤ b) (hab : a ≠ b) (hra : Row w2 a 109 (rthNew n b)) (hrb : Row w2 b 3 (zeros (.int .i64 0) n))
    (hown : w4.ownsRow (W1.heap.size + 1) 107 1 (.slice (some ⟨g, 0, none⟩) (k + 1) cap) (k + 1) (ptrs bT k ++ [.pointer (some ⟨a, 0, none⟩)]))
    (hgr : w2.grownBy w4 v.ownBlock) (hg : v.ownBlock = some g ∨ g = w2.heap.size) :
    RfI W1 n cc (.slice (some ⟨g, 0, none⟩) (k + 1) cap) (k + 1) (fun t => if t = k then a else bT t) (fun t => if t = k then b else bF t) (w4.setCell ⟨W1.heap.size, 7, none⟩ (.slice (some ⟨g, 0, none⟩) (k + 1) cap)) := by
  obtain ⟨hE, hO, hT, hD, hB⟩ := h
  have hz := hb.size
  have hzB := hB.size
  have hlE := hE.lt
  have hla := hra.lt
  have hlb := hrb.lt
  have hvlt := hO.lt
  have keep : ∀ {q : Nat} {t : TypeId} {xs : List Value}, Row w2 q t xs → some q ≠ v.ownBlock → Row w4 q t xs := fun {q t xs} hr hne => hr.of_block (hgr.block q hr.lt hne)
  have hav : some a ≠ v.ownBlock := fun e => by have := (hvlt a e.symm).2; omega
  have hbv : some b ≠ v.ownBlock := fun e => by have := (hvlt b e.symm).2; omega
  have hEv : some W1.heap.size ≠ v.ownBlock := fun e => by have := (hvlt _ e.symm).1; omega
  have hgne : ∀ q, q < w2.heap.size → some q ≠ v.ownBlock → q ≠ g := fun q hq hne e => by
    subst e
    rcases hg with h | h
    · exact hne h.symm
    · omega
  refine ⟨?_, ?_, ?_, ?_, ?_⟩
  · have := (keep (hE.old hb) hEv).set 7 (.slice (some ⟨g, 0, none⟩) (k + 1) cap)
    rw [List.set_append_right _ _ (by omega), hcc] at this
    exact this
  · rw [ptrs_succ]
    exact ownsRow_setCell_below hown (by simp) _
  · intro t ht
    by_cases e : t = k
    · subst e
      simp only [if_true]
      refine ⟨(keep hra hav).setOther (by simp; omega) _, (keep hrb hbv).setOther (by simp; omega) _, by omega, by omega, ?_, ?_, hab⟩
      · simp only [Value.ownBlock, ne_eq, Option.some.injEq]; exact hgne a hla hav
      · simp only [Value.ownBlock, ne_eq, Option.some.injEq]; exact hgne b hlb hbv
    · simp only [if_neg e]
      obtain ⟨h1, h2, h3, h4, h5, h6, h7⟩ := hT t (by omega)
      refine ⟨(keep (h1.old hb) h5).setOther (by simp; omega) _, (keep (h2.old hb) h6).setOther (by simp; omega) _, h3, h4, ?_, ?_, h7⟩
      · simp only [Value.ownBlock, ne_eq, Option.some.injEq]; exact hgne _ (h1.old hb).lt h5
      · simp only [Value.ownBlock, ne_eq, Option.some.injEq]; exact hgne _ (h2.old hb).lt h6
  · intro s t h1 h2
    by_cases e : t = k
    · subst e
      obtain ⟨r1, r2, -⟩ := hT s h1
      have l1 := r1.lt
      have l2 := r2.lt
      simp only [if_true, if_neg (show ¬ s = t by omega)]
      omega
    · simp only [if_neg e, if_neg (show ¬ s = k by omega)]
      exact hD s t h1 (by omega)
  · exact ((Below.next hB hb hzB).grown hgr (by omega) (fun q hq => by have := (hvlt q hq).1; omega)).setCell (Nat.le_refl _) _
theorem keepG1 {w w4 : World} {row : Option Nat} {E N : Nat} {q : Value} (hg : w.grownBy w4 row) (h : w.cell? ⟨N, 1, none⟩ = some q ∧ w.there E 7 1) (hE : some E ≠ row) (hN : some N ≠ row) :
    w4.cell? ⟨N, 1, none⟩ = some q ∧ w4.there E 7 1 := by
  refine ⟨hg.cell h.1 hN, fun j hj => ?_⟩
  obtain ⟨h1, h2⟩ := h.2 j hj
  obtain ⟨u, hu⟩ := Option.isSome_iff_exists.1 h1
  have hlt := World.block_lt_of_cell? w _ hu
  rw [hg.cell_far ⟨E, 7 + j, none⟩ hlt hE, hg.frozen_far ⟨E, 7 + j, none⟩ hlt hE]
  exact ⟨h1, h2⟩
end Go.Proofs.YtefjhnhdagolhaaGreat
namespace Go.Proofs.YtefjhnhdagolhaaGreat
open Go.RowKit
theorem splice_zeros (xs : List Int) : splice (zeros (.int .i64 0) xs.length) 0 (ints xs) = ints xs := by
  simp [splice, zeros, length_ints]
theorem Sl.src {w w' : World} {a : Option Addr} {n c : Nat} {xs : List Int} (h : Sl w (.slice a n c) (ints xs)) (hb : Below w.heap.size w w') (hp : 0 < (ints xs).length) : ∃ ad, a = some ad ∧ ∀ (j : Nat) (v : Value), (ints xs)[j]? = some v → w'.cell? (ad.add j) = some v := by
  obtain ⟨a', cap, e, -, -, h3⟩ := h.below hb
  simp only [Value.slice.injEq] at e
  rw [e.1]
  rcases h3 with h3 | ⟨g, off, rfl, h3⟩
  · rw [h3] at hp; simp at hp
  · exact ⟨_, rfl, fun j v hj => by rw [addr_add]; exact h3 j v hj⟩
set_option maxHeartbeats 1000000 in
theorem own_any (st co : Int) (nx ou : List Int) (vn vo : Value) (w : World) (hn : Sl w vn (ints nx)) (ho : Sl w vo (ints ou)) (n1 : nx.length ≤ 1048576) (n3 : ou.length ≤ 1048576) :
    Calls Tryz.prog 75 #[.agg #[.int .i64 st, .int .i64 co, vn, vo]] w fun e w' => ∃ g1 g2, e = .returned (.agg #[.int .i64 st, .int .i64 co, .slice (some ⟨g1, 0, none⟩) nx.length nx.length, .slice (some ⟨g2, 0, none⟩) ou.length ou.length]) ∧
      w.heap.size ≤ g1 ∧ w.heap.size ≤ g2 ∧ Row w' g1 3 (ints nx) ∧ Row w' g2 3 (ints ou) ∧ Below w.heap.size w w' := by
  have hmk1 := run_make_zeros (P := Tryz.prog) 22 3 (.int .i64 0) 8 Tryz.underlying22 info_int rfl (nx.length : Int) nx.length rfl (by omega) (by omega)
  have hmk2 := run_make_zeros (P := Tryz.prog) 22 3 (.int .i64 0) 8 Tryz.underlying22 info_int rfl (ou.length : Int) ou.length rfl (by omega) (by omega)
  have HN := hide hn
  have HO := hide ho
  obtain ⟨a1, c1, e1, -⟩ := hn.open_ints
  obtain ⟨a2, c2, e2, -⟩ := ho.open_ints
  clear hn ho
  subst e1
  subst e2
  go_enter Tryz.func75, Tryz.ntmps75
  go_upto_region 1 with fail
  generalize hW0 : World.alloc (World.alloc w _) _ = W0
  have hb0 : Below w.heap.size w W0 := by rw [← hW0]; exact ((Below.refl _ _).alloc (Nat.le_refl _) _).alloc (by simp) _
  have hs0 : w.heap.size + 2 ≤ W0.heap.size := by rw [← hW0]; simp
  have hN : Row W0 w.heap.size 24 [.int .i64 st, .int .i64 co, .slice a1 nx.length c1, .slice a2 ou.length c2] := by rw [← hW0]; exact (Row.new' rfl).alloc _
  have hR : Row W0 (w.heap.size + 1) 24 [.int .i64 0, .int .i64 0, .slice none 0 0, .slice none 0 0] := by rw [← hW0]; exact Row.new' (by simp)
  have q2 : W0.cell? ⟨w.heap.size, 2, none⟩ = some (.slice a1 nx.length c1) := hN.cell_of rfl
  have q2' := fun ob => cell_new q2 ob
  clear hW0
  have HB0 := hide hb0
  have HRN := hide hN
  have HRR := hide hR
  clear hb0 hN hR
  go_wp2_with (with_reducible refine wpList_copy_splice rfl (.tmp 9) (.tmp 11) 22 22 rfl 3 Tryz.underlying22 size_int _ _ _ _ _ _ rfl rfl W0.heap.size 0 (zeros (.int .i64 0) nx.length) 3 ?hg (ints nx) ?hn ?hpos ?hfit ?h1 W0.heap.size W0 ?hb ?hBg ?hk)
  case hg => exact Row.new _ _ _
  case hn => simp [length_ints]
  case hpos =>
    intro hp
    first | exact HN.out.src (Below.next HB0.out (below_alloc _ _) HB0.out.size) hp | exact ⟨rfl, HN.out.src (Below.next HB0.out (below_alloc _ _) HB0.out.size) hp⟩
  case hfit => simp [length_ints, length_zeros]
  case h1 => exact one_ints nx
  case hb => exact below_alloc _ _
  case hBg => exact Nat.le_refl _
  case hk =>
    intro w2 HG2 hB2
    have HR1 := hide (show Row w2 W0.heap.size 3 (ints nx) by have := HG2.out; rw [splice_zeros] at this; exact this)
    clear HG2 q2 q2'
    have q3 : w2.cell? ⟨w.heap.size, 3, none⟩ = some (.slice a2 ou.length c2) := cell_later hB2 (HRN.out.cell_of rfl)
    have q3' := fun ob => cell_new q3 ob
    have HB2 := hide hB2
    clear hB2
    go_wp2_with (with_reducible refine wpList_copy_splice rfl (.tmp 17) (.tmp 19) 22 22 rfl 3 Tryz.underlying22 size_int _ _ _ _ _ _ rfl rfl w2.heap.size 0 (zeros (.int .i64 0) ou.length) 3 ?hg2 (ints ou) ?hn2 ?hpos2 ?hfit2 ?h12 w2.heap.size w2 ?hb2 ?hBg2 ?hk2)
    case hg2 => exact Row.new _ _ _
    case hn2 => simp [length_ints]
    case hpos2 =>
      intro hp
      have hq : Below w.heap.size w w2 := Below.next HB0.out HB2.out HB0.out.size
      first | exact HO.out.src (Below.next hq (below_alloc _ _) hq.size) hp | exact ⟨rfl, HO.out.src (Below.next hq (below_alloc _ _) hq.size) hp⟩
    case hfit2 => simp [length_ints, length_zeros]
    case h12 => exact one_ints ou
    case hb2 => exact below_alloc _ _
    case hBg2 => exact Nat.le_refl _
    case hk2 =>
      intro w3 HG3 hB3
      have HR2 := hide (show Row w3 w2.heap.size 3 (ints ou) by have := HG3.out; rw [splice_zeros] at this; exact this)
      have hz2 := HB2.out.size
      have hz3 := hB3.size
      have hB : Below W0.heap.size W0 w3 := Below.next HB2.out hB3 hz2
      have HR1' := hide (HR1.out.old hB3)
      have hN3 := HRN.out.old hB
      have hR3 := HRR.out.old hB
      have k0 : w3.cell? ⟨w.heap.size, 0, none⟩ = some (.int .i64 st) := hN3.cell_of rfl
      have k1 : w3.cell? ⟨w.heap.size, 1, none⟩ = some (.int .i64 co) := hN3.cell_of rfl
      have k2 : w3.cell? ⟨w.heap.size, 2, none⟩ = some (.slice a1 nx.length c1) := hN3.cell_of rfl
      have k3 : w3.cell? ⟨w.heap.size, 3, none⟩ = some (.slice a2 ou.length c2) := hN3.cell_of rfl
      have r0 : w3.cell? ⟨w.heap.size + 1, 0, none⟩ = some (.int .i64 0) := hR3.cell_of rfl
      have r1 : w3.cell? ⟨w.heap.size + 1, 1, none⟩ = some (.int .i64 0) := hR3.cell_of rfl
      have r2 : w3.cell? ⟨w.heap.size + 1, 2, none⟩ = some (.slice none 0 0) := hR3.cell_of rfl
      have r3 : w3.cell? ⟨w.heap.size + 1, 3, none⟩ = some (.slice none 0 0) := hR3.cell_of rfl
      have f1 := hN3.frozen
      have f2 := hR3.frozen
      have HB3 := hide hB
      clear hN3 hR3 hB3 hB HG3 q3 q3'
      go_wp2
      refine bodyPost_ret (v := .agg #[.int .i64 st, .int .i64 co, .slice (some ⟨W0.heap.size, 0, none⟩) nx.length nx.length, .slice (some ⟨w2.heap.size, 0, none⟩) ou.length ou.length]) (by simp [results, Tryz.results75, go_sem, r0, r1, r2, r3]) rfl ⟨W0.heap.size, w2.heap.size, rfl, by omega, by omega, ?_, ?_, ?_⟩
      · repeat (refine Row.setOther ?_ (by simp; omega) _)
        exact HR1'.out
      · repeat (refine Row.setOther ?_ (by simp; omega) _)
        exact HR2.out
      · repeat (refine Below.setCell ?_ (by simp) _)
        exact Below.next HB0.out HB3.out HB0.out.size
end Go.Proofs.YtefjhnhdagolhaaGreat
