import Derived.Test.YtefjhnhdagolhaaGreatQ02
import Derived.Test.YtefjhnhdagolhaaGreatQ03
import Derived.Test.YtefjhnhdagolhaaGreatQ06
import Derived.Test.YtefjhnhdagolhaaGreatQ07
import Derived.Test.YtefjhnhdagolhaaGreatQ08
import Derived.Test.YtefjhnhdagolhaaGreatQ09
namespace Go.Proofs.YtefjhnhdagolhaaGreat
open Go.RowKit
attribute [local go_sem ↓] Go.wp_at_zero Go.wp_at_succ
section
variable {w0 w1 : World} {n : Nat} {most : Int} {oT : TypeId} {ov : Value} {b : Nat} {w : World}
theorem int.ObjNew.from (h : int.ObjNew w1 n most oT ov b w) (hb : Below w0.heap.size w0 w1) : int.ObjNew w0 n most oT ov b w := let ⟨bN, h1, h2, h3⟩ := h; ⟨bN, h1, h2.from hb, Nat.le_trans hb.size h3⟩
end
theorem cells7 {w' : World} {N : Nat} {t : TypeId} {a b c d e f g : Value} (h : Row w' N t [a, b, c, d, e, f, g]) : Row w' N t [a, b, c, d, e, f, g] ∧ w'.cell? ⟨N, 0, none⟩ = some a ∧ w'.cell? ⟨N, 1, none⟩ = some b ∧ w'.cell? ⟨N, 2, none⟩ = some c ∧
    w'.cell? ⟨N, 3, none⟩ = some d ∧ w'.cell? ⟨N, 4, none⟩ = some e ∧ w'.cell? ⟨N, 5, none⟩ = some f ∧ w'.cell? ⟨N, 6, none⟩ = some g :=
  ⟨h, h.cell_of rfl, h.cell_of rfl, h.cell_of rfl, h.cell_of rfl, h.cell_of rfl, h.cell_of rfl, h.cell_of rfl⟩
section
variable (n : Nat) (cap st co : Int) (nx ou : List Int) (vn vo : Value) (w : World)
set_option maxHeartbeats 1000000 in
theorem new_err (hn : Sl w vn (ints nx)) (ho : Sl w vo (ints ou)) (kind th : Int) (h : cfgErr kind th cap st co nx ou ≠ 0) :
    Calls Tryz.prog 42 #[.agg #[.int .i64 kind, .int .i64 th, .int .i64 cap, .int .i64 st, .int .i64 co, vn, vo]] w fun e w' => e = .returned (.tuple #[.pointer none, .int .i64 (cfgErr kind th cap st co nx ou)]) ∧ Below w.heap.size w w' := by
  have hc := checkConfig_any kind th cap st co nx ou vn vo (w.alloc (.cells #[.int .i64 kind, .int .i64 th, .int .i64 cap, .int .i64 st, .int .i64 co, vn, vo] 26)) (hn.below (below_alloc _ _)) (ho.below (below_alloc _ _))
  generalize hx : cfgErr kind th cap st co nx ou = x at *
  have hx0 : (x != 0) = true := by rw [bne_iff_ne]; exact h
  have HC := hide hc
  clear hc hx h hn ho
  go_enter Tryz.func42, Tryz.ntmps42
  go_wp2_with fail
  refine HC.out.mono ?_
  rintro e w1 ⟨rfl, hb1⟩
  go_wp2_with fail
  go_ret2
  exact ⟨rfl, Below.next (below_alloc _ _) hb1 (by simp)⟩
set_option maxHeartbeats 1000000 in
theorem new_one (hn : Sl w vn (ints nx)) (ho : Sl w vo (ints ou)) (h1 : 1 ≤ n) (h2 : n ≤ 64) (h3 : 0 ≤ cap) (h4 : cap ≤ 64) :
    Calls Tryz.prog 42 #[.agg #[.int .i64 1, .int .i64 (n : Int), .int .i64 cap, .int .i64 st, .int .i64 co, vn, vo]] w fun e w' => ∃ b, e = .returned (.tuple #[.pointer (some ⟨b, 0, none⟩), .int .i64 0]) ∧ int.ObjNew w n cap 140 (.agg #[]) b w' := by
  have hc := checkConfig_any 1 n cap st co nx ou vn vo (w.alloc (.cells #[.int .i64 1, .int .i64 (n : Int), .int .i64 cap, .int .i64 st, .int .i64 co, vn, vo] 26)) (hn.below (below_alloc _ _)) (ho.below (below_alloc _ _))
  rw [cfgErr_zero (by omega) (by omega)] at hc
  have HC := hide hc
  have HOB := hide (fun W => int.objectOf_any 140 (.agg #[]) 181 (.agg #[]) counterFirst_m counterFirst_c counterFirst 1 n cap st co vn vo W h1 h2)
  clear hc hn ho
  go_enter Tryz.func42, Tryz.ntmps42
  go_wp2_with fail
  refine HC.out.mono ?_
  rintro e w1 ⟨rfl, hb1⟩
  have HB1 := hide (Below.next (below_alloc w _) hb1 (by simp))
  obtain ⟨hcc, -⟩ := bcell hb1
  clear hb1
  go_wp2_with fail
  refine (HOB.out w1).mono ?_
  rintro e w2 ⟨b, rfl, hob⟩
  have HX := hide (hob.from HB1.out)
  clear hob
  go_wp2_with fail
  go_ret2
  exact ⟨b, rfl, HX.out⟩
end
end Go.Proofs.YtefjhnhdagolhaaGreat
namespace Go.Proofs.YtefjhnhdagolhaaGreat
open Go.RowKit
attribute [local go_sem ↓] Go.wp_at_zero Go.wp_at_succ
def ptrs (bT : Nat → Nat) (k : Nat) : List Value := (List.range k).map fun (t : Nat) => .pointer (some ⟨bT t, 0, none⟩)
theorem ptrs_succ (bT : Nat → Nat) (k a : Nat) : ptrs (fun t => if t = k then a else bT t) (k + 1) = ptrs bT k ++ [.pointer (some ⟨a, 0, none⟩)] := by
  unfold ptrs
  rw [List.range_succ, List.map_append]
  congr 1
  · apply List.map_congr_left
    intro t ht
    have : t < k := List.mem_range.1 ht
    simp only [if_neg (show ¬ t = k by omega)]
  · simp
def ccs (kind n cap st co : Int) (vn vo : Value) : List Value := [.int .i64 kind, .int .i64 n, .int .i64 cap, .int .i64 st, .int .i64 co, vn, vo]
def rthNew (n bF : Nat) : List Value := [.slice none 0 0, .int .i64 0, .int .i64 0, .int .i64 0, .int .i64 0, .int .i64 0, .int .i64 0, .int .i64 0, .slice (some ⟨bF, 0, none⟩) n n, .slice none 0 0]
def RfI (W1 : World) (n : Nat) (cc : List Value) (v : Value) (k : Nat) (bT bF : Nat → Nat) (w' : World) : Prop :=
  Row w' W1.heap.size 105 (cc ++ [v, .slice none 0 0]) ∧ w'.ownsRow (W1.heap.size + 1) 107 1 v k (ptrs bT k) ∧
  (∀ t, t < k → Row w' (bT t) 109 (rthNew n (bF t)) ∧ Row w' (bF t) 3 (zeros (.int .i64 0) n) ∧ W1.heap.size < bT t ∧ W1.heap.size < bF t ∧ some (bT t) ≠ v.ownBlock ∧ some (bF t) ≠ v.ownBlock ∧ bT t ≠ bF t) ∧
  (∀ s t, s < t → t < k → bT s ≠ bT t ∧ bT s ≠ bF t ∧ bF s ≠ bT t ∧ bF s ≠ bF t) ∧ Below W1.heap.size W1 w'
theorem RfI.next {W1 : World} {n : Nat} {cc : List Value} {v : Value} {k : Nat} {bT bF : Nat → Nat} {wr w2 w4 : World} {a b g cap : Nat} (hcc : cc.length = 7) (h : RfI W1 n cc v k bT bF wr) (hb : Below wr.heap.size wr w2)
    (ha : wr.heap.size ≤ a) (hb' : wr.heap.size ≤ b) (hab : a ≠ b) (hra : Row w2 a 109 (rthNew n b)) (hrb : Row w2 b 3 (zeros (.int .i64 0) n))
    (hown : w4.ownsRow (W1.heap.size + 1) 107 1 (.slice (some ⟨g, 0, none⟩) (k + 1) cap) (k + 1) (ptrs bT k ++ [.pointer (some ⟨a, 0, none⟩)]))
    (hgr : w2.grownBy w4 v.ownBlock) (hg : v.ownBlock = some g ∨ g = w2.heap.size) :
    RfI W1 n cc (.slice (some ⟨g, 0, none⟩) (k + 1) cap) (k + 1) (fun t => if t = k then a else bT t) (fun t => if t = k then b else bF t) (w4.setCell ⟨W1.heap.size, 7, none⟩ (.slice (some ⟨g, 0, none⟩) (k + 1) cap)) := by
  obtain ⟨hE, hO, hT, hD, hB⟩ := h
  have hz := hb.size
  have hzB := hB.size
  have hlE := hE.lt
  have hla := hra.lt
  have hlb := hrb.lt
  have hvlt := hO.lt
  have keep : ∀ {q : Nat} {t : TypeId} {xs : List Value}, Row w2 q t xs → some q ≠ v.ownBlock → Row w4 q t xs := fun {q t xs} hr hne => hr.of_block (hgr.block q hr.lt hne)
  have hav : some a ≠ v.ownBlock := fun e => by have := (hvlt a e.symm).2; omega
  have hbv : some b ≠ v.ownBlock := fun e => by have := (hvlt b e.symm).2; omega
  have hEv : some W1.heap.size ≠ v.ownBlock := fun e => by have := (hvlt _ e.symm).1; omega
  have hgne : ∀ q, q < w2.heap.size → some q ≠ v.ownBlock → q ≠ g := fun q hq hne e => by
    subst e
    rcases hg with h | h
    · exact hne h.symm
    · omega
  refine ⟨?_, ?_, ?_, ?_, ?_⟩
  · have := (keep (hE.old hb) hEv).set 7 (.slice (some ⟨g, 0, none⟩) (k + 1) cap)
    rw [List.set_append_right _ _ (by omega), hcc] at this
    exact this
  · rw [ptrs_succ]
    exact ownsRow_setCell_below hown (by simp) _
  · intro t ht
    by_cases e : t = k
    · subst e
      simp only [if_true]
      refine ⟨(keep hra hav).setOther (by simp; omega) _, (keep hrb hbv).setOther (by simp; omega) _, by omega, by omega, ?_, ?_, hab⟩
      · simp only [Value.ownBlock, ne_eq, Option.some.injEq]; exact hgne a hla hav
      · simp only [Value.ownBlock, ne_eq, Option.some.injEq]; exact hgne b hlb hbv
    · simp only [if_neg e]
      obtain ⟨h1, h2, h3, h4, h5, h6, h7⟩ := hT t (by omega)
      refine ⟨(keep (h1.old hb) h5).setOther (by simp; omega) _, (keep (h2.old hb) h6).setOther (by simp; omega) _, h3, h4, ?_, ?_, h7⟩
      · simp only [Value.ownBlock, ne_eq, Option.some.injEq]; exact hgne _ (h1.old hb).lt h5
      · simp only [Value.ownBlock, ne_eq, Option.some.injEq]; exact hgne _ (h2.old hb).lt h6
  · intro s t h1 h2
    by_cases e : t = k
    · subst e
      obtain ⟨r1, r2, -⟩ := hT s h1
      have l1 := r1.lt
      have l2 := r2.lt
      simp only [if_true, if_neg (show ¬ s = t by omega)]
      omega
    · simp only [if_neg e, if_neg (show ¬ s = k by omega)]
      exact hD s t h1 (by omega)
  · exact ((Below.next hB hb hzB).grown hgr (by omega) (fun q hq => by have := (hvlt q hq).1; omega)).setCell (Nat.le_refl _) _
theorem keepG1 {w w4 : World} {row : Option Nat} {E N : Nat} {q : Value} (hg : w.grownBy w4 row) (h : w.cell? ⟨N, 1, none⟩ = some q ∧ w.there E 7 1) (hE : some E ≠ row) (hN : some N ≠ row) :
    w4.cell? ⟨N, 1, none⟩ = some q ∧ w4.there E 7 1 := by
  refine ⟨hg.cell h.1 hN, fun j hj => ?_⟩
  obtain ⟨h1, h2⟩ := h.2 j hj
  obtain ⟨u, hu⟩ := Option.isSome_iff_exists.1 h1
  have hlt := World.block_lt_of_cell? w _ hu
  rw [hg.cell_far ⟨E, 7 + j, none⟩ hlt hE, hg.frozen_far ⟨E, 7 + j, none⟩ hlt hE]
  exact ⟨h1, h2⟩
end Go.Proofs.YtefjhnhdagolhaaGreat
