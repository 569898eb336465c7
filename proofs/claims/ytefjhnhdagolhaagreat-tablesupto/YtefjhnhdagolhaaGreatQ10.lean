import Derived.Test.YtefjhnhdagolhaaGreatQ06
import Derived.Test.YtefjhnhdagolhaaGreatQ09
import Derived.Test.YtefjhnhdagolhaaGreatQ05
import Derived.Test.YtefjhnhdagolhaaGreatProg
namespace Go.Proofs.YtefjhnhdagolhaaGreat
open Go.RowKit
attribute [local go_sem ↓] Go.wp_at_zero Go.wp_at_succ
def TabMade (n : Nat) (cap st co : Int) (nx ou : List Int) (w : World) (b : Nat) (w' : World) : Prop :=
  ∃ w1 g1 k1 g2 k2, Below w.heap.size w w1 ∧ int.ObjNew w1 n cap 152 (.agg #[.int .i64 st, .int .i64 co, .slice (some ⟨g1, 0, none⟩) nx.length k1, .slice (some ⟨g2, 0, none⟩) ou.length k2]) b w' ∧
    w1.ownsRow w.heap.size 3 1 (.slice (some ⟨g1, 0, none⟩) nx.length k1) nx.length (ints nx) ∧ w1.ownsRow w.heap.size 3 1 (.slice (some ⟨g2, 0, none⟩) ou.length k2) ou.length (ints ou)
section
variable {w0 w1 : World} {n : Nat} {most : Int} {oT : TypeId} {ov : Value} {b : Nat} {w : World}
theorem int.ObjNew.below (h : int.ObjNew w0 n most oT ov b w) : Below w0.heap.size w0 w := let ⟨_, _, h2, _⟩ := h; h2.below.1
end
theorem cells7 {w' : World} {N : Nat} {t : TypeId} {a b c d e f g : Value} (h : Row w' N t [a, b, c, d, e, f, g]) : Row w' N t [a, b, c, d, e, f, g] ∧ w'.cell? ⟨N, 0, none⟩ = some a ∧ w'.cell? ⟨N, 1, none⟩ = some b ∧ w'.cell? ⟨N, 2, none⟩ = some c ∧
    w'.cell? ⟨N, 3, none⟩ = some d ∧ w'.cell? ⟨N, 4, none⟩ = some e ∧ w'.cell? ⟨N, 5, none⟩ = some f ∧ w'.cell? ⟨N, 6, none⟩ = some g :=
  ⟨h, h.cell_of rfl, h.cell_of rfl, h.cell_of rfl, h.cell_of rfl, h.cell_of rfl, h.cell_of rfl, h.cell_of rfl⟩
section
variable (n : Nat) (cap st co : Int) (nx ou : List Int) (vn vo : Value) (w : World)
set_option maxHeartbeats 1000000 in
theorem new_err (hn : Sl w vn (ints nx)) (ho : Sl w vo (ints ou)) (kind th : Int) (h : cfgErr kind th cap st co nx ou ≠ 0) :
    Calls Tryz.prog 42 #[.agg #[.int .i64 kind, .int .i64 th, .int .i64 cap, .int .i64 st, .int .i64 co, vn, vo]] w fun e w' => e = .returned (.tuple #[.pointer none, .int .i64 (cfgErr kind th cap st co nx ou)]) ∧ Below w.heap.size w w' := by
  have hc := checkConfig_any kind th cap st co nx ou vn vo (w.alloc (.cells #[.int .i64 kind, .int .i64 th, .int .i64 cap, .int .i64 st, .int .i64 co, vn, vo] 26)) (hn.below (below_alloc _ _)) (ho.below (below_alloc _ _))
  generalize hx : cfgErr kind th cap st co nx ou = x at *
  have hx0 : (x != 0) = true := by rw [bne_iff_ne]; exact h
  have HC := hide hc
  clear hc hx h hn ho
  go_enter Tryz.func42, Tryz.ntmps42
  go_wp2_with fail
  refine HC.out.mono ?_
  rintro e w1 ⟨rfl, hb1⟩
  go_wp2_with fail
  go_ret2
  exact ⟨rfl, Below.next (below_alloc _ _) hb1 (by simp)⟩
set_option maxRecDepth 20000 in
set_option maxHeartbeats 2000000 in
theorem new_five (hn : Sl w vn (ints nx)) (ho : Sl w vo (ints ou)) (h1 : 1 ≤ n) (h2 : n ≤ 64) (h3 : 0 ≤ cap) (h4 : cap ≤ 64) (ht : tableOk st co nx ou = true) (n1 : nx.length ≤ 1048576) (n2 : 0 < nx.length) (n3 : ou.length ≤ 1048576) (n4 : 0 < ou.length) :
    Calls Tryz.prog 42 #[.agg #[.int .i64 5, .int .i64 (n : Int), .int .i64 cap, .int .i64 st, .int .i64 co, vn, vo]] w fun e w' => ∃ b, e = .returned (.tuple #[.pointer (some ⟨b, 0, none⟩), .int .i64 0]) ∧ TabMade n cap st co nx ou w b w' := by
  have hc := checkConfig_any 5 n cap st co nx ou vn vo (w.alloc (.cells #[.int .i64 5, .int .i64 (n : Int), .int .i64 cap, .int .i64 st, .int .i64 co, vn, vo] 26)) (hn.below (below_alloc _ _)) (ho.below (below_alloc _ _))
  rw [cfgErr_zero5 (by omega) rfl ht] at hc
  have HC := hide hc
  have HOB := hide (fun W u1 u2 => int.objectOf_any 152 (.agg #[.int .i64 st, .int .i64 co, u1, u2]) 188 (.agg #[.int .i64 st, .int .i64 co, u1, u2]) (tableFirst_m _ _ _ _) (tableFirst_c _ _ _ _) (tableFirst _ _ _ _) 5 n cap st co vn vo W h1 h2)
  have HN := hide hn
  have HO := hide ho
  clear hc hn ho ht
  go_enter Tryz.func42, Tryz.ntmps42
  go_wp2_with fail
  refine HC.out.mono ?_
  rintro e w1 ⟨rfl, hb1⟩
  have hB : Below w.heap.size w w1 := Below.next (below_alloc w _) hb1 (by simp)
  have hR : Row w1 w.heap.size 26 [.int .i64 5, .int .i64 (n : Int), .int .i64 cap, .int .i64 st, .int .i64 co, vn, vo] := (Row.new' rfl).old hb1
  obtain ⟨-, q0, q1, q2, q3, q4, q5, q6⟩ := cells7 hR
  have HB1 := hide hB
  have HR := hide hR
  clear hb1 hB hR
  go_wp2_with fail
  refine rg0 (S := (fun w' => Row w' w.heap.size 26 [.int .i64 5, .int .i64 (n : Int), .int .i64 cap, .int .i64 st, .int .i64 co, vn, vo] ∧ w'.cell? ⟨w.heap.size, 0, none⟩ = some (.int .i64 5) ∧ w'.cell? ⟨w.heap.size, 1, none⟩ = some (.int .i64 (n : Int)) ∧ w'.cell? ⟨w.heap.size, 2, none⟩ = some (.int .i64 cap) ∧ w'.cell? ⟨w.heap.size, 3, none⟩ = some (.int .i64 st) ∧ w'.cell? ⟨w.heap.size, 4, none⟩ = some (.int .i64 co) ∧ w'.cell? ⟨w.heap.size, 5, none⟩ = some vn ∧ w'.cell? ⟨w.heap.size, 6, none⟩ = some vo)) 8 rfl (by kernel_rfl) ?_ (fun hHeld => ?_)
  · exact cells7 HR.out
  iterate 2 (refine tk 7 (by rfl) (by kernel_rfl) (by exact fun _ _ _ h => h) (.inl ⟨by rfl, fun w hS => by (try dsimp only at hS); go_simp; (try with_reducible rfl)⟩) (by assumption) ?_; try go_frame)
  iterate 1 (refine tk 9 (by rfl) (by kernel_rfl) (by exact fun _ _ _ h => h) (.inl ⟨by rfl, fun w hS => by (try dsimp only at hS); go_simp; (try with_reducible rfl)⟩) (by assumption) ?_; try go_frame)
  refine rd1 2 (by rfl) (by kernel_rfl) (fun K hK => ?_)
  go_simp
  refine (newTable_any st co nx ou vn vo _ (HN.out.below HB1.out.drew) (HO.out.below HB1.out.drew) n1 n2 n3 n4).mono ?_
  rintro e w2 ⟨g1, k1, g2, k2, rfl, ho1, ho2, hb2⟩
  have HO1 := hide ho1
  have HO2 := hide ho2
  clear ho1 ho2
  go_wp2_with fail
  refine hK.out _ _ ?_ (fun hHeld => ?_)
  · exact cells7 (hHeld.1.old hb2)
  clear hK K
  (try go_frame)
  iterate 1 (refine tk 6 (by rfl) (by kernel_rfl) (by exact fun _ _ _ h => h) (.inl ⟨by rfl, fun w hS => by (try dsimp only at hS); go_simp; (try with_reducible rfl)⟩) (by assumption) ?_; try go_frame)
  refine rd1 5 (by rfl) (by kernel_rfl) (fun K hK => ?_)
  go_simp
  refine (HOB.out _ _ _).mono ?_
  rintro e w3 ⟨b, rfl, hob⟩
  have HX := hide hob
  have HB3 := hide hob.below
  clear hob
  go_wp2_with fail
  refine hK.out _ _ ?_ (fun hHeld => ?_)
  · exact cells7 (hHeld.1.old HB3.out)
  clear hK K
  (try go_frame)
  iterate 2 (refine tk 7 (by rfl) (by kernel_rfl) (by exact fun _ _ _ h => h) (.inl ⟨by rfl, fun w hS => by (try dsimp only at hS); go_simp; (try with_reducible rfl)⟩) (by assumption) ?_; try go_frame)
  refine wpAnyH_done (by kernel_rfl) ?_ _
  (try go_wp2_with fail)
  go_ret2
  have hz1 := HB1.out.size
  have hb12 : Below w.heap.size w w2 := Below.next HB1.out (Below.undrew hb2) hz1
  exact ⟨b, rfl, w2, g1, k1, g2, k2, hb12, HX.out, owns_base HO1.out hz1, owns_base HO2.out hz1⟩
end
end Go.Proofs.YtefjhnhdagolhaaGreat
namespace Go.Proofs.YtefjhnhdagolhaaGreat
open Go.RowKit
attribute [local go_sem ↓] Go.wp_at_zero Go.wp_at_succ
def ptrs (bT : Nat → Nat) (k : Nat) : List Value := (List.range k).map fun (t : Nat) => .pointer (some ⟨bT t, 0, none⟩)
theorem ptrs_succ (bT : Nat → Nat) (k a : Nat) : ptrs (fun t => if t = k then a else bT t) (k + 1) = ptrs bT k ++ [.pointer (some ⟨a, 0, none⟩)] := by
  unfold ptrs
  rw [List.range_succ, List.map_append]
  congr 1
  · apply List.map_congr_left
    intro t ht
    have : t < k := List.mem_range.1 ht
    simp only [if_neg (show ¬ t = k by omega)]
  · simp
def ccs (kind n cap st co : Int) (vn vo : Value) : List Value := [.int .i64 kind, .int .i64 n, .int .i64 cap, .int .i64 st, .int .i64 co, vn, vo]
def rthNew (n bF : Nat) : List Value := [.slice none 0 0, .int .i64 0, .int .i64 0, .int .i64 0, .int .i64 0, .int .i64 0, .int .i64 0, .int .i64 0, .slice (some ⟨bF, 0, none⟩) n n, .slice none 0 0]
def RfI (W1 : World) (n : Nat) (cc : List Value) (v : Value) (k : Nat) (bT bF : Nat → Nat) (w' : World) : Prop :=
  Row w' W1.heap.size 105 (cc ++ [v, .slice none 0 0]) ∧ w'.ownsRow (W1.heap.size + 1) 107 1 v k (ptrs bT k) ∧
  (∀ t, t < k → Row w' (bT t) 109 (rthNew n (bF t)) ∧ Row w' (bF t) 3 (zeros (.int .i64 0) n) ∧ W1.heap.size < bT t ∧ W1.heap.size < bF t ∧ some (bT t) ≠ v.ownBlock ∧ some (bF t) ≠ v.ownBlock ∧ bT t ≠ bF t) ∧
  (∀ s t, s < t → t < k → bT s ≠ bT t ∧ bT s ≠ bF t ∧ bF s ≠ bT t ∧ bF s ≠ bF t) ∧ Below W1.heap.size W1 w'
theorem RfI.next {W1 : World} {n : Nat} {cc : List Value} {v : Value} {k : Nat} {bT bF : Nat → Nat} {wr w2 w4 : World} {a b g cap : Nat} (hcc : cc.length = 7) (h : RfI W1 n cc v k bT bF wr) (hb : Below wr.heap.size wr w2)
    (ha : wr.heap.size ≤ a) (hb' : wr.heap.size ≤ b) (hab : a ≠ b) (hra : Row w2 a 109 (rthNew n b)) (hrb : Row w2 b 3 (zeros (.int .i64 0) n))
    (hown : w4.ownsRow (W1.heap.size + 1) 107 1 (.slice (some ⟨g, 0, none⟩) (k + 1) cap) (k + 1) (ptrs bT k ++ [.pointer (some ⟨a, 0, none⟩)]))
    (hgr : w2.grownBy w4 v.ownBlock) (hg : v.ownBlock = some g ∨ g = w2.heap.size) :
    RfI W1 n cc (.slice (some ⟨g, 0, none⟩) (k + 1) cap) (k + 1) (fun t => if t = k then a else bT t) (fun t => if t = k then b else bF t) (w4.setCell ⟨W1.heap.size, 7, none⟩ (.slice (some ⟨g, 0, none⟩) (k + 1) cap)) := by
  obtain ⟨hE, hO, hT, hD, hB⟩ := h
  have hz := hb.size
  have hzB := hB.size
  have hlE := hE.lt
  have hla := hra.lt
  have hlb := hrb.lt
  have hvlt := hO.lt
  have keep : ∀ {q : Nat} {t : TypeId} {xs : List Value}, Row w2 q t xs → some q ≠ v.ownBlock → Row w4 q t xs := fun {q t xs} hr hne => hr.of_block (hgr.block q hr.lt hne)
  have hav : some a ≠ v.ownBlock := fun e => by have := (hvlt a e.symm).2; omega
  have hbv : some b ≠ v.ownBlock := fun e => by have := (hvlt b e.symm).2; omega
  have hEv : some W1.heap.size ≠ v.ownBlock := fun e => by have := (hvlt _ e.symm).1; omega
  have hgne : ∀ q, q < w2.heap.size → some q ≠ v.ownBlock → q ≠ g := fun q hq hne e => by
    subst e
    rcases hg with h | h
    · exact hne h.symm
    · omega
  refine ⟨?_, ?_, ?_, ?_, ?_⟩
  · have := (keep (hE.old hb) hEv).set 7 (.slice (some ⟨g, 0, none⟩) (k + 1) cap)
    rw [List.set_append_right _ _ (by omega), hcc] at this
    exact this
  · rw [ptrs_succ]
    exact ownsRow_setCell_below hown (by simp) _
  · intro t ht
    by_cases e : t = k
    · subst e
      simp only [if_true]
      refine ⟨(keep hra hav).setOther (by simp; omega) _, (keep hrb hbv).setOther (by simp; omega) _, by omega, by omega, ?_, ?_, hab⟩
      · simp only [Value.ownBlock, ne_eq, Option.some.injEq]; exact hgne a hla hav
      · simp only [Value.ownBlock, ne_eq, Option.some.injEq]; exact hgne b hlb hbv
    · simp only [if_neg e]
      obtain ⟨h1, h2, h3, h4, h5, h6, h7⟩ := hT t (by omega)
      refine ⟨(keep (h1.old hb) h5).setOther (by simp; omega) _, (keep (h2.old hb) h6).setOther (by simp; omega) _, h3, h4, ?_, ?_, h7⟩
      · simp only [Value.ownBlock, ne_eq, Option.some.injEq]; exact hgne _ (h1.old hb).lt h5
      · simp only [Value.ownBlock, ne_eq, Option.some.injEq]; exact hgne _ (h2.old hb).lt h6
  · intro s t h1 h2
    by_cases e : t = k
    · subst e
      obtain ⟨r1, r2, -⟩ := hT s h1
      have l1 := r1.lt
      have l2 := r2.lt
      simp only [if_true, if_neg (show ¬ s = t by omega)]
      omega
    · simp only [if_neg e, if_neg (show ¬ s = k by omega)]
      exact hD s t h1 (by omega)
  · exact ((Below.next hB hb hzB).grown hgr (by omega) (fun q hq => by have := (hvlt q hq).1; omega)).setCell (Nat.le_refl _) _
theorem keepG1 {w w4 : World} {row : Option Nat} {E N : Nat} {q : Value} (hg : w.grownBy w4 row) (h : w.cell? ⟨N, 1, none⟩ = some q ∧ w.there E 7 1) (hE : some E ≠ row) (hN : some N ≠ row) :
    w4.cell? ⟨N, 1, none⟩ = some q ∧ w4.there E 7 1 := by
  refine ⟨hg.cell h.1 hN, fun j hj => ?_⟩
  obtain ⟨h1, h2⟩ := h.2 j hj
  obtain ⟨u, hu⟩ := Option.isSome_iff_exists.1 h1
  have hlt := World.block_lt_of_cell? w _ hu
  rw [hg.cell_far ⟨E, 7 + j, none⟩ hlt hE, hg.frozen_far ⟨E, 7 + j, none⟩ hlt hE]
  exact ⟨h1, h2⟩
end Go.Proofs.YtefjhnhdagolhaaGreat
namespace Go.Proofs.YtefjhnhdagolhaaGreat
open Go.RowKit
theorem splice_zeros (xs : List Int) : splice (zeros (.int .i64 0) xs.length) 0 (ints xs) = ints xs := by
  simp [splice, zeros, length_ints]
theorem Sl.src {w w' : World} {a : Option Addr} {n c : Nat} {xs : List Int} (h : Sl w (.slice a n c) (ints xs)) (hb : Below w.heap.size w w') (hp : 0 < (ints xs).length) : ∃ ad, a = some ad ∧ ∀ (j : Nat) (v : Value), (ints xs)[j]? = some v → w'.cell? (ad.add j) = some v := by
  obtain ⟨a', cap, e, -, -, h3⟩ := h.below hb
  simp only [Value.slice.injEq] at e
  rw [e.1]
  rcases h3 with h3 | ⟨g, off, rfl, h3⟩
  · rw [h3] at hp; simp at hp
  · exact ⟨_, rfl, fun j v hj => by rw [addr_add]; exact h3 j v hj⟩
set_option maxHeartbeats 1000000 in
theorem own_any (st co : Int) (nx ou : List Int) (vn vo : Value) (w : World) (hn : Sl w vn (ints nx)) (ho : Sl w vo (ints ou)) (n1 : nx.length ≤ 1048576) (n3 : ou.length ≤ 1048576) :
    Calls Tryz.prog 75 #[.agg #[.int .i64 st, .int .i64 co, vn, vo]] w fun e w' => ∃ g1 g2, e = .returned (.agg #[.int .i64 st, .int .i64 co, .slice (some ⟨g1, 0, none⟩) nx.length nx.length, .slice (some ⟨g2, 0, none⟩) ou.length ou.length]) ∧
      w.heap.size ≤ g1 ∧ w.heap.size ≤ g2 ∧ Row w' g1 3 (ints nx) ∧ Row w' g2 3 (ints ou) ∧ Below w.heap.size w w' := by
  have hmk1 := run_make_zeros (P := Tryz.prog) 22 3 (.int .i64 0) 8 Tryz.underlying22 info_int rfl (nx.length : Int) nx.length rfl (by omega) (by omega)
  have hmk2 := run_make_zeros (P := Tryz.prog) 22 3 (.int .i64 0) 8 Tryz.underlying22 info_int rfl (ou.length : Int) ou.length rfl (by omega) (by omega)
  have HN := hide hn
  have HO := hide ho
  obtain ⟨a1, c1, e1, -⟩ := hn.open_ints
  obtain ⟨a2, c2, e2, -⟩ := ho.open_ints
  clear hn ho
  subst e1
  subst e2
  go_enter Tryz.func75, Tryz.ntmps75
  go_upto_region 1 with fail
  generalize hW0 : World.alloc (World.alloc w _) _ = W0
  have hb0 : Below w.heap.size w W0 := by rw [← hW0]; exact ((Below.refl _ _).alloc (Nat.le_refl _) _).alloc (by simp) _
  have hs0 : w.heap.size + 2 ≤ W0.heap.size := by rw [← hW0]; simp
  have hN : Row W0 w.heap.size 24 [.int .i64 st, .int .i64 co, .slice a1 nx.length c1, .slice a2 ou.length c2] := by rw [← hW0]; exact (Row.new' rfl).alloc _
  have hR : Row W0 (w.heap.size + 1) 24 [.int .i64 0, .int .i64 0, .slice none 0 0, .slice none 0 0] := by rw [← hW0]; exact Row.new' (by simp)
  have q2 : W0.cell? ⟨w.heap.size, 2, none⟩ = some (.slice a1 nx.length c1) := hN.cell_of rfl
  have q2' := fun ob => cell_new q2 ob
  clear hW0
  have HB0 := hide hb0
  have HRN := hide hN
  have HRR := hide hR
  clear hb0 hN hR
  go_wp2_with (with_reducible refine wpList_copy_splice rfl (.tmp 9) (.tmp 11) 22 22 rfl 3 Tryz.underlying22 size_int _ _ _ _ _ _ rfl rfl W0.heap.size 0 (zeros (.int .i64 0) nx.length) 3 ?hg (ints nx) ?hn ?hpos ?hfit ?h1 W0.heap.size W0 ?hb ?hBg ?hk)
  case hg => exact Row.new _ _ _
  case hn => simp [length_ints]
  case hpos =>
    intro hp
    first | exact HN.out.src (Below.next HB0.out (below_alloc _ _) HB0.out.size) hp | exact ⟨rfl, HN.out.src (Below.next HB0.out (below_alloc _ _) HB0.out.size) hp⟩
  case hfit => simp [length_ints, length_zeros]
  case h1 => exact one_ints nx
  case hb => exact below_alloc _ _
  case hBg => exact Nat.le_refl _
  case hk =>
    intro w2 HG2 hB2
    have HR1 := hide (show Row w2 W0.heap.size 3 (ints nx) by have := HG2.out; rw [splice_zeros] at this; exact this)
    clear HG2 q2 q2'
    have q3 : w2.cell? ⟨w.heap.size, 3, none⟩ = some (.slice a2 ou.length c2) := cell_later hB2 (HRN.out.cell_of rfl)
    have q3' := fun ob => cell_new q3 ob
    have HB2 := hide hB2
    clear hB2
    go_wp2_with (with_reducible refine wpList_copy_splice rfl (.tmp 17) (.tmp 19) 22 22 rfl 3 Tryz.underlying22 size_int _ _ _ _ _ _ rfl rfl w2.heap.size 0 (zeros (.int .i64 0) ou.length) 3 ?hg2 (ints ou) ?hn2 ?hpos2 ?hfit2 ?h12 w2.heap.size w2 ?hb2 ?hBg2 ?hk2)
    case hg2 => exact Row.new _ _ _
    case hn2 => simp [length_ints]
    case hpos2 =>
      intro hp
      have hq : Below w.heap.size w w2 := Below.next HB0.out HB2.out HB0.out.size
      first | exact HO.out.src (Below.next hq (below_alloc _ _) hq.size) hp | exact ⟨rfl, HO.out.src (Below.next hq (below_alloc _ _) hq.size) hp⟩
    case hfit2 => simp [length_ints, length_zeros]
    case h12 => exact one_ints ou
    case hb2 => exact below_alloc _ _
    case hBg2 => exact Nat.le_refl _
    case hk2 =>
      intro w3 HG3 hB3
      have HR2 := hide (show Row w3 w2.heap.size 3 (ints ou) by have := HG3.out; rw [splice_zeros] at this; exact this)
      have hz2 := HB2.out.size
      have hz3 := hB3.size
      have hB : Below W0.heap.size W0 w3 := Below.next HB2.out hB3 hz2
      have HR1' := hide (HR1.out.old hB3)
      have hN3 := HRN.out.old hB
      have hR3 := HRR.out.old hB
      have k0 : w3.cell? ⟨w.heap.size, 0, none⟩ = some (.int .i64 st) := hN3.cell_of rfl
      have k1 : w3.cell? ⟨w.heap.size, 1, none⟩ = some (.int .i64 co) := hN3.cell_of rfl
      have k2 : w3.cell? ⟨w.heap.size, 2, none⟩ = some (.slice a1 nx.length c1) := hN3.cell_of rfl
      have k3 : w3.cell? ⟨w.heap.size, 3, none⟩ = some (.slice a2 ou.length c2) := hN3.cell_of rfl
      have r0 : w3.cell? ⟨w.heap.size + 1, 0, none⟩ = some (.int .i64 0) := hR3.cell_of rfl
      have r1 : w3.cell? ⟨w.heap.size + 1, 1, none⟩ = some (.int .i64 0) := hR3.cell_of rfl
      have r2 : w3.cell? ⟨w.heap.size + 1, 2, none⟩ = some (.slice none 0 0) := hR3.cell_of rfl
      have r3 : w3.cell? ⟨w.heap.size + 1, 3, none⟩ = some (.slice none 0 0) := hR3.cell_of rfl
      have f1 := hN3.frozen
      have f2 := hR3.frozen
      have HB3 := hide hB
      clear hN3 hR3 hB3 hB HG3 q3 q3'
      go_wp2
      refine bodyPost_ret (v := .agg #[.int .i64 st, .int .i64 co, .slice (some ⟨W0.heap.size, 0, none⟩) nx.length nx.length, .slice (some ⟨w2.heap.size, 0, none⟩) ou.length ou.length]) (by simp [results, Tryz.results75, go_sem, r0, r1, r2, r3]) rfl ⟨W0.heap.size, w2.heap.size, rfl, by omega, by omega, ?_, ?_, ?_⟩
      · repeat (refine Row.setOther ?_ (by simp; omega) _)
        exact HR1'.out
      · repeat (refine Row.setOther ?_ (by simp; omega) _)
        exact HR2.out
      · repeat (refine Below.setCell ?_ (by simp) _)
        exact Below.next HB0.out HB3.out HB0.out.size
end Go.Proofs.YtefjhnhdagolhaaGreat
namespace Go.Proofs.YtefjhnhdagolhaaGreat
open Go.RowKit
attribute [local go_sem ↓] Go.wp_at_zero Go.wp_at_succ
def RefMade (w : World) (kind : Int) (n : Nat) (cap st co : Int) (nx ou : List Int) (vn vo : Value) (b : Nat) (w' : World) : Prop :=
  ∃ W1 vn' vo' v bT bF, b = W1.heap.size ∧ Below w.heap.size w W1 ∧ RfI W1 n (ccs kind n cap st co vn' vo') v n bT bF w' ∧
    ((kind ≠ 5 ∧ vn' = vn ∧ vo' = vo) ∨ (kind = 5 ∧ ∃ g1 g2, vn' = .slice (some ⟨g1, 0, none⟩) nx.length nx.length ∧ vo' = .slice (some ⟨g2, 0, none⟩) ou.length ou.length ∧ w.heap.size ≤ g1 ∧ w.heap.size ≤ g2 ∧ Row W1 g1 3 (ints nx) ∧ Row W1 g2 3 (ints ou)))
theorem info_pthread : (Tryz.prog.info? 107).map (fun i => (i.zero, i.size, i.bytes)) = some (some (.pointer none), 1, 8) := by kernel_rfl
set_option maxHeartbeats 2000000 in
theorem refNew_one (cap st co : Int) (nx ou : List Int) (vn vo : Value) (w : World) (kind th : Int) (h : ¬ (1 ≤ kind ∧ kind ≤ 5 ∧ 1 ≤ th ∧ th ≤ 64 ∧ 0 ≤ cap ∧ cap ≤ 64)) :
    Calls Tryz.prog 41 #[.agg #[.int .i64 kind, .int .i64 th, .int .i64 cap, .int .i64 st, .int .i64 co, vn, vo]] w fun e w' => e = .returned (.tuple #[.pointer none, .int .i64 (cfgErr kind th cap st co nx ou)]) ∧ Below w.heap.size w w' := by
  rw [cfgErr_one h]
  by_cases c0 : kind < 1
  · clear h
    go_enter Tryz.func41, Tryz.ntmps41
    go_wp2
    go_ret2
    exact ⟨rfl, (by repeat (first | exact Below.refl _ _ | assumption | refine Below.drewN ?_ _ | refine Below.alloc ?_ (by simp) _))⟩
  by_cases c1 : 5 < kind
  · clear h
    go_enter Tryz.func41, Tryz.ntmps41
    go_wp2
    go_ret2
    exact ⟨rfl, (by repeat (first | exact Below.refl _ _ | assumption | refine Below.drewN ?_ _ | refine Below.alloc ?_ (by simp) _))⟩
  by_cases c2 : th < 1
  · clear h
    go_enter Tryz.func41, Tryz.ntmps41
    go_wp2
    go_ret2
    exact ⟨rfl, (by repeat (first | exact Below.refl _ _ | assumption | refine Below.drewN ?_ _ | refine Below.alloc ?_ (by simp) _))⟩
  by_cases c3 : 64 < th
  · clear h
    go_enter Tryz.func41, Tryz.ntmps41
    go_wp2
    go_ret2
    exact ⟨rfl, (by repeat (first | exact Below.refl _ _ | assumption | refine Below.drewN ?_ _ | refine Below.alloc ?_ (by simp) _))⟩
  by_cases c4 : cap < 0
  · clear h
    go_enter Tryz.func41, Tryz.ntmps41
    go_wp2
    go_ret2
    exact ⟨rfl, (by repeat (first | exact Below.refl _ _ | assumption | refine Below.drewN ?_ _ | refine Below.alloc ?_ (by simp) _))⟩
  by_cases c5 : 64 < cap
  · clear h
    go_enter Tryz.func41, Tryz.ntmps41
    go_wp2
    go_ret2
    exact ⟨rfl, (by repeat (first | exact Below.refl _ _ | assumption | refine Below.drewN ?_ _ | refine Below.alloc ?_ (by simp) _))⟩
  exact absurd ⟨by omega, by omega, by omega, by omega, by omega, by omega⟩ h
set_option maxHeartbeats 2000000 in
theorem refNew_two (cap st co : Int) (nx ou : List Int) (vn vo : Value) (w : World) (hn : Sl w vn (ints nx)) (ho : Sl w vo (ints ou)) (th : Int) (h : 1 ≤ th ∧ th ≤ 64 ∧ 0 ≤ cap ∧ cap ≤ 64) (ht : tableOk st co nx ou = false) :
    Calls Tryz.prog 41 #[.agg #[.int .i64 5, .int .i64 th, .int .i64 cap, .int .i64 st, .int .i64 co, vn, vo]] w fun e w' => e = .returned (.tuple #[.pointer none, .int .i64 2]) ∧ Below w.heap.size w w' := by
  obtain ⟨c1, c2, c3, c4⟩ := h
  have hc := fun W hW => refTable_any st co nx ou vn vo W (hn.below hW) (ho.below hW)
  rw [ht] at hc
  have HC := hide hc
  clear hc hn ho ht
  go_enter Tryz.func41, Tryz.ntmps41
  go_wp2_with fail
  refine (HC.out _ (below_alloc _ _)).mono ?_
  rintro e w1 ⟨rfl, hb1⟩
  go_wp2_with fail
  go_ret2
  exact ⟨rfl, Below.next (below_alloc _ _) hb1 (by simp)⟩
end Go.Proofs.YtefjhnhdagolhaaGreat
