import Derived.Test.YtefjhnhdagolhaaGreatQ25
import Derived.Test.YtefjhnhdagolhaaGreatQ03
import Derived.Test.YtefjhnhdagolhaaGreatQ11
import Derived.Test.YtefjhnhdagolhaaGreatQ02
import Derived.Test.YtefjhnhdagolhaaGreatQ29
import Derived.Test.YtefjhnhdagolhaaGreatQ20
namespace Go.Proofs.YtefjhnhdagolhaaGreat
open Go.RowKit
attribute [local go_sem ↓] Go.wp_at_zero Go.wp_at_succ
def tableP (co : Int) (nx ou : List Int) : M.Plain Int where
  first := 0
  apply s o := if 0 ≤ o.c ∧ o.c < co then (nx.getD (s * co + o.c).toNat 0, ⟨1, ou.getD (s * co + o.c).toNat 0⟩) else (s, ⟨4, 0⟩)
theorem table_pos {st co : Int} {nx ou : List Int} (ht : tableOk st co nx ou = true) : 0 < st := by
  simp only [tableOk, Bool.and_eq_true, decide_eq_true_eq] at ht
  obtain ⟨⟨⟨⟨⟨⟨a, -⟩, -⟩, -⟩, -⟩, -⟩, -⟩ := ht
  omega
theorem getD_get {l : List Int} {i : Nat} (h : i < l.length) : l[i]? = some (l.getD i 0) := by simp [List.getD, h]
theorem table_at {st co s c : Int} {nx ou : List Int} (h : tableOk st co nx ou = true) (h0 : 0 ≤ s) (h1 : s < st) (c0 : 0 ≤ c) (c1 : c < co) :
    ∃ i : Nat, (i : Int) = s * co + c ∧ i < nx.length ∧ i < ou.length ∧ i < 1024 ∧ 0 ≤ s * co ∧ s * co ≤ 1024 ∧ 0 ≤ nx.getD i 0 ∧ nx.getD i 0 < st := by
  simp only [tableOk, Bool.and_eq_true, decide_eq_true_eq, List.all_eq_true] at h
  obtain ⟨⟨⟨⟨⟨⟨a1, a2⟩, a3⟩, a4⟩, a5⟩, a6⟩, a7⟩ := h
  have p0 : 0 ≤ s * co := Int.mul_nonneg h0 (by omega)
  have p1 : (s + 1) * co ≤ st * co := Int.mul_le_mul_of_nonneg_right (by omega) (by omega)
  have p2 := (prod_bd a1 a2 a3 a4).2
  rw [Int.add_mul, Int.one_mul] at p1
  have hl : (s * co + c).toNat < nx.length := by omega
  refine ⟨(s * co + c).toNat, by omega, hl, by omega, by omega, p0, by omega, ?_⟩
  have := a7 _ (List.getElem_mem hl)
  have e : nx.getD (s * co + c).toNat 0 = nx[(s * co + c).toNat] := by simp [List.getD, hl]
  rw [e]
  exact this
set_option maxRecDepth 20000 in
set_option maxHeartbeats 1000000 in
theorem tableApply_bad (st co s c a b : Int) (s1 s2 : Value) (w : World) (hc : ¬ (0 ≤ c ∧ c < co)) :
    Calls Tryz.prog 387 #[.agg #[.int .i64 st, .int .i64 co, s1, s2], .int .i64 s, .agg #[.int .i64 c, .int .i64 a, .int .i64 b]] w fun e w' => e = .returned (.tuple #[.int .i64 s, .agg #[.int .i64 4, .int .i64 0]]) ∧ Below w.heap.size w w' := by
  by_cases h0 : c < 0
  · clear hc
    go_enter Tryz.func387, Tryz.ntmps387
    go_wp2_with fail
    generalize hW : World.alloc _ _ = W
    have hb0 : Below w.heap.size w W := by rw [← hW]; exact ((below_alloc w _).alloc (by simp) _).alloc (by simp; omega) _
    have hro : Row W (w.heap.size + 1 + 1) 94 [.int .i64 0, .int .i64 0] := by rw [← hW]; exact Row.new' (by simp)
    have hlt := hro.lt
    clear hW
    refine (badOp_w _).mono ?_
    rintro e w4 ⟨rfl, hb⟩
    have hro4 := hro.old hb
    have a0 : w4.cell? ⟨w.heap.size + 1 + 1, 0, none⟩ = some (.int .i64 0) := hro4.cell_of rfl
    have a1 : w4.cell? ⟨w.heap.size + 1 + 1, 1, none⟩ = some (.int .i64 0) := hro4.cell_of rfl
    have f0 := hro4.frozen 0
    have f1 := hro4.frozen 1
    have HRo := hide (hro4.set 0 (.int .i64 4) |>.set 1 (.int .i64 0))
    have HB := hide (Below.next hb0 hb hb0.size)
    clear hb hro hro4 hb0
    go_wp2_with fail
    have q1 := HRo.out.cell_of (i := 0) rfl
    have q2 := HRo.out.cell_of (i := 1) rfl
    exact bodyPost_ret (v := .tuple #[.int .i64 s, .agg #[.int .i64 4, .int .i64 0]]) (by simp [results, Tryz.results387, go_sem, q1, q2]) rfl ⟨rfl, (HB.out.setCell (by simp; omega) _).setCell (by simp; omega) _⟩
  · have h1 : co ≤ c := by omega
    clear hc
    go_enter Tryz.func387, Tryz.ntmps387
    go_wp2_with fail
    generalize hW : World.alloc _ _ = W
    have hb0 : Below w.heap.size w W := by rw [← hW]; exact ((below_alloc w _).alloc (by simp) _).alloc (by simp; omega) _
    have hro : Row W (w.heap.size + 1 + 1) 94 [.int .i64 0, .int .i64 0] := by rw [← hW]; exact Row.new' (by simp)
    have hlt := hro.lt
    clear hW
    refine (badOp_w _).mono ?_
    rintro e w4 ⟨rfl, hb⟩
    have hro4 := hro.old hb
    have a0 : w4.cell? ⟨w.heap.size + 1 + 1, 0, none⟩ = some (.int .i64 0) := hro4.cell_of rfl
    have a1 : w4.cell? ⟨w.heap.size + 1 + 1, 1, none⟩ = some (.int .i64 0) := hro4.cell_of rfl
    have f0 := hro4.frozen 0
    have f1 := hro4.frozen 1
    have HRo := hide (hro4.set 0 (.int .i64 4) |>.set 1 (.int .i64 0))
    have HB := hide (Below.next hb0 hb hb0.size)
    clear hb hro hro4 hb0
    go_wp2_with fail
    have q1 := HRo.out.cell_of (i := 0) rfl
    have q2 := HRo.out.cell_of (i := 1) rfl
    exact bodyPost_ret (v := .tuple #[.int .i64 s, .agg #[.int .i64 4, .int .i64 0]]) (by simp [results, Tryz.results387, go_sem, q1, q2]) rfl ⟨rfl, (HB.out.setCell (by simp; omega) _).setCell (by simp; omega) _⟩
set_option maxRecDepth 20000 in
set_option maxHeartbeats 2000000 in
theorem tableApply_go (st co s c a b x y : Int) (g1 g2 m1 k1 m2 k2 i : Nat) (w : World) (c0 : 0 ≤ c) (c1 : c < co) (hi : (i : Int) = s * co + c) (p0 : 0 ≤ s * co) (p1 : s * co ≤ 1024) (hi1 : i < 1024) (h1 : i < m1) (h2 : i < m2) (x1 : w.cell? ⟨g1, i, none⟩ = some (.int .i64 x)) (y1 : w.cell? ⟨g2, i, none⟩ = some (.int .i64 y)) :
    Calls Tryz.prog 387 #[.agg #[.int .i64 st, .int .i64 co, .slice (some ⟨g1, 0, none⟩) m1 k1, .slice (some ⟨g2, 0, none⟩) m2 k2], .int .i64 s, .agg #[.int .i64 c, .int .i64 a, .int .i64 b]] w fun e w' => e = .returned (.tuple #[.int .i64 x, .agg #[.int .i64 1, .int .i64 y]]) ∧ Below w.heap.size w w' := by
  have h0 : ¬ c < 0 := by omega
  have hc : ¬ co ≤ c := by omega
  have hm : wrap64 (s * co) = s * co := by unfold wrap64; omega
  have ha : wrap64 (s * co + c) = (i : Int) := by rw [← hi]; unfold wrap64; omega
  have hi' : s * co + c = (i : Int) := hi.symm
  have hi0 : (0 : Int) ≤ (i : Int) := by omega
  have hi1' : (i : Int) < (m1 : Int) := by omega
  have hi2' : (i : Int) < (m2 : Int) := by omega
  have hi3' : (i : Int) ≤ 9223372036854775807 := by omega
  clear hi
  have hg1 : g1 < w.heap.size := World.block_lt_of_cell? w _ x1
  have hg2 : g2 < w.heap.size := World.block_lt_of_cell? w _ y1
  go_enter Tryz.func387, Tryz.ntmps387
  go_upto_region 1 with fail
  generalize hW : World.alloc (World.alloc (World.alloc w _) _) _ = W
  have hb0 : Below w.heap.size w W := by rw [← hW]; exact ((below_alloc w _).alloc (by simp) _).alloc (by simp; omega) _
  have r3 : Row W w.heap.size 152 [.int .i64 st, .int .i64 co, .slice (some ⟨g1, 0, none⟩) m1 k1, .slice (some ⟨g2, 0, none⟩) m2 k2] := by rw [← hW]; exact ((Row.new' rfl).alloc _).alloc _
  have r5 : Row W (w.heap.size + 1) 36 [.int .i64 c, .int .i64 a, .int .i64 b] := by rw [← hW]; exact (Row.new' (by simp)).alloc _
  have r7 : Row W (w.heap.size + 1 + 1) 94 [.int .i64 0, .int .i64 0] := by rw [← hW]; exact Row.new' (by simp)
  have x1' := cell_later hb0 x1
  have y1' := cell_later hb0 y1
  have o0 := r5.cell_of (i := 0) rfl
  have d1 := r3.cell_of (i := 1) rfl
  have d2 := r3.cell_of (i := 2) rfl
  have d3 := r3.cell_of (i := 3) rfl
  have hlt := r7.lt
  have HB0 := hide hb0
  have HR7 := hide r7
  clear hW hb0 r3 r5 r7 x1 y1
  go_upto_region 4 with fail
  have hth : W.there (w.heap.size + 1 + 1) 0 2 := HR7.out.there (by simp)
  have hk9 := fun (W' : World) (vs : List Value) (p : Addr) (hp : p.block < w.heap.size + 1 + 1) => (below_setCells (B := w.heap.size + 1 + 1) (b := w.heap.size + 1 + 1) (Nat.le_refl _) vs 0 W' (Below.refl _ _)).cell (p := p) hp
  refine rg0 (S := (fun w' => w'.there (w.heap.size + 1 + 1) 0 2 ∧ Below w.heap.size w w' ∧ w'.cell? ⟨w.heap.size, 2, none⟩ = some (.slice (some ⟨g1, 0, none⟩) m1 k1) ∧ w'.cell? ⟨w.heap.size, 3, none⟩ = some (.slice (some ⟨g2, 0, none⟩) m2 k2) ∧ w'.cell? ⟨g1, i, none⟩ = some (.int .i64 x) ∧ w'.cell? ⟨g2, i, none⟩ = some (.int .i64 y))) 15 rfl (by kernel_rfl) ?_ (fun hHeld => ?_)
  · exact ⟨hth, HB0.out.drew, d2, d3, x1', y1'⟩
  iterate 12 (refine tk 14 (by rfl) (by kernel_rfl) (by exact fun _ _ _ h => h) (.inl ⟨by rfl, fun w hS => by (try dsimp only at hS); go_simp; (try with_reducible rfl)⟩) (by assumption) ?_; try go_frame)
  refine rd1 12 (by rfl) (by kernel_rfl) (fun K hK => ?_)
  go_simp
  refine (done_w _ _).mono ?_
  rintro e w2 ⟨rfl, hb2⟩
  go_wp2_with fail
  refine hK.out _ _ ?_ (fun hHeld => ?_)
  · exact ⟨there_later hb2 hHeld.1, Below.next hHeld.2.1 hb2 hHeld.2.1.size, cell_later hb2 hHeld.2.2.1, cell_later hb2 hHeld.2.2.2.1, cell_later hb2 hHeld.2.2.2.2.1, cell_later hb2 hHeld.2.2.2.2.2⟩
  clear hK K
  (try go_frame)
  iterate 1 (refine tk 14 (by rfl) (by kernel_rfl) (by exact fun _ _ _ h => h) (.inl ⟨by rfl, fun w hS => by (try dsimp only at hS); go_simp; (try with_reducible rfl)⟩) (by assumption) ?_; try go_frame)
  refine rd1 14 (by rfl) (by kernel_rfl) (fun K hK => ?_)
  rw [if_pos (by rfl)]
  have e1 := World.rangeAt_setCells_same _ (w.heap.size + 1 + 1) 0 [.int .i64 1, .int .i64 y] hHeld.1
  refine wp_store_mid _ _ _ rfl _ 0 #[.int .i64 1, .int .i64 y] rfl rfl hHeld.1 (by kernel_rfl) (by simp [Value.oneCell']) ?_
  refine hK.out _ _ ?_ (fun hHeld => ?_)
  · exact ⟨World.there_setCells hHeld.1 _ _ _, below_setCells (by omega) _ _ _ hHeld.2.1, (hk9 _ _ _ (by dsimp only; omega)).trans hHeld.2.2.1, (hk9 _ _ _ (by dsimp only; omega)).trans hHeld.2.2.2.1, (hk9 _ _ _ (by dsimp only; omega)).trans hHeld.2.2.2.2.1, (hk9 _ _ _ (by dsimp only; omega)).trans hHeld.2.2.2.2.2⟩
  clear hK K
  (try go_frame)
  refine wpAnyH_done (by kernel_rfl) ?_ _
  have q1 := e1 0 _ rfl
  have q2 := e1 1 _ rfl
  have HB9 := hide hHeld.2.1
  clear hHeld
  go_wp2_with fail
  exact bodyPost_ret (v := .tuple #[.int .i64 x, .agg #[.int .i64 1, .int .i64 y]]) (by simp [results, Tryz.results387, go_sem, q1, q2]) rfl ⟨rfl, HB9.out⟩
theorem tableApply_m (a b c d : Value) (w : World) : (method 553 152 (.agg #[a, b, c, d]) "Apply").run Tryz.prog w = .ok (387, .agg #[a, b, c, d]) w := by kernel_rfl
theorem tableApply_c (a b c d s o : Value) (w : World) : (callFunc 387 #[.agg #[a, b, c, d], s, o]).run Tryz.prog w = .ok (.enter 387 #[.agg #[a, b, c, d], s, o]) w := by kernel_rfl
def ListAt (w : World) (g : Nat) (l : List Int) : Prop := g < w.heap.size ∧ ∀ i x, l[i]? = some x → w.cell? ⟨g, i, none⟩ = some (.int .i64 x)
theorem ListAt.stay {w w' : World} {g : Nat} {l : List Int} (h : ListAt w g l) (hk : w'.heap[g]? = w.heap[g]?) : ListAt w' g l := by
  refine ⟨?_, fun i x hx => ?_⟩
  · rw [Array.getElem?_eq_getElem h.1] at hk
    exact (Array.getElem?_eq_some_iff.mp hk).1
  · rw [World.cell?_of_block (w := w) hk]
    exact h.2 i x hx
theorem ListAt.later {w w' : World} {g : Nat} {l : List Int} (h : ListAt w g l) (hb : Below w.heap.size w w') : ListAt w' g l := h.stay (hb.block g h.1)
def tableR (g1 g2 : Nat) (st : Int) (nx ou : List Int) : int.SR Int where
  sz _ := 0
  rep I w s c := c = [.int .i64 s] ∧ (0 ≤ s ∧ s < st) ∧ (I g1 ∧ ListAt w g1 nx) ∧ I g2 ∧ ListAt w g2 ou
  len h := by rw [h.1]; rfl
  shape h v hv := by rw [h.1] at hv; exact ⟨_, List.mem_singleton.mp hv⟩
  stay hk h := ⟨h.1, h.2.1, ⟨(hk _ h.2.2.1.1 h.2.2.1.2.1).1, h.2.2.1.2.stay (hk _ h.2.2.1.1 h.2.2.1.2.1).2⟩, (hk _ h.2.2.2.1 h.2.2.2.2.1).1, h.2.2.2.2.stay (hk _ h.2.2.2.1 h.2.2.2.2.1).2⟩
theorem tableAp {st co : Int} {nx ou : List Int} (ht : tableOk st co nx ou = true) (g1 k1 g2 k2 : Nat) (L : int.Lt) (ho : L.oT = 152) (hv : L.ov = .agg #[.int .i64 st, .int .i64 co, .slice (some ⟨g1, 0, none⟩) nx.length k1, .slice (some ⟨g2, 0, none⟩) ou.length k2]) :
    int.ApOk (tableR g1 g2 st nx ou) (tableP co nx ou) L 387 (.agg #[.int .i64 st, .int .i64 co, .slice (some ⟨g1, 0, none⟩) nx.length k1, .slice (some ⟨g2, 0, none⟩) ou.length k2]) := by
  refine ⟨⟨Nat.zero_le _, fun _ _ => Nat.zero_le _⟩, fun W => by rw [ho, hv]; exact tableApply_m _ _ _ _ W, fun s o W => tableApply_c _ _ _ _ s o W, fun I W s x op hr _ hI => ?_⟩
  obtain ⟨hx, ⟨h0, h1⟩, ⟨i1, c1⟩, i2, c2⟩ := hr
  have hx : x = .int .i64 s := by simpa using hx
  subst hx
  by_cases hc : 0 ≤ op.c ∧ op.c < co
  · obtain ⟨i, hi, l1, l2, l3, p0, p1, n0, n1⟩ := table_at ht h0 h1 hc.1 hc.2
    have e : (tableP co nx ou).apply s op = (nx.getD i 0, ⟨1, ou.getD i 0⟩) := by
      show (if _ then _ else _) = _
      rw [if_pos hc, ← hi]
      rfl
    refine (tableApply_go st co s op.c op.a op.b _ _ g1 g2 _ k1 _ k2 i W hc.1 hc.2 hi p0 p1 l3 l1 l2 (c1.2 i _ (getD_get l1)) (c2.2 i _ (getD_get l2))).mono ?_
    rintro e' w' ⟨rfl, hb⟩
    rw [e]
    exact ⟨_, rfl, ⟨rfl, ⟨n0, n1⟩, ⟨.inl i1, c1.later hb⟩, .inl i2, c2.later hb⟩, hb⟩
  · have e : (tableP co nx ou).apply s op = (s, ⟨4, 0⟩) := by
      show (if _ then _ else _) = _
      rw [if_neg hc]
    refine (tableApply_bad st co s op.c op.a op.b _ _ W hc).mono ?_
    rintro e' w' ⟨rfl, hb⟩
    rw [e]
    exact ⟨_, rfl, ⟨rfl, ⟨h0, h1⟩, ⟨.inl i1, c1.later hb⟩, .inl i2, c2.later hb⟩, hb⟩
theorem tableTe {st co : Int} {nx ou : List Int} (g1 k1 g2 k2 : Nat) (L : int.Lt) (ho : L.oT = 152) (hv : L.ov = .agg #[.int .i64 st, .int .i64 co, .slice (some ⟨g1, 0, none⟩) nx.length k1, .slice (some ⟨g2, 0, none⟩) ou.length k2]) :
    int.TeOk (tableR g1 g2 st nx ou) L (fun s => [s]) 388 (.agg #[.int .i64 st, .int .i64 co, .slice (some ⟨g1, 0, none⟩) nx.length k1, .slice (some ⟨g2, 0, none⟩) ou.length k2]) where
  m W := by rw [ho, hv]; kernel_rfl
  c s W := tableTell_c _ _ _ _ s W
  f I W s x hr _ _ := by
    have e : x = s := by simpa using hr.1
    subst e
    exact tableTell _ _ _ _ x W
end Go.Proofs.YtefjhnhdagolhaaGreat
namespace Go.Proofs.YtefjhnhdagolhaaGreat
open Go.RowKit
attribute [local go_sem ↓] Go.wp_at_zero Go.wp_at_succ
section
variable (st co s a b2 : Int) (b : Nat) (w : World) (vl : Value)
set_option maxRecDepth 20000 in
set_option maxHeartbeats 1000000 in
theorem heap_bad (s1 s2 : Value) (k : Int) (hk : ¬ (0 ≤ k ∧ k < co)) (hR : Row w b 132 [.int .i64 5, .int .i64 st, .int .i64 co, s1, s2, .int .i64 s, vl]) :
    Calls Tryz.prog 72 #[.pointer (some ⟨b, 0, none⟩), .agg #[.int .i64 k, .int .i64 a, .int .i64 b2]] w fun e w' => e = .returned (.agg #[.int .i64 4, .int .i64 0]) ∧ Below w.heap.size w w' := by
  have c0 := hR.cell_of (i := 0) rfl
  have c2 := hR.cell_of (i := 2) rfl
  by_cases h0 : 0 ≤ k
  all_goals
    have h1 : 0 ≤ k → co ≤ k := by omega
    try simp only [h0, forall_const] at h1
    try replace h0 : decide (0 ≤ k) = false := decide_eq_false h0
    clear hk
    go_enter Tryz.func72, Tryz.ntmps72
    go_upto_region 1 with fail
    generalize hW : World.alloc (World.alloc w _) _ = W
    have hb : Below w.heap.size w W := by rw [← hW]; exact ((Below.refl _ _).alloc (Nat.le_refl _) _).alloc (by simp) _
    have r0 : Row W w.heap.size 36 [.int .i64 k, .int .i64 a, .int .i64 b2] := by rw [← hW]; exact (Row.new' rfl).alloc _
    have r1 : Row W (w.heap.size + 1) 94 [.int .i64 0, .int .i64 0] := by rw [← hW]; exact Row.new' (by simp)
    have d0 := cell_later hb c0
    have d2 := cell_later hb c2
    have x0 := r0.cell_of (i := 0) rfl
    have HR1 := hide r1
    have HB := hide hb
    clear hW hR c0 c2 r0 r1 hb
    go_upto_region 9 with fail
    go_quiet (fail)
    generalize hW2 : World.drewN W nq = W2
    have HB2 := hide (show Below w.heap.size w W2 by rw [← hW2]; exact Below.drewN HB.out _)
    have r2 : Row W2 (w.heap.size + 1) 94 [.int .i64 0, .int .i64 0] := by rw [← hW2]; exact HR1.out
    have y0 := r2.cell_of (i := 0) rfl
    have y1 := r2.cell_of (i := 1) rfl
    have z0 := r2.frozen 0
    have z1 := r2.frozen 1
    have HRo := hide (r2.set 0 (.int .i64 4) |>.set 1 (.int .i64 0))
    clear hW2 r2 d0 d2 x0
    go_wp2_with fail
    have q1 := HRo.out.cell_of (i := 0) rfl
    have q2 := HRo.out.cell_of (i := 1) rfl
    exact bodyPost_ret (v := .agg #[.int .i64 4, .int .i64 0]) (by simp [results, Tryz.results72, go_sem, q1, q2]) rfl ⟨rfl, (HB2.out.setCell (by simp) _).setCell (by simp) _⟩
set_option maxRecDepth 20000 in
set_option maxHeartbeats 2000000 in
theorem heap_go (k x y : Int) (g1 g2 m1 k1 m2 k2 i : Nat) (c0 : 0 ≤ k) (c1 : k < co) (hi : (i : Int) = s * co + k) (p0 : 0 ≤ s * co) (p1 : s * co ≤ 1024) (hi1 : i < 1024) (h1 : i < m1) (h2 : i < m2) (x1 : w.cell? ⟨g1, i, none⟩ = some (.int .i64 x)) (y1 : w.cell? ⟨g2, i, none⟩ = some (.int .i64 y)) (n2 : g2 ≠ b)
    (hR : Row w b 132 [.int .i64 5, .int .i64 st, .int .i64 co, .slice (some ⟨g1, 0, none⟩) m1 k1, .slice (some ⟨g2, 0, none⟩) m2 k2, .int .i64 s, vl]) :
    Calls Tryz.prog 72 #[.pointer (some ⟨b, 0, none⟩), .agg #[.int .i64 k, .int .i64 a, .int .i64 b2]] w fun e w' => e = .returned (.agg #[.int .i64 1, .int .i64 y]) ∧ Row w' b 132 [.int .i64 5, .int .i64 st, .int .i64 co, .slice (some ⟨g1, 0, none⟩) m1 k1, .slice (some ⟨g2, 0, none⟩) m2 k2, .int .i64 x, vl] ∧ Fr (fun k => k = b) w w' := by
  have v0 := hR.cell_of (i := 0) rfl
  have v2 := hR.cell_of (i := 2) rfl
  have v3 := hR.cell_of (i := 3) rfl
  have v4 := hR.cell_of (i := 4) rfl
  have v5 := hR.cell_of (i := 5) rfl
  have hgl : b < w.heap.size := hR.lt
  have hm : wrap64 (s * co) = s * co := by unfold wrap64; omega
  have ha : wrap64 (s * co + k) = (i : Int) := by rw [← hi]; unfold wrap64; omega
  have hi' : s * co + k = (i : Int) := hi.symm
  have hi0 : (0 : Int) ≤ (i : Int) := by omega
  have hi1' : (i : Int) < (m1 : Int) := by omega
  have hi2' : (i : Int) < (m2 : Int) := by omega
  have hi3' : (i : Int) ≤ 9223372036854775807 := by omega
  have HR0 := hide hR
  clear hi
  go_enter Tryz.func72, Tryz.ntmps72
  go_upto_region 1 with fail
  generalize hW : World.alloc (World.alloc w _) _ = W
  have hb : Below w.heap.size w W := by rw [← hW]; exact ((Below.refl _ _).alloc (Nat.le_refl _) _).alloc (by simp) _
  have r0 : Row W w.heap.size 36 [.int .i64 k, .int .i64 a, .int .i64 b2] := by rw [← hW]; exact (Row.new' rfl).alloc _
  have r1 : Row W (w.heap.size + 1) 94 [.int .i64 0, .int .i64 0] := by rw [← hW]; exact Row.new' (by simp)
  have d0 := cell_later hb v0
  have d2 := cell_later hb v2
  have d3 := cell_later hb v3
  have d4 := cell_later hb v4
  have d5 := cell_later hb v5
  have dx := cell_later hb x1
  have dy := cell_later hb y1
  have x0 := r0.cell_of (i := 0) rfl
  have HR1 := hide r1
  have HB := hide hb
  clear hW hR v0 v2 v3 v4 v5 x1 y1 r0 r1 hb
  go_upto_region 9 with fail
  go_quiet (fail)
  generalize hW2 : World.drewN W nq = W2
  have HB2 := hide (show Below w.heap.size w W2 by rw [← hW2]; exact Below.drewN HB.out _)
  have hR2 : Row W2 (w.heap.size + 1) 94 [.int .i64 0, .int .i64 0] := by rw [← hW2]; exact HR1.out
  replace d2 : W2.cell? ⟨b, 2, none⟩ = some (.int .i64 co) := by rw [← hW2]; exact d2
  replace d3 : W2.cell? ⟨b, 3, none⟩ = some (.slice (some ⟨g1, 0, none⟩) m1 k1) := by rw [← hW2]; exact d3
  replace d4 : W2.cell? ⟨b, 4, none⟩ = some (.slice (some ⟨g2, 0, none⟩) m2 k2) := by rw [← hW2]; exact d4
  replace d5 : W2.cell? ⟨b, 5, none⟩ = some (.int .i64 s) := by rw [← hW2]; exact d5
  replace dx : W2.cell? ⟨g1, i, none⟩ = some (.int .i64 x) := by rw [← hW2]; exact dx
  replace dy : W2.cell? ⟨g2, i, none⟩ = some (.int .i64 y) := by rw [← hW2]; exact dy
  replace x0 : W2.cell? ⟨w.heap.size, 0, none⟩ = some (.int .i64 k) := by rw [← hW2]; exact x0
  have HR2 := hide hR2
  clear hW2 hR2 HR1 HB d0
  go_upto_region 10 with fail
  go_quiet (fail)
  generalize hW3 : World.drewN W2 _ = W3
  have HB3 := hide (show Below w.heap.size w W3 by rw [← hW3]; exact Below.drewN HB2.out _)
  have hR3 : Row W3 (w.heap.size + 1) 94 [.int .i64 0, .int .i64 0] := by rw [← hW3]; exact HR2.out
  have hRb := HR0.out.of_block (HB3.out.block b hgl)
  have f5 := hRb.frozen 5
  replace d3 : W3.cell? ⟨b, 3, none⟩ = some (.slice (some ⟨g1, 0, none⟩) m1 k1) := by rw [← hW3]; exact d3
  replace d4 : W3.cell? ⟨b, 4, none⟩ = some (.slice (some ⟨g2, 0, none⟩) m2 k2) := by rw [← hW3]; exact d4
  replace d5 : W3.cell? ⟨b, 5, none⟩ = some (.int .i64 s) := by rw [← hW3]; exact d5
  replace dx : W3.cell? ⟨g1, i, none⟩ = some (.int .i64 x) := by rw [← hW3]; exact dx
  replace dy : W3.cell? ⟨g2, i, none⟩ = some (.int .i64 y) := by rw [← hW3]; exact dy
  have HR3 := hide hR3
  have HRB := hide (hRb.set 5 (.int .i64 x))
  clear hW3 hR3 HR2 HB2 d2 x0 hRb
  go_upto_region 12 with fail
  have HS := hide (show Fr (fun k => k = b) w (W3.setCell ⟨b, 5, none⟩ (.int .i64 x)) from (Fr.of_below (own := fun k => k = b) HB3.out).here (b := b) rfl 5 _)
  have e4 : (W3.setCell ⟨b, 5, none⟩ (.int .i64 x)).cell? ⟨b, 4, none⟩ = some (.slice (some ⟨g2, 0, none⟩) m2 k2) := HRB.out.cell_of rfl
  have ey : (W3.setCell ⟨b, 5, none⟩ (.int .i64 x)).cell? ⟨g2, i, none⟩ = some (.int .i64 y) := cell_kept dy (.inl (by simpa using n2))
  have hr4 : Row (W3.setCell ⟨b, 5, none⟩ (.int .i64 x)) (w.heap.size + 1) 94 [.int .i64 0, .int .i64 0] := HR3.out.setOther (show w.heap.size + 1 ≠ b by omega) _
  generalize W3.setCell ⟨b, 5, none⟩ (.int .i64 x) = W4 at *
  have y0 := hr4.cell_of (i := 0) rfl
  have y1 := hr4.cell_of (i := 1) rfl
  have z0 := hr4.frozen 0
  have z1 := hr4.frozen 1
  have HRo := hide (hr4.set 0 (.int .i64 1) |>.set 1 (.int .i64 y))
  clear hr4 HR3 d3 d4 d5 dx dy f5
  go_wp2_with fail
  have q1 := HRo.out.cell_of (i := 0) rfl
  have q2 := HRo.out.cell_of (i := 1) rfl
  refine bodyPost_ret (v := .agg #[.int .i64 1, .int .i64 y]) (by simp [results, Tryz.results72, go_sem, q1, q2]) rfl ⟨rfl, ?_, ?_⟩
  · exact (HRB.out.setOther (show b ≠ w.heap.size + 1 by omega) _).setOther (show b ≠ w.heap.size + 1 by omega) _
  · refine HS.out.grow (own' := fun k => k = w.heap.size + 1) (((Fr.refl (fun k => k = w.heap.size + 1) _).here (b := w.heap.size + 1) rfl _ _).here (b := w.heap.size + 1) rfl _ _) (fun k hk => .inr (by omega))
end
theorem heap_w {st co s : Int} {nx ou : List Int} {vn vo vl : Value} {b B : Nat} {w : World} (ht : tableOk st co nx ou = true) (h0 : 0 ≤ s) (h1 : s < st) (hn : w.ownsRow B 3 1 vn nx.length (ints nx)) (ho : w.ownsRow B 3 1 vo ou.length (ints ou)) (hR : Row w b 132 [.int .i64 5, .int .i64 st, .int .i64 co, vn, vo, .int .i64 s, vl]) (op : M.Op) :
    Calls Tryz.prog 72 #[.pointer (some ⟨b, 0, none⟩), .agg #[.int .i64 op.c, .int .i64 op.a, .int .i64 op.b]] w fun e w' => e = .returned (.agg #[.int .i64 ((tableP co nx ou).apply s op).2.s, .int .i64 ((tableP co nx ou).apply s op).2.v]) ∧ Row w' b 132 [.int .i64 5, .int .i64 st, .int .i64 co, vn, vo, .int .i64 ((tableP co nx ou).apply s op).1, vl] ∧ Fr (fun k => k = b) w w' ∧ 0 ≤ ((tableP co nx ou).apply s op).1 ∧ ((tableP co nx ou).apply s op).1 < st := by
  by_cases kc : 0 ≤ op.c ∧ op.c < co
  · obtain ⟨i, hi, l1, l2, l3, p0, p1, n0, n1⟩ := table_at ht h0 h1 kc.1 kc.2
    have e : (tableP co nx ou).apply s op = (nx.getD i 0, ⟨1, ou.getD i 0⟩) := by
      show (if _ then _ else _) = _
      rw [if_pos kc, ← hi]
      rfl
    rw [e]
    obtain ⟨g1, k1, rfl, q1⟩ := owns_get hn (i := i) (u := .int .i64 (nx.getD i 0)) (by rw [ints, List.getElem?_map, getD_get l1]; rfl)
    obtain ⟨g2, k2, rfl, q2⟩ := owns_get ho (i := i) (u := .int .i64 (ou.getD i 0)) (by rw [ints, List.getElem?_map, getD_get l2]; rfl)
    refine (heap_go st co s op.a op.b b w vl op.c (nx.getD i 0) (ou.getD i 0) g1 g2 _ _ _ _ i kc.1 kc.2 hi p0 p1 l3 l1 l2 q1 q2 (fun q => owns_apart ho hR (by decide) (by rw [q]; rfl)) hR).mono ?_
    rintro e' w' ⟨rfl, q1, q2⟩
    exact ⟨rfl, q1, q2, n0, n1⟩
  · have e : (tableP co nx ou).apply s op = (s, ⟨4, 0⟩) := by
      show (if _ then _ else _) = _
      rw [if_neg kc]
    rw [e]
    refine (heap_bad st co s op.a op.b b w vl _ _ op.c kc hR).mono ?_
    rintro e' w' ⟨rfl, q⟩
    exact ⟨rfl, hR.old q, Fr.of_below q, h0, h1⟩
end Go.Proofs.YtefjhnhdagolhaaGreat
namespace Go.Proofs.YtefjhnhdagolhaaGreat
open M (RSt RTh Dd PI Plc)
namespace M
def tg : Nat → List (List Nat) → List (Nat × Nat)
  | _, [] => []
  | o, p :: bs => (p.map fun t => (o, t)) ++ tg (o + 1) bs
theorem tg_eq (bs : List (List Nat)) : ∀ o, (bs.mapIdx fun i p => (i + o, p)).flatMap (fun x => x.2.map fun t => (x.1, t)) = tg o bs := by
  induction bs with
  | nil => intro o; rfl
  | cons p bs ih =>
    intro o
    simp only [List.mapIdx_cons, List.flatMap_cons]
    rw [show (fun i p => (i + 1 + o, p) : Nat → List Nat → Nat × List Nat) = fun i p => (i + (o + 1), p) by funext i p; rw [Nat.add_assoc, Nat.add_comm 1 o], ih (o + 1)]
    simp only [Nat.zero_add]
    rfl
theorem all_tg (Y : RSt) : Y.all = tg 1 Y.bs := tg_eq Y.bs 1
theorem tg_first : ∀ (bs : List (List Nat)) (o b t : Nat), BOk bs → (tg o bs)[0]? = some (b, t) → b = o
  | [], o, b, t, _, h => by cases h
  | [] :: bs, o, b, t, hb, _ => ((hb [] List.mem_cons_self).1 rfl).elim
  | (a :: p) :: bs, o, b, t, _, h => by
    have : (o, a) = (b, t) := by simpa [tg] using h
    exact (congrArg Prod.fst this).symm
theorem tg_step : ∀ (bs : List (List Nat)) (o k b t b' t' : Nat), BOk bs → (tg o bs)[k]? = some (b, t) → (tg o bs)[k + 1]? = some (b', t') → b' = b + 1 ∨ (b' = b ∧ t < t')
  | [], o, k, b, t, b', t', _, h, _ => by simp [tg] at h
  | p :: bs, o, k, b, t, b', t', hb, h, h' => by
    have hbs : BOk bs := fun q hq => hb q (List.mem_cons_of_mem _ hq)
    have hp := (hb p List.mem_cons_self).2
    unfold tg at h h'
    by_cases c1 : k + 1 < p.length
    · rw [List.getElem?_append_left (by simp; omega), List.getElem?_map, List.getElem?_eq_getElem (by omega)] at h
      rw [List.getElem?_append_left (by simp; omega), List.getElem?_map, List.getElem?_eq_getElem c1] at h'
      simp at h h'
      obtain ⟨rfl, rfl⟩ := h
      obtain ⟨rfl, rfl⟩ := h'
      exact .inr ⟨rfl, List.pairwise_iff_getElem.mp hp k (k + 1) (by omega) c1 (by omega)⟩
    · rw [List.getElem?_append_right (by simp; omega), List.length_map] at h'
      by_cases c2 : k < p.length
      · rw [List.getElem?_append_left (by simp; omega), List.getElem?_map, List.getElem?_eq_getElem c2] at h
        simp at h
        obtain ⟨rfl, -⟩ := h
        rw [show k + 1 - p.length = 0 by omega] at h'
        exact .inl (tg_first bs _ _ _ hbs h')
      · rw [List.getElem?_append_right (by simp; omega), List.length_map] at h
        rw [show k + 1 - p.length = k - p.length + 1 by omega] at h'
        exact tg_step bs (o + 1) (k - p.length) b t b' t' hbs h h'
theorem order_first {Y : RSt} (hb : BOk Y.bs) {m : Mark} (h : Y.order[0]? = some m) : m.b = 1 := by
  have := (order_get h).2
  rw [all_tg] at this
  exact tg_first _ _ _ _ hb this
theorem order_step {Y : RSt} (hb : BOk Y.bs) {k : Nat} {m m' : Mark} (h : Y.order[k]? = some m) (h' : Y.order[k + 1]? = some m') : m'.b = m.b + 1 ∨ (m'.b = m.b ∧ m.t < m'.t) := by
  have a := (order_get h).2
  have b := (order_get h').2
  rw [all_tg] at a b
  exact tg_step _ _ _ _ _ _ _ hb a b
theorem order_len_flat (Y : RSt) : Y.order.length = Y.bs.flatten.length := by
  unfold RSt.order
  rw [marks_len, ← List.length_map (f := Prod.snd), Y.all_snd]
def Sn (Y : RSt) (D : List Dd) (k : Nat) (sn : List Bool) : Prop := sn.length = D.length ∧ ∀ (i : Nat) (d : Dd), D[i]? = some d → ∃ v, sn[i]? = some v ∧ (v = true ↔ ∃ j, j < k ∧ Plc Y.bs.flatten d.t d.s j)
theorem Sn.new (Y : RSt) (D : List Dd) : Sn Y D 0 (List.replicate D.length false) := by
  refine ⟨by simp, fun i d hd => ⟨false, ?_, ?_⟩⟩
  · have := (List.getElem?_eq_some_iff.mp hd).1
    simp [this]
  · exact ⟨fun q => (by cases q), fun ⟨j, q, _⟩ => by omega⟩
section
variable {σ : Type} {P : Plain σ} {n cap : Nat} {Y : RSt} {D : List Dd} {u : Nat → Option Nat} {c k : Nat} {sn : List Bool}
theorem Sn.not (h : Sn Y D k sn) {i : Nat} {d : Dd} (hd : D[i]? = some d) (hp : Plc Y.bs.flatten d.t d.s k) : sn[i]? = some false := by
  obtain ⟨v, h1, h2⟩ := h.2 i d hd
  cases v with
  | false => exact h1
  | true =>
    obtain ⟨j, h3, h4⟩ := h2.1 rfl
    have := h4.uniq hp
    omega
theorem Sn.put (h : Sn Y D k sn) (hI : PI P n cap Y D u c) {i : Nat} {d : Dd} (hd : D[i]? = some d) (hp : Plc Y.bs.flatten d.t d.s k) : Sn Y D (k + 1) (sn.set i true) := by
  refine ⟨by rw [List.length_set]; exact h.1, fun j e he => ?_⟩
  by_cases q : i = j
  · subst q
    rw [hd] at he
    injection he with he
    subst he
    refine ⟨true, ?_, fun _ => ⟨k, Nat.lt_succ_self _, hp⟩, fun _ => rfl⟩
    have := (List.getElem?_eq_some_iff.mp hd).1
    simp [h.1, this]
  · obtain ⟨v, h1, h2⟩ := h.2 j e he
    refine ⟨v, by rw [List.getElem?_set_ne q]; exact h1, h2.trans ⟨fun ⟨x, h3, h4⟩ => ⟨x, by omega, h4⟩, fun ⟨x, h3, h4⟩ => ?_⟩⟩
    by_cases hx : x = k
    · subst hx
      have e1 : d.t = e.t := by have a := hp.1; rw [h4.1] at a; injection a with a; exact a.symm
      have e2 : d.s = e.s := by have a := hp.2; rw [e1, h4.2] at a; exact a.symm
      exact (q (hI.uniq hd he e1 e2)).elim
    · exact ⟨x, by omega, h4⟩
theorem Sn.all (h : Sn Y D Y.order.length sn) (hI : PI P n cap Y D u c) {i : Nat} {d : Dd} (hd : D[i]? = some d) (he : 0 < d.en) : sn[i]? = some true := by
  obtain ⟨v, h1, h2⟩ := h.2 i d hd
  obtain ⟨j, hj, -⟩ := hI.an d (List.mem_of_getElem? hd) he
  have : v = true := h2.2 ⟨j, by rw [order_len_flat]; exact hj.lt, hj⟩
  rw [this] at h1
  exact h1
theorem PI.count_le (hI : PI P n cap Y D u c) {K : Nat} (hn : n ≤ 64) (hK : ∀ t, t < n → (Y.th t).ops.length ≤ K) : D.length ≤ 64 * K := by
  have := length_counts n K (D.map Dd.t) (fun k hk => by
    obtain ⟨d, h1, rfl⟩ := List.mem_map.1 hk
    exact (hI.lt h1).1) (fun k hk => by rw [← hI.ln k hk]; exact hK k hk)
  rw [List.length_map] at this
  exact Nat.le_trans this (Nat.mul_le_mul_right _ hn)
end
end M
section
variable {σ : Type} {P : M.Plain σ} {n cap : Nat} {Y : RSt} {D : List Dd} {u : Nat → Option Nat} {c k : Nat}
theorem rpAt_deed (hI : PI P n cap Y D u c) {i : Nat} {d : Dd} (hd : D[i]? = some d) (hp : Plc Y.bs.flatten d.t d.s k) :
    (rpAt P Y (k + 1)).st = (P.apply (rpAt P Y k).st d.op).1 ∧ (0 < d.en → d.an = (P.apply (rpAt P Y k).st d.op).2) := by
  have h1 := (hI.dt i d hd).2.2
  have h2 : ((Y.th d.t).ops).getD d.s ⟨0, 0, 0⟩ = d.op := by rw [List.getD_eq_getElem?_getD, h1]; rfl
  have hl := hp.lt
  have ht : Y.bs.flatten[k] = d.t := (List.getElem?_eq_some_iff.mp hp.1).2
  constructor
  · rw [rpAt_succ P Y k hl, ht]
    show (P.apply (rpAt P Y k).st (((Y.th d.t).ops).getD ((rpAt P Y k).c d.t) ⟨0, 0, 0⟩)).1 = _
    rw [rpAt_c, hp.2, h2]
  · intro he
    obtain ⟨j, hj, e⟩ := hI.an d (List.mem_of_getElem? hd) he
    have := hj.uniq hp
    subst this
    rw [e]
    show (P.apply (rpAt P Y j).st (((Y.th d.t).ops).getD d.s ⟨0, 0, 0⟩)).2 = _
    rw [h2]
end
end Go.Proofs.YtefjhnhdagolhaaGreat
