import Derived.Test.YtefjhnhdagolhaaGreatQ37
import Derived.Test.YtefjhnhdagolhaaGreatQ28
import Derived.Test.YtefjhnhdagolhaaGreatQ06
import Derived.Test.YtefjhnhdagolhaaGreatQ18
import Derived.Test.YtefjhnhdagolhaaGreatQ05
import Derived.Test.YtefjhnhdagolhaaGreatQ32
import Derived.Test.YtefjhnhdagolhaaGreatQ11
namespace Go.Proofs.YtefjhnhdagolhaaGreat
open Go.RowKit
attribute [local go_sem ↓] Go.wp_at_zero Go.wp_at_succ
theorem plays_any (kind th cap st co : Int) (nx ou : List Int) (vn vo : Value) (hP : ∀ n c : Nat, 1 ≤ n → n ≤ 64 → c ≤ 64 → cfgErr kind n c st co nx ou = 0 → ∃ Mk, Maker n kind (c : Int) st co nx ou vn vo Mk ∧ Playable kind n (c : Int) st co nx ou vn vo Mk) (l : List ActV) (hl : l.length ≤ 200000) (hi : ∀ x ∈ l, I64 x.t ∧ I64 x.n) (s : Value) (w : World) (hs : Scr w s l) (hn : Sl w vn (ints nx)) (ho : Sl w vo (ints ou)) (n1 : nx.length ≤ 1048576) (n2 : ou.length ≤ 1048576) :
    Calls Tryz.prog 15 #[.agg #[.int .i64 kind, .int .i64 th, .int .i64 cap, .int .i64 st, .int .i64 co, vn, vo], s] w fun e w' => e = .returned (.bool true) ∧ Below w.heap.size w w' := by
  by_cases h : cfgErr kind th cap st co nx ou = 0
  · obtain ⟨⟨q1, q2, q3, q4, q5, q6⟩, -⟩ := cfg_ok h
    obtain ⟨n, rfl⟩ : ∃ n : Nat, th = (n : Int) := ⟨th.toNat, by omega⟩
    obtain ⟨c, rfl⟩ : ∃ c : Nat, cap = (c : Int) := ⟨cap.toNat, by omega⟩
    obtain ⟨Mk, mk, pl⟩ := hP n c (by omega) (by omega) (by omega) h
    exact plays_law kind n c st co nx ou vn vo mk pl l hl hi s w hs hn ho n1 n2 h
  · exact plays_err s kind th cap st co nx ou vn vo w hn ho n1 n2 h
set_option maxHeartbeats 1000000 in
theorem of_any (k kind th cap st co : Int) (a1 a2 : Option Addr) (l1 c1 l2 c2 : Nat) (w : World) :
    Calls Tryz.prog 16 #[.agg #[.int .i64 kind, .int .i64 th, .int .i64 cap, .int .i64 st, .int .i64 co, .slice a1 l1 c1, .slice a2 l2 c2], .int .i64 k] w fun e w' => e = .returned (.agg #[.int .i64 k, .int .i64 th, .int .i64 cap, .int .i64 st, .int .i64 co, .slice a1 l1 c1, .slice a2 l2 c2]) ∧ Below w.heap.size w w' := by
  go_enter Tryz.func16, Tryz.ntmps16
  go_wp2
  (try simp only [Exit.inBlock, Exit.then])
  exact bodyPost_ret (v := .agg #[.int .i64 k, .int .i64 th, .int .i64 cap, .int .i64 st, .int .i64 co, .slice a1 l1 c1, .slice a2 l2 c2]) (by simp [results, Tryz.results16, go_sem]) rfl ⟨rfl, by
    repeat (first | exact Below.refl _ _ | refine Below.drewN ?_ _ | refine Below.drew ?_ | refine Below.alloc ?_ (by simp) _ | refine Below.setCell ?_ (by simp) _)⟩
end Go.Proofs.YtefjhnhdagolhaaGreat
namespace Go.Proofs.YtefjhnhdagolhaaGreat
open Go.RowKit
attribute [local go_sem ↓] Go.wp_at_zero Go.wp_at_succ
def tableP (co : Int) (nx ou : List Int) : M.Plain Int where
  first := 0
  apply s o := if 0 ≤ o.c ∧ o.c < co then (nx.getD (s * co + o.c).toNat 0, ⟨1, ou.getD (s * co + o.c).toNat 0⟩) else (s, ⟨4, 0⟩)
theorem table_pos {st co : Int} {nx ou : List Int} (ht : tableOk st co nx ou = true) : 0 < st := by
  simp only [tableOk, Bool.and_eq_true, decide_eq_true_eq] at ht
  obtain ⟨⟨⟨⟨⟨⟨a, -⟩, -⟩, -⟩, -⟩, -⟩, -⟩ := ht
  omega
theorem getD_get {l : List Int} {i : Nat} (h : i < l.length) : l[i]? = some (l.getD i 0) := by simp [List.getD, h]
theorem table_at {st co s c : Int} {nx ou : List Int} (h : tableOk st co nx ou = true) (h0 : 0 ≤ s) (h1 : s < st) (c0 : 0 ≤ c) (c1 : c < co) :
    ∃ i : Nat, (i : Int) = s * co + c ∧ i < nx.length ∧ i < ou.length ∧ i < 1024 ∧ 0 ≤ s * co ∧ s * co ≤ 1024 ∧ 0 ≤ nx.getD i 0 ∧ nx.getD i 0 < st := by
  simp only [tableOk, Bool.and_eq_true, decide_eq_true_eq, List.all_eq_true] at h
  obtain ⟨⟨⟨⟨⟨⟨a1, a2⟩, a3⟩, a4⟩, a5⟩, a6⟩, a7⟩ := h
  have p0 : 0 ≤ s * co := Int.mul_nonneg h0 (by omega)
  have p1 : (s + 1) * co ≤ st * co := Int.mul_le_mul_of_nonneg_right (by omega) (by omega)
  have p2 := (prod_bd a1 a2 a3 a4).2
  rw [Int.add_mul, Int.one_mul] at p1
  have hl : (s * co + c).toNat < nx.length := by omega
  refine ⟨(s * co + c).toNat, by omega, hl, by omega, by omega, p0, by omega, ?_⟩
  have := a7 _ (List.getElem_mem hl)
  have e : nx.getD (s * co + c).toNat 0 = nx[(s * co + c).toNat] := by simp [List.getD, hl]
  rw [e]
  exact this
set_option maxRecDepth 20000 in
set_option maxHeartbeats 1000000 in
theorem tableApply_bad (st co s c a b : Int) (s1 s2 : Value) (w : World) (hc : ¬ (0 ≤ c ∧ c < co)) :
    Calls Tryz.prog 387 #[.agg #[.int .i64 st, .int .i64 co, s1, s2], .int .i64 s, .agg #[.int .i64 c, .int .i64 a, .int .i64 b]] w fun e w' => e = .returned (.tuple #[.int .i64 s, .agg #[.int .i64 4, .int .i64 0]]) ∧ Below w.heap.size w w' := by
  by_cases h0 : c < 0
  · clear hc
    go_enter Tryz.func387, Tryz.ntmps387
    go_wp2_with fail
    generalize hW : World.alloc _ _ = W
    have hb0 : Below w.heap.size w W := by rw [← hW]; exact ((below_alloc w _).alloc (by simp) _).alloc (by simp; omega) _
    have hro : Row W (w.heap.size + 1 + 1) 94 [.int .i64 0, .int .i64 0] := by rw [← hW]; exact Row.new' (by simp)
    have hlt := hro.lt
    clear hW
    refine (badOp_w _).mono ?_
    rintro e w4 ⟨rfl, hb⟩
    have hro4 := hro.old hb
    have a0 : w4.cell? ⟨w.heap.size + 1 + 1, 0, none⟩ = some (.int .i64 0) := hro4.cell_of rfl
    have a1 : w4.cell? ⟨w.heap.size + 1 + 1, 1, none⟩ = some (.int .i64 0) := hro4.cell_of rfl
    have f0 := hro4.frozen 0
    have f1 := hro4.frozen 1
    have HRo := hide (hro4.set 0 (.int .i64 4) |>.set 1 (.int .i64 0))
    have HB := hide (Below.next hb0 hb hb0.size)
    clear hb hro hro4 hb0
    go_wp2_with fail
    have q1 := HRo.out.cell_of (i := 0) rfl
    have q2 := HRo.out.cell_of (i := 1) rfl
    exact bodyPost_ret (v := .tuple #[.int .i64 s, .agg #[.int .i64 4, .int .i64 0]]) (by simp [results, Tryz.results387, go_sem, q1, q2]) rfl ⟨rfl, (HB.out.setCell (by simp; omega) _).setCell (by simp; omega) _⟩
  · have h1 : co ≤ c := by omega
    clear hc
    go_enter Tryz.func387, Tryz.ntmps387
    go_wp2_with fail
    generalize hW : World.alloc _ _ = W
    have hb0 : Below w.heap.size w W := by rw [← hW]; exact ((below_alloc w _).alloc (by simp) _).alloc (by simp; omega) _
    have hro : Row W (w.heap.size + 1 + 1) 94 [.int .i64 0, .int .i64 0] := by rw [← hW]; exact Row.new' (by simp)
    have hlt := hro.lt
    clear hW
    refine (badOp_w _).mono ?_
    rintro e w4 ⟨rfl, hb⟩
    have hro4 := hro.old hb
    have a0 : w4.cell? ⟨w.heap.size + 1 + 1, 0, none⟩ = some (.int .i64 0) := hro4.cell_of rfl
    have a1 : w4.cell? ⟨w.heap.size + 1 + 1, 1, none⟩ = some (.int .i64 0) := hro4.cell_of rfl
    have f0 := hro4.frozen 0
    have f1 := hro4.frozen 1
    have HRo := hide (hro4.set 0 (.int .i64 4) |>.set 1 (.int .i64 0))
    have HB := hide (Below.next hb0 hb hb0.size)
    clear hb hro hro4 hb0
    go_wp2_with fail
    have q1 := HRo.out.cell_of (i := 0) rfl
    have q2 := HRo.out.cell_of (i := 1) rfl
    exact bodyPost_ret (v := .tuple #[.int .i64 s, .agg #[.int .i64 4, .int .i64 0]]) (by simp [results, Tryz.results387, go_sem, q1, q2]) rfl ⟨rfl, (HB.out.setCell (by simp; omega) _).setCell (by simp; omega) _⟩
set_option maxRecDepth 20000 in
set_option maxHeartbeats 2000000 in
theorem tableApply_go (st co s c a b x y : Int) (g1 g2 m1 k1 m2 k2 i : Nat) (w : World) (c0 : 0 ≤ c) (c1 : c < co) (hi : (i : Int) = s * co + c) (p0 : 0 ≤ s * co) (p1 : s * co ≤ 1024) (hi1 : i < 1024) (h1 : i < m1) (h2 : i < m2) (x1 : w.cell? ⟨g1, i, none⟩ = some (.int .i64 x)) (y1 : w.cell? ⟨g2, i, none⟩ = some (.int .i64 y)) :
    Calls Tryz.prog 387 #[.agg #[.int .i64 st, .int .i64 co, .slice (some ⟨g1, 0, none⟩) m1 k1, .slice (some ⟨g2, 0, none⟩) m2 k2], .int .i64 s, .agg #[.int .i64 c, .int .i64 a, .int .i64 b]] w fun e w' => e = .returned (.tuple #[.int .i64 x, .agg #[.int .i64 1, .int .i64 y]]) ∧ Below w.heap.size w w' := by
  have h0 : ¬ c < 0 := by omega
  have hc : ¬ co ≤ c := by omega
  have hm : wrap64 (s * co) = s * co := by unfold wrap64; omega
  have ha : wrap64 (s * co + c) = (i : Int) := by rw [← hi]; unfold wrap64; omega
  have hi' : s * co + c = (i : Int) := hi.symm
  have hi0 : (0 : Int) ≤ (i : Int) := by omega
  have hi1' : (i : Int) < (m1 : Int) := by omega
  have hi2' : (i : Int) < (m2 : Int) := by omega
  have hi3' : (i : Int) ≤ 9223372036854775807 := by omega
  clear hi
  have hg1 : g1 < w.heap.size := World.block_lt_of_cell? w _ x1
  have hg2 : g2 < w.heap.size := World.block_lt_of_cell? w _ y1
  go_enter Tryz.func387, Tryz.ntmps387
  go_upto_region 1 with fail
  generalize hW : World.alloc (World.alloc (World.alloc w _) _) _ = W
  have hb0 : Below w.heap.size w W := by rw [← hW]; exact ((below_alloc w _).alloc (by simp) _).alloc (by simp; omega) _
  have r3 : Row W w.heap.size 152 [.int .i64 st, .int .i64 co, .slice (some ⟨g1, 0, none⟩) m1 k1, .slice (some ⟨g2, 0, none⟩) m2 k2] := by rw [← hW]; exact ((Row.new' rfl).alloc _).alloc _
  have r5 : Row W (w.heap.size + 1) 36 [.int .i64 c, .int .i64 a, .int .i64 b] := by rw [← hW]; exact (Row.new' (by simp)).alloc _
  have r7 : Row W (w.heap.size + 1 + 1) 94 [.int .i64 0, .int .i64 0] := by rw [← hW]; exact Row.new' (by simp)
  have x1' := cell_later hb0 x1
  have y1' := cell_later hb0 y1
  have o0 := r5.cell_of (i := 0) rfl
  have d1 := r3.cell_of (i := 1) rfl
  have d2 := r3.cell_of (i := 2) rfl
  have d3 := r3.cell_of (i := 3) rfl
  have hlt := r7.lt
  have HB0 := hide hb0
  have HR7 := hide r7
  clear hW hb0 r3 r5 r7 x1 y1
  go_upto_region 4 with fail
  have hth : W.there (w.heap.size + 1 + 1) 0 2 := HR7.out.there (by simp)
  have hk9 := fun (W' : World) (vs : List Value) (p : Addr) (hp : p.block < w.heap.size + 1 + 1) => (below_setCells (B := w.heap.size + 1 + 1) (b := w.heap.size + 1 + 1) (Nat.le_refl _) vs 0 W' (Below.refl _ _)).cell (p := p) hp
  refine rg0 (S := (fun w' => w'.there (w.heap.size + 1 + 1) 0 2 ∧ Below w.heap.size w w' ∧ w'.cell? ⟨w.heap.size, 2, none⟩ = some (.slice (some ⟨g1, 0, none⟩) m1 k1) ∧ w'.cell? ⟨w.heap.size, 3, none⟩ = some (.slice (some ⟨g2, 0, none⟩) m2 k2) ∧ w'.cell? ⟨g1, i, none⟩ = some (.int .i64 x) ∧ w'.cell? ⟨g2, i, none⟩ = some (.int .i64 y))) 15 rfl (by kernel_rfl) ?_ (fun hHeld => ?_)
  · exact ⟨hth, HB0.out.drew, d2, d3, x1', y1'⟩
  iterate 12 (refine tk 14 (by rfl) (by kernel_rfl) (by exact fun _ _ _ h => h) (.inl ⟨by rfl, fun w hS => by (try dsimp only at hS); go_simp; (try with_reducible rfl)⟩) (by assumption) ?_; try go_frame)
  refine rd1 12 (by rfl) (by kernel_rfl) (fun K hK => ?_)
  go_simp
  refine (done_w _ _).mono ?_
  rintro e w2 ⟨rfl, hb2⟩
  go_wp2_with fail
  refine hK.out _ _ ?_ (fun hHeld => ?_)
  · exact ⟨there_later hb2 hHeld.1, Below.next hHeld.2.1 hb2 hHeld.2.1.size, cell_later hb2 hHeld.2.2.1, cell_later hb2 hHeld.2.2.2.1, cell_later hb2 hHeld.2.2.2.2.1, cell_later hb2 hHeld.2.2.2.2.2⟩
  clear hK K
  (try go_frame)
  iterate 1 (refine tk 14 (by rfl) (by kernel_rfl) (by exact fun _ _ _ h => h) (.inl ⟨by rfl, fun w hS => by (try dsimp only at hS); go_simp; (try with_reducible rfl)⟩) (by assumption) ?_; try go_frame)
  refine rd1 14 (by rfl) (by kernel_rfl) (fun K hK => ?_)
  rw [if_pos (by rfl)]
  have e1 := World.rangeAt_setCells_same _ (w.heap.size + 1 + 1) 0 [.int .i64 1, .int .i64 y] hHeld.1
  refine wp_store_mid _ _ _ rfl _ 0 #[.int .i64 1, .int .i64 y] rfl rfl hHeld.1 (by kernel_rfl) (by simp [Value.oneCell']) ?_
  refine hK.out _ _ ?_ (fun hHeld => ?_)
  · exact ⟨World.there_setCells hHeld.1 _ _ _, below_setCells (by omega) _ _ _ hHeld.2.1, (hk9 _ _ _ (by dsimp only; omega)).trans hHeld.2.2.1, (hk9 _ _ _ (by dsimp only; omega)).trans hHeld.2.2.2.1, (hk9 _ _ _ (by dsimp only; omega)).trans hHeld.2.2.2.2.1, (hk9 _ _ _ (by dsimp only; omega)).trans hHeld.2.2.2.2.2⟩
  clear hK K
  (try go_frame)
  refine wpAnyH_done (by kernel_rfl) ?_ _
  have q1 := e1 0 _ rfl
  have q2 := e1 1 _ rfl
  have HB9 := hide hHeld.2.1
  clear hHeld
  go_wp2_with fail
  exact bodyPost_ret (v := .tuple #[.int .i64 x, .agg #[.int .i64 1, .int .i64 y]]) (by simp [results, Tryz.results387, go_sem, q1, q2]) rfl ⟨rfl, HB9.out⟩
theorem tableApply_m (a b c d : Value) (w : World) : (method 553 152 (.agg #[a, b, c, d]) "Apply").run Tryz.prog w = .ok (387, .agg #[a, b, c, d]) w := by kernel_rfl
theorem tableApply_c (a b c d s o : Value) (w : World) : (callFunc 387 #[.agg #[a, b, c, d], s, o]).run Tryz.prog w = .ok (.enter 387 #[.agg #[a, b, c, d], s, o]) w := by kernel_rfl
def ListAt (w : World) (g : Nat) (l : List Int) : Prop := g < w.heap.size ∧ ∀ i x, l[i]? = some x → w.cell? ⟨g, i, none⟩ = some (.int .i64 x)
theorem ListAt.stay {w w' : World} {g : Nat} {l : List Int} (h : ListAt w g l) (hk : w'.heap[g]? = w.heap[g]?) : ListAt w' g l := by
  refine ⟨?_, fun i x hx => ?_⟩
  · rw [Array.getElem?_eq_getElem h.1] at hk
    exact (Array.getElem?_eq_some_iff.mp hk).1
  · rw [World.cell?_of_block (w := w) hk]
    exact h.2 i x hx
theorem ListAt.later {w w' : World} {g : Nat} {l : List Int} (h : ListAt w g l) (hb : Below w.heap.size w w') : ListAt w' g l := h.stay (hb.block g h.1)
def tableR (g1 g2 : Nat) (st : Int) (nx ou : List Int) : int.SR Int where
  sz _ := 0
  rep I w s c := c = [.int .i64 s] ∧ (0 ≤ s ∧ s < st) ∧ (I g1 ∧ ListAt w g1 nx) ∧ I g2 ∧ ListAt w g2 ou
  len h := by rw [h.1]; rfl
  shape h v hv := by rw [h.1] at hv; exact ⟨_, List.mem_singleton.mp hv⟩
  stay hk h := ⟨h.1, h.2.1, ⟨(hk _ h.2.2.1.1 h.2.2.1.2.1).1, h.2.2.1.2.stay (hk _ h.2.2.1.1 h.2.2.1.2.1).2⟩, (hk _ h.2.2.2.1 h.2.2.2.2.1).1, h.2.2.2.2.stay (hk _ h.2.2.2.1 h.2.2.2.2.1).2⟩
theorem tableAp {st co : Int} {nx ou : List Int} (ht : tableOk st co nx ou = true) (g1 k1 g2 k2 : Nat) (L : int.Lt) (ho : L.oT = 152) (hv : L.ov = .agg #[.int .i64 st, .int .i64 co, .slice (some ⟨g1, 0, none⟩) nx.length k1, .slice (some ⟨g2, 0, none⟩) ou.length k2]) :
    int.ApOk (tableR g1 g2 st nx ou) (tableP co nx ou) L 387 (.agg #[.int .i64 st, .int .i64 co, .slice (some ⟨g1, 0, none⟩) nx.length k1, .slice (some ⟨g2, 0, none⟩) ou.length k2]) := by
  refine ⟨⟨Nat.zero_le _, fun _ _ => Nat.zero_le _⟩, fun W => by rw [ho, hv]; exact tableApply_m _ _ _ _ W, fun s o W => tableApply_c _ _ _ _ s o W, fun I W s x op hr _ hI => ?_⟩
  obtain ⟨hx, ⟨h0, h1⟩, ⟨i1, c1⟩, i2, c2⟩ := hr
  have hx : x = .int .i64 s := by simpa using hx
  subst hx
  by_cases hc : 0 ≤ op.c ∧ op.c < co
  · obtain ⟨i, hi, l1, l2, l3, p0, p1, n0, n1⟩ := table_at ht h0 h1 hc.1 hc.2
    have e : (tableP co nx ou).apply s op = (nx.getD i 0, ⟨1, ou.getD i 0⟩) := by
      show (if _ then _ else _) = _
      rw [if_pos hc, ← hi]
      rfl
    refine (tableApply_go st co s op.c op.a op.b _ _ g1 g2 _ k1 _ k2 i W hc.1 hc.2 hi p0 p1 l3 l1 l2 (c1.2 i _ (getD_get l1)) (c2.2 i _ (getD_get l2))).mono ?_
    rintro e' w' ⟨rfl, hb⟩
    rw [e]
    exact ⟨_, rfl, ⟨rfl, ⟨n0, n1⟩, ⟨.inl i1, c1.later hb⟩, .inl i2, c2.later hb⟩, hb⟩
  · have e : (tableP co nx ou).apply s op = (s, ⟨4, 0⟩) := by
      show (if _ then _ else _) = _
      rw [if_neg hc]
    refine (tableApply_bad st co s op.c op.a op.b _ _ W hc).mono ?_
    rintro e' w' ⟨rfl, hb⟩
    rw [e]
    exact ⟨_, rfl, ⟨rfl, ⟨h0, h1⟩, ⟨.inl i1, c1.later hb⟩, .inl i2, c2.later hb⟩, hb⟩
theorem tableTe {st co : Int} {nx ou : List Int} (g1 k1 g2 k2 : Nat) (L : int.Lt) (ho : L.oT = 152) (hv : L.ov = .agg #[.int .i64 st, .int .i64 co, .slice (some ⟨g1, 0, none⟩) nx.length k1, .slice (some ⟨g2, 0, none⟩) ou.length k2]) :
    int.TeOk (tableR g1 g2 st nx ou) L (fun s => [s]) 388 (.agg #[.int .i64 st, .int .i64 co, .slice (some ⟨g1, 0, none⟩) nx.length k1, .slice (some ⟨g2, 0, none⟩) ou.length k2]) where
  m W := by rw [ho, hv]; kernel_rfl
  c s W := tableTell_c _ _ _ _ s W
  f I W s x hr _ _ := by
    have e : x = s := by simpa using hr.1
    subst e
    exact tableTell _ _ _ _ x W
end Go.Proofs.YtefjhnhdagolhaaGreat
