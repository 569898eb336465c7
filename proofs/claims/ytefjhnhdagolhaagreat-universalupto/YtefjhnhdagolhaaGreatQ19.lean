import Derived.Test.YtefjhnhdagolhaaGreatQ18
import Derived.Test.YtefjhnhdagolhaaGreatQ13
import Derived.Deep.Cut
namespace Go.Proofs.YtefjhnhdagolhaaGreat
open Go.RowKit
attribute [local go_sem ↓] Go.wp_at_zero Go.wp_at_succ
theorem rg0v {P : Program} {ops : Array Oper} {Q : Exit → Act → World → Prop} {S : World → Prop} {a : Act} {w : World} {id : Nat} (n : Nat) (hn : ops.size = n) (hm : P.follows .mixedOrders = true) (hS : S w.drew)
    (h : ∀ W, W = w.drew → S W → wpAnyH P .any ops Q S n (Array.replicate n false) a W) : (Code.region id ops true).wp P Q a w := rg0 n hn hm hS (h _ rfl)
theorem below_of_alloc {w W : World} {o : Obj} (h : w.alloc o = W) : Below w.heap.size w W := by subst h; exact below_alloc _ _
theorem row_of_alloc {w W : World} {xs : List Value} {t : TypeId} (h : w.alloc (.cells xs.toArray t) = W) : Row W w.heap.size t xs := by subst h; exact Row.new' rfl
theorem row_set4 {w : World} {b : Nat} {t : TypeId} {a1 a2 a3 a4 x1 x2 x3 x4 : Value} (h : Row w b t [a1, a2, a3, a4]) : Row (w.setCells b 0 [x1, x2, x3, x4]) b t [x1, x2, x3, x4] := (((h.set 0 _).set 1 _).set 2 _).set 3 _
structure Sml (S C : Int) (b3 : Nat) (W : World) (k : Nat) (nx ou : List Int) (v1 v2 : Value) (w : World) : Prop where
  ln : nx.length = k
  lo : ou.length = k
  rg : ∀ x ∈ nx, 0 ≤ x ∧ x < S
  row : Row w b3 24 [.int .i64 S, .int .i64 C, v1, v2]
  o1 : w.ownsRow W.heap.size 3 1 v1 k (ints nx)
  o2 : w.ownsRow W.heap.size 3 1 v2 k (ints ou)
  ne : ∀ q, v1.ownBlock = some q → v2.ownBlock ≠ some q
  bl : Below W.heap.size W w
theorem Sml.push1 {S C : Int} {b3 k : Nat} {W w V w7 : World} {nx ou : List Int} {v1 v2 : Value} (h : Sml S C b3 W k nx ou v1 v2 w) (hb3 : W.heap.size ≤ b3) (hb : Below w.heap.size w V) (hg : V.grownBy w7 v1.ownBlock) {g gc : Nat} {x : Int} (ho : w7.ownsRow W.heap.size 3 1 (.slice (some ⟨g, 0, none⟩) (k + 1) gc) (k + 1) (ints nx ++ [.int .i64 x])) (hat : v1.ownBlock = some g ∨ g = V.heap.size) (hx : 0 ≤ x ∧ x < S) :
    Row (w7.setCell ⟨b3, 2, none⟩ (.slice (some ⟨g, 0, none⟩) (k + 1) gc)) b3 24 [.int .i64 S, .int .i64 C, .slice (some ⟨g, 0, none⟩) (k + 1) gc, v2] ∧ (w7.setCell ⟨b3, 2, none⟩ (.slice (some ⟨g, 0, none⟩) (k + 1) gc)).ownsRow W.heap.size 3 1 (.slice (some ⟨g, 0, none⟩) (k + 1) gc) (k + 1) (ints (nx ++ [x])) ∧ (w7.setCell ⟨b3, 2, none⟩ (.slice (some ⟨g, 0, none⟩) (k + 1) gc)).ownsRow W.heap.size 3 1 v2 k (ints ou) ∧ v2.ownBlock ≠ some g ∧ (∀ y ∈ nx ++ [x], 0 ≤ y ∧ y < S) ∧ Below W.heap.size W (w7.setCell ⟨b3, 2, none⟩ (.slice (some ⟨g, 0, none⟩) (k + 1) gc)) := by
  have hz := hb.size
  have hr := h.row.lt
  have n1 := owns_apart h.o1 h.row (by decide)
  have n2 := owns_apart h.o2 h.row (by decide)
  have hk : ∀ q, q < w.heap.size → v1.ownBlock ≠ some q → w7.heap[q]? = w.heap[q]? := fun q hq hn => (hg.block q (by omega) (fun e => hn e.symm)).trans (hb.block q hq)
  have hgb : g ≠ b3 := fun e => by
    rcases hat with q | q
    · exact n1 (by rw [← e]; exact q)
    · omega
  refine ⟨(h.row.of_block (hk _ hr n1)).set 2 _, ?_, ?_, fun e => ?_, fun y hy => ?_, ?_⟩
  · have e : ints (nx ++ [x]) = ints nx ++ [.int .i64 x] := by simp [ints]
    rw [e]
    exact owns_block ho fun q e => set_block (by
      have hgq : g = q := by simpa [Value.ownBlock] using e
      rw [← hgq]; exact hgb)
  · exact owns_block h.o2 fun q e => (set_block (fun c => n2 (by rw [← c]; exact e))).trans (hk q (h.o2.lt q e).2 (fun c => h.ne q c e))
  · rcases hat with q | q
    · exact h.ne g q e
    · have := (h.o2.lt g e).2; omega
  · rcases List.mem_append.mp hy with q | q
    · exact h.rg y q
    · rw [List.mem_singleton.mp q]; exact hx
  · exact Below.setCell (p := ⟨b3, 2, none⟩) ((Below.next h.bl hb h.bl.size).grown hg (by have := h.bl.size; omega) (fun q e => (h.o1.lt q e).1)) hb3 _
def Sml1 (S C : Int) (b3 : Nat) (W : World) (k : Nat) (nx ou : List Int) (v2 : Value) (w : World) : Prop :=
  ∃ (g gc : Nat) (x : Int), Row w b3 24 [.int .i64 S, .int .i64 C, .slice (some ⟨g, 0, none⟩) (k + 1) gc, v2] ∧ w.ownsRow W.heap.size 3 1 (.slice (some ⟨g, 0, none⟩) (k + 1) gc) (k + 1) (ints (nx ++ [x])) ∧ w.ownsRow W.heap.size 3 1 v2 k (ints ou) ∧ v2.ownBlock ≠ some g ∧ (∀ y ∈ nx ++ [x], 0 ≤ y ∧ y < S) ∧ Below W.heap.size W w
theorem Sml.push2 {S C : Int} {b3 k g1 c1 : Nat} {W w V w7 : World} {nx ou : List Int} {v2 : Value} (hn : nx.length = k + 1) (ho' : ou.length = k) (rg : ∀ x ∈ nx, 0 ≤ x ∧ x < S) (hr : Row w b3 24 [.int .i64 S, .int .i64 C, .slice (some ⟨g1, 0, none⟩) (k + 1) c1, v2]) (o1 : w.ownsRow W.heap.size 3 1 (.slice (some ⟨g1, 0, none⟩) (k + 1) c1) (k + 1) (ints nx)) (o2 : w.ownsRow W.heap.size 3 1 v2 k (ints ou)) (hne : v2.ownBlock ≠ some g1) (bl : Below W.heap.size W w) (hb3 : W.heap.size ≤ b3) (hb : Below w.heap.size w V) (hg : V.grownBy w7 v2.ownBlock) {g gc : Nat} {x : Int} (ho : w7.ownsRow W.heap.size 3 1 (.slice (some ⟨g, 0, none⟩) (k + 1) gc) (k + 1) (ints ou ++ [.int .i64 x])) (hat : v2.ownBlock = some g ∨ g = V.heap.size) :
    Sml S C b3 W (k + 1) nx (ou ++ [x]) (.slice (some ⟨g1, 0, none⟩) (k + 1) c1) (.slice (some ⟨g, 0, none⟩) (k + 1) gc) (w7.setCell ⟨b3, 3, none⟩ (.slice (some ⟨g, 0, none⟩) (k + 1) gc)) := by
  have hz := hb.size
  have hrl := hr.lt
  have n1 := owns_apart o1 hr (by decide)
  have n2 := owns_apart o2 hr (by decide)
  have hk : ∀ q, q < w.heap.size → v2.ownBlock ≠ some q → w7.heap[q]? = w.heap[q]? := fun q hq hn => (hg.block q (by omega) (fun e => hn e.symm)).trans (hb.block q hq)
  have hgb : g ≠ b3 := fun e => by
    rcases hat with q | q
    · exact n2 (by rw [← e]; exact q)
    · omega
  have hg1 : g1 < w.heap.size := (o1.lt g1 rfl).2
  refine ⟨hn, by simp [ho'], rg, (hr.of_block (hk _ hrl n2)).set 3 _, ?_, ?_, fun q e1 e2 => ?_, ?_⟩
  · refine owns_block o1 fun q e => ?_
    have hgq : g1 = q := by simpa [Value.ownBlock] using e
    subst hgq
    exact (set_block (fun c => n1 (by rw [← c]; rfl))).trans (hk g1 hg1 hne)
  · have e : ints (ou ++ [x]) = ints ou ++ [.int .i64 x] := by simp [ints]
    rw [e]
    refine owns_block ho fun q e => set_block ?_
    have hgq : g = q := by simpa [Value.ownBlock] using e
    rw [← hgq]; exact hgb
  · have a : g1 = q := by simpa [Value.ownBlock] using e1
    have b : g = q := by simpa [Value.ownBlock] using e2
    rcases hat with c | c
    · exact hne (by rw [a, ← b]; exact c)
    · omega
  · exact Below.setCell (p := ⟨b3, 3, none⟩) ((Below.next bl hb bl.size).grown hg (by have := bl.size; omega) (fun q e => (o2.lt q e).1)) hb3 _
theorem cells4 {w' : World} {N : Nat} {t : TypeId} {a b c d : Value} (h : Row w' N t [a, b, c, d]) : w'.cell? ⟨N, 0, none⟩ = some a ∧ w'.cell? ⟨N, 1, none⟩ = some b ∧ w'.cell? ⟨N, 2, none⟩ = some c ∧ w'.cell? ⟨N, 3, none⟩ = some d := ⟨h.cell_of rfl, h.cell_of rfl, h.cell_of rfl, h.cell_of rfl⟩
set_option maxRecDepth 20000 in
set_option maxHeartbeats 8000000 in
theorem small_w (st co : Int) (nx ou : List Int) (vn vo : Value) (is : I64 st) (ic : I64 co) (w : World) (hn : Sl w vn (ints nx)) (ho : Sl w vo (ints ou)) (h1 : ∀ x ∈ nx, I64 x) (l1 : nx.length ≤ 1048576) (l2 : ou.length ≤ 1048576) :
    Calls Tryz.prog 37 #[.agg #[.int .i64 st, .int .i64 co, vn, vo]] w fun e w' => ∃ S C nx' ou' v1 v2, e = .returned (.agg #[.int .i64 S, .int .i64 C, v1, v2]) ∧ w'.ownsRow w.heap.size 3 1 v1 nx'.length (ints nx') ∧ w'.ownsRow w.heap.size 3 1 v2 ou'.length (ints ou') ∧ tableOk S C nx' ou' = true ∧ nx'.length ≤ 64 ∧ Below w.heap.size w w' := by
  obtain ⟨ti, hti, htz⟩ := Option.map_eq_some_iff.1 info_int
  simp only [Prod.mk.injEq] at htz
  obtain ⟨htz1, htz2, htz3⟩ := htz
  have HTI := hide hti
  have HT1 := hide htz1
  have HT2 := hide htz2
  have HT3 := hide htz3
  clear hti htz1 htz2 htz3
  obtain ⟨p0, p1⟩ := pk_range st 8 (by decide)
  obtain ⟨q0, q1⟩ := pk_range co 4 (by decide)
  have HPS := hide (fun W : World => pick_any st 8 W (by decide) (by decide) is.1 is.2)
  have HPC := hide (fun W : World => pick_any co 4 W (by decide) (by decide) ic.1 ic.2)
  generalize pk st 8 = ps at *
  generalize pk co 4 = pc at *
  obtain ⟨S, hS⟩ : ∃ S, S = 1 + ps := ⟨_, rfl⟩
  obtain ⟨C, hC⟩ : ∃ C, C = 2 + pc := ⟨_, rfl⟩
  have hw1 : IntKind.i64.wrap (1 + ps) = S := by rw [hS]; exact wrapi _ (by omega) (by omega)
  have hw2 : IntKind.i64.wrap (2 + pc) = C := by rw [hC]; exact wrapi _ (by omega) (by omega)
  have hS1 : 1 ≤ S ∧ S ≤ 8 := by omega
  have hC1 : 2 ≤ C ∧ C ≤ 5 := by omega
  obtain ⟨m, hm⟩ : ∃ m : Nat, S * C = (m : Int) := ⟨(S * C).toNat, by have : 0 ≤ S * C := Int.mul_nonneg (by omega) (by omega); omega⟩
  have hm40 : m ≤ 40 := by
    have : S * C ≤ 8 * 5 := Int.mul_le_mul hS1.2 hC1.2 (by omega) (by omega)
    omega
  have hwm : IntKind.i64.wrap (S * C) = (m : Int) := by rw [hm]; exact wrapi _ (by omega) (by omega)
  obtain ⟨a1, c1, rfl, -, -, f1⟩ := hn.open_ints
  obtain ⟨a2, c2, rfl, -, -, f2⟩ := ho.open_ints
  have HF1 := hide f1
  have HF2 := hide f2
  have HI1 := hide h1
  have HM := hide hm
  clear hn ho f1 f2 h1 hS hC is ic hm p0 p1 q0 q1
  go_enter Tryz.func37, Tryz.ntmps37
  go_upto_region 1 with fail
  generalize hW : World.alloc (World.alloc w _) _ = W
  have hb0 : Below w.heap.size w W := by rw [← hW]; exact (below_alloc w _).alloc (by simp) _
  have rB : Row W w.heap.size 24 [.int .i64 st, .int .i64 co, .slice a1 nx.length c1, .slice a2 ou.length c2] := by rw [← hW]; exact (Row.new' rfl).alloc _
  have rR : Row W (w.heap.size + 1) 24 [.int .i64 0, .int .i64 0, .slice none 0 0, .slice none 0 0] := by rw [← hW]; exact Row.new' (by simp)
  have hWz : W.heap.size = w.heap.size + 1 + 1 := by rw [← hW]; simp
  have hWz1 : W.heap.size ≤ w.heap.size + 1 + 1 := by omega
  have hWz2 : w.heap.size + 1 + 1 ≤ W.heap.size := by omega
  have x0 := rB.cell_of (i := 0) rfl
  have x1 := rB.cell_of (i := 1) rfl
  have HB := hide hb0
  have HRB := hide rB
  have HRR := hide rR
  clear hW hb0 rB rR hWz
  go_cut [3] (fun p w' => p = .pointer (some ⟨W.heap.size, 0, none⟩) ∧ Row w' W.heap.size 24 [.int .i64 S, .int .i64 C, .slice none 0 0, .slice none 0 0] ∧ Below W.heap.size W w')
  case first =>
    refine rg0v (S := (fun w' => w'.cell? ⟨w.heap.size, 0, none⟩ = some (.int .i64 st) ∧ w'.cell? ⟨w.heap.size, 1, none⟩ = some (.int .i64 co))) 11 rfl (by kernel_rfl) ?_ (fun Wd hWd hHeld => ?_)
    · exact ⟨x0, x1⟩
    have zd1 : Wd.heap.size = W.heap.size := by rw [hWd]; rfl
    have hbd : Below W.heap.size W Wd := by rw [hWd]; exact Below.drew (Below.refl _ _)
    have ZD := hide zd1
    clear hWd zd1
    iterate 2 (refine tk 10 (by rfl) (by kernel_rfl) (by exact fun _ _ _ h => h) (.inl ⟨by rfl, fun w hS => by (try dsimp only at hS); go_simp; (try with_reducible rfl)⟩) (by assumption) ?_; try go_frame)
    iterate 2 (refine tk 12 (by rfl) (by kernel_rfl) (by exact fun _ _ _ h => h) (.inl ⟨by rfl, fun w hS => by (try dsimp only at hS); go_simp; (try with_reducible rfl)⟩) (by assumption) ?_; try go_frame)
    refine wpAnyH_ready (rs := [2, 9]) (by kernel_rfl) (by simp) (rc (by rfl) (fun K hK => ?_) (rc (by rfl) (fun K hK => ?_) AllReadyH.nil))
    · go_simp
      refine (HPS.out _).mono ?_
      rintro e w' ⟨rfl, rfl⟩
      go_wp2_with fail
      refine hK.out _ _ ?_ (fun hHeld => ?_)
      · exact hHeld
      clear hK K
      (try go_frame)
      iterate 1 (refine tk 8 (by rfl) (by kernel_rfl) (by exact fun _ _ _ h => h) (.inl ⟨by rfl, fun w hS => by (try dsimp only at hS); go_simp; (try with_reducible rfl)⟩) (by assumption) ?_; try go_frame)
      refine wpAnyH_ready (rs := [6, 9]) (by kernel_rfl) (by simp) (rc (by rfl) (fun K hK => ?_) (rc (by rfl) (fun K hK => ?_) AllReadyH.nil))
      · go_simp
        refine (HPC.out _).mono ?_
        rintro e w' ⟨rfl, rfl⟩
        go_wp2_with fail
        refine hK.out _ _ ?_ (fun hHeld => ?_)
        · exact hHeld
        clear hK K
        (try go_frame)
        iterate 2 (refine tk 10 (by rfl) (by kernel_rfl) (by exact fun _ _ _ h => h) (.inl ⟨by rfl, fun w hS => by (try dsimp only at hS); go_simp; (try with_reducible rfl)⟩) (by assumption) ?_; try go_frame)
        refine rd1 9 (by rfl) (by kernel_rfl) (fun K hK => ?_)
        go_simp
        generalize hA5 : World.alloc _ _ = W5
        have r5 := row_of_alloc (xs := [.int .i64 0, .int .i64 0, .slice none 0 0, .slice none 0 0]) hA5
        have bl5 := below_of_alloc hA5
        clear hA5
        refine hK.out _ _ ?_ (fun hHeld => ?_)
        · exact ⟨cell_later bl5 hHeld.1, cell_later bl5 hHeld.2⟩
        clear hK K
        (try go_frame)
        refine rd1 10 (by rfl) (by kernel_rfl) (fun K hK => ?_)
        rw [if_pos (by rfl)]
        refine wp_store_mid _ _ _ rfl _ 0 #[.int .i64 S, .int .i64 C, .slice none 0 0, .slice none 0 0] rfl rfl (r5.there (by simp)) (by kernel_rfl) (by simp [Value.oneCell']) ?_
        refine hK.out _ _ ?_ (fun hHeld => ?_)
        · exact ⟨ptr_block hHeld.1 (setCells_other _ _ _ _ (by have := ZD.out; omega)), ptr_block hHeld.2 (setCells_other _ _ _ _ (by have := ZD.out; omega))⟩
        clear hK K
        (try go_frame)
        refine wpAnyH_done (by kernel_rfl) ?_ _
        (try go_wp2_with fail)
        go_meet
        case rel => exact ⟨by rw [ZD.out], by rw [← ZD.out]; exact row_set4 r5, below_setCells (by rw [ZD.out]; exact Nat.le_refl _) _ _ _ (Below.next hbd (by first | exact bl5 | assumption) hbd.size)⟩
      · go_simp
        generalize hA5 : World.alloc _ _ = W5
        have r5 := row_of_alloc (xs := [.int .i64 0, .int .i64 0, .slice none 0 0, .slice none 0 0]) hA5
        have bl5 := below_of_alloc hA5
        clear hA5
        refine hK.out _ _ ?_ (fun hHeld => ?_)
        · exact ⟨cell_later bl5 hHeld.1, cell_later bl5 hHeld.2⟩
        clear hK K
        (try go_frame)
        refine rd1 6 (by rfl) (by kernel_rfl) (fun K hK => ?_)
        go_simp
        refine (HPC.out _).mono ?_
        rintro e w' ⟨rfl, rfl⟩
        go_wp2_with fail
        refine hK.out _ _ ?_ (fun hHeld => ?_)
        · exact hHeld
        clear hK K
        (try go_frame)
        iterate 2 (refine tk 9 (by rfl) (by kernel_rfl) (by exact fun _ _ _ h => h) (.inl ⟨by rfl, fun w hS => by (try dsimp only at hS); go_simp; (try with_reducible rfl)⟩) (by assumption) ?_; try go_frame)
        refine rd1 10 (by rfl) (by kernel_rfl) (fun K hK => ?_)
        rw [if_pos (by rfl)]
        refine wp_store_mid _ _ _ rfl _ 0 #[.int .i64 S, .int .i64 C, .slice none 0 0, .slice none 0 0] rfl rfl (r5.there (by simp)) (by kernel_rfl) (by simp [Value.oneCell']) ?_
        refine hK.out _ _ ?_ (fun hHeld => ?_)
        · exact ⟨ptr_block hHeld.1 (setCells_other _ _ _ _ (by have := ZD.out; omega)), ptr_block hHeld.2 (setCells_other _ _ _ _ (by have := ZD.out; omega))⟩
        clear hK K
        (try go_frame)
        refine wpAnyH_done (by kernel_rfl) ?_ _
        (try go_wp2_with fail)
        go_meet
        case rel => exact ⟨by rw [ZD.out], by rw [← ZD.out]; exact row_set4 r5, below_setCells (by rw [ZD.out]; exact Nat.le_refl _) _ _ _ (Below.next hbd (by first | exact bl5 | assumption) hbd.size)⟩
    · go_simp
      generalize hA5 : World.alloc _ _ = W5
      have r5 := row_of_alloc (xs := [.int .i64 0, .int .i64 0, .slice none 0 0, .slice none 0 0]) hA5
      have bl5 := below_of_alloc hA5
      clear hA5
      refine hK.out _ _ ?_ (fun hHeld => ?_)
      · exact ⟨cell_later bl5 hHeld.1, cell_later bl5 hHeld.2⟩
      clear hK K
      (try go_frame)
      refine rd1 2 (by rfl) (by kernel_rfl) (fun K hK => ?_)
      go_simp
      refine (HPS.out _).mono ?_
      rintro e w' ⟨rfl, rfl⟩
      go_wp2_with fail
      refine hK.out _ _ ?_ (fun hHeld => ?_)
      · exact hHeld
      clear hK K
      (try go_frame)
      iterate 1 (refine tk 7 (by rfl) (by kernel_rfl) (by exact fun _ _ _ h => h) (.inl ⟨by rfl, fun w hS => by (try dsimp only at hS); go_simp; (try with_reducible rfl)⟩) (by assumption) ?_; try go_frame)
      refine rd1 6 (by rfl) (by kernel_rfl) (fun K hK => ?_)
      go_simp
      refine (HPC.out _).mono ?_
      rintro e w' ⟨rfl, rfl⟩
      go_wp2_with fail
      refine hK.out _ _ ?_ (fun hHeld => ?_)
      · exact hHeld
      clear hK K
      (try go_frame)
      iterate 2 (refine tk 9 (by rfl) (by kernel_rfl) (by exact fun _ _ _ h => h) (.inl ⟨by rfl, fun w hS => by (try dsimp only at hS); go_simp; (try with_reducible rfl)⟩) (by assumption) ?_; try go_frame)
      refine rd1 10 (by rfl) (by kernel_rfl) (fun K hK => ?_)
      rw [if_pos (by rfl)]
      refine wp_store_mid _ _ _ rfl _ 0 #[.int .i64 S, .int .i64 C, .slice none 0 0, .slice none 0 0] rfl rfl (r5.there (by simp)) (by kernel_rfl) (by simp [Value.oneCell']) ?_
      refine hK.out _ _ ?_ (fun hHeld => ?_)
      · exact ⟨ptr_block hHeld.1 (setCells_other _ _ _ _ (by have := ZD.out; omega)), ptr_block hHeld.2 (setCells_other _ _ _ _ (by have := ZD.out; omega))⟩
      clear hK K
      (try go_frame)
      refine wpAnyH_done (by kernel_rfl) ?_ _
      (try go_wp2_with fail)
      go_meet
      case rel => exact ⟨by rw [ZD.out], by rw [← ZD.out]; exact row_set4 r5, below_setCells (by rw [ZD.out]; exact Nat.le_refl _) _ _ _ (Below.next hbd (by first | exact bl5 | assumption) hbd.size)⟩
  case rest =>
    obtain ⟨rfl, r3, hbc⟩ := hcut
    have HS0 := hide (show Sml S C W.heap.size W 0 [] [] (.slice none 0 0) (.slice none 0 0) wc from ⟨rfl, rfl, fun x hx => (by cases hx), r3, World.ownsRow_nil _ _ _ _, World.ownsRow_nil _ _ _ _, fun q e => (by cases e), hbc⟩)
    clear r3 hbc x0 x1
    go_wp2_with fail
    go_loopw [4] (fun i w' => ∃ (k : Nat) (nx' ou' : List Int) (v1 v2 : Value), k ≤ m ∧ i = .int .i64 (k : Int) ∧ Sml S C W.heap.size W k nx' ou' v1 v2 w') (fun i _ => m - (intOf i).toNat)
    case atStart => exact ⟨0, [], [], _, _, Nat.zero_le _, rfl, HS0.out⟩
    case round =>
      obtain ⟨k, nx', ou', v1, v2, hk, rfl, hS⟩ := hrel
      have y0 := hS.row.cell_of (i := 0) rfl
      have y1 := hS.row.cell_of (i := 1) rfl
      have y2 := hS.row.cell_of (i := 2) rfl
      by_cases hlt : k < m
      · have hlt' : (k : Int) < (m : Int) := by omega
        have hk0 : (0 : Int) ≤ (k : Int) := by omega
        have hB := Below.next HB.out hS.bl HB.out.size
        have rB := HRB.out.old hS.bl
        have x2 := rB.cell_of (i := 2) rfl
        have x3 := rB.cell_of (i := 3) rfl
        obtain ⟨nk, hni, hnc⟩ : ∃ nk : Int, I64 nk ∧ ((∃ g off, a1 = some ⟨g, off, none⟩ ∧ (k : Int) < (nx.length : Int) ∧ wr.cell? ⟨g, off + k, none⟩ = some (.int .i64 nk)) ∨ (¬ (k : Int) < (nx.length : Int) ∧ nk = (k : Int))) := by
          by_cases c : k < nx.length
          · obtain ⟨g, off, e, q⟩ := HF1.out k c
            exact ⟨nx[k], HI1.out _ (List.getElem_mem c), .inl ⟨g, off, e, by omega, cell_later hB q⟩⟩
          · exact ⟨k, ⟨by omega, by omega⟩, .inr ⟨by omega, rfl⟩⟩
        obtain ⟨vk, hvc⟩ : ∃ vk : Int, ((∃ g off, a2 = some ⟨g, off, none⟩ ∧ (k : Int) < (ou.length : Int) ∧ wr.cell? ⟨g, off + k, none⟩ = some (.int .i64 vk)) ∨ (¬ (k : Int) < (ou.length : Int) ∧ vk = (k : Int))) := by
          by_cases c : k < ou.length
          · obtain ⟨g, off, e, q⟩ := HF2.out k c
            exact ⟨ou[k], .inl ⟨g, off, e, by omega, cell_later hB q⟩⟩
          · exact ⟨k, .inr ⟨by omega, rfl⟩⟩
        obtain ⟨x, hx, hpk⟩ : ∃ x : Int, (0 ≤ x ∧ x < S) ∧ ∀ W' : World, Calls Tryz.prog 45 #[.int .i64 nk, .int .i64 S] W' fun e w' => e = .returned (.int .i64 x) ∧ w' = W' := ⟨pk nk S, pk_range nk S (by omega), fun W' => pick_any nk S W' (by omega) (by omega) hni.1 hni.2⟩
        have HPK := hide hpk
        have HSm := hide hS
        obtain ⟨⟨ua, uc, rfl⟩, -⟩ := owns_form hS.o1
        obtain ⟨⟨za, zc, rfl⟩, -⟩ := owns_form hS.o2
        have th2 : wr.there W.heap.size 2 1 := hS.row.there (by simp)
        have hnP : some W.heap.size ≠ (Value.slice ua k uc).ownBlock := fun q => owns_apart hS.o1 hS.row (by decide) q.symm
        have HOW := hide hS.o1
        have HY2 := hide y2
        have hzW := hS.bl.size
        have hrl := hS.row.lt
        have hsz : (Tryz.prog.info? 22).map (·.size) = some 1 := by kernel_rfl
        clear hB rB hpk hni hS y2
        rcases hnc with ⟨g, off, rfl, d1, d2⟩ | ⟨d1, rfl⟩ <;> rcases hvc with ⟨g2, off2, rfl, d3, d4⟩ | ⟨d3, rfl⟩
        all_goals
          go_upto_region 11 with fail
          go_cut [4, 6] (fun i v w' => i = .int .i64 (k : Int) ∧ (∃ z, v = .int .i64 z) ∧ Sml1 S C W.heap.size W k nx' ou' (.slice za k zc) w')
          case first =>
            refine rg0v (S := (fun w' => w'.cell? ⟨W.heap.size, 0, none⟩ = some (.int .i64 S) ∧ w'.there W.heap.size 2 1)) 10 rfl (by kernel_rfl) ?_ (fun Wd hWd hHeld => ?_)
            · exact ⟨y0, th2⟩
            have hbd : Below wr.heap.size wr Wd := by rw [hWd]; exact Below.drew (Below.refl _ _)
            have zd1 : Wd.heap.size ≤ wr.heap.size := by rw [hWd]; exact Nat.le_refl _
            clear hWd
            iterate 1 (refine tk 9 (by rfl) (by kernel_rfl) (by exact fun _ _ _ h => h) (.inl ⟨by rfl, fun w hS => by (try dsimp only at hS); go_simp; (try with_reducible rfl)⟩) (by assumption) ?_; try go_frame)
            iterate 3 (refine tk 10 (by rfl) (by kernel_rfl) (by exact fun _ _ _ h => h) (.inl ⟨by rfl, fun w hS => by (try dsimp only at hS); go_simp; (try with_reducible rfl)⟩) (by assumption) ?_; try go_frame)
            refine wpAnyH_ready (rs := [1, 5]) (by kernel_rfl) (by simp) (rc (by rfl) (fun K hK => ?_) (rc (by rfl) (fun K hK => ?_) AllReadyH.nil))
            · rw [if_pos (by rfl)]
              refine wp_load_one _ _ rfl _ _ (.slice ua k uc) rfl (by kernel_rfl) (by first | exact cell_later hbd HY2.out | exact cell_later (Below.next hbd bl5 hbd.size) HY2.out) ?_
              refine hK.out _ _ ?_ (fun hHeld => ?_)
              · exact hHeld
              clear hK K
              (try go_frame)
              refine rd1 5 (by rfl) (by kernel_rfl) (fun K hK => ?_)
              go_simp
              refine (HPK.out _).mono ?_
              rintro e w' ⟨rfl, rfl⟩
              go_wp2_with fail
              refine hK.out _ _ ?_ (fun hHeld => ?_)
              · exact hHeld
              clear hK K
              (try go_frame)
              refine rd1 6 (by rfl) (by kernel_rfl) (fun K hK => ?_)
              go_simp
              generalize hA5 : World.alloc _ _ = W5
              have r5 := row_of_alloc (xs := [.int .i64 x]) hA5
              have bl5 := below_of_alloc hA5
              clear hA5
              refine hK.out _ _ ?_ (fun hHeld => ?_)
              · exact ⟨cell_later bl5 hHeld.1, there_later bl5 hHeld.2⟩
              clear hK K
              (try go_frame)
              refine rd1 7 (by rfl) (by kernel_rfl) (fun K hK => ?_)
              refine step_append_lies _ rfl (.tmp 48) (.tmp 53) 22 rfl W.heap.size 3 ti (.int .i64 0) 1 8 Tryz.underlying22 HTI.out HT1.out HT2.out HT3.out rfl (by decide) (.slice ua k uc) k (ints nx') rfl (owns_later HOW.out (Below.next hbd bl5 hbd.size)) ⟨_, 0, none⟩ 1 1 [.int .i64 x] rfl rfl (World.news_of_block r5) (by simp [Value.oneCell']) (by decide) (by unfold maxLen; omega) (by omega) (by have := bl5.size; have := hbd.size; omega) _ rfl ?_
              intro g4 gc4 w4 hown hgr hat hlt4
              have HO := hide hown
              have HG := hide hgr
              have HA := hide hat
              clear hown hgr hat hlt4
              refine hK.out _ _ ?_ (fun hHeld => ?_)
              · exact keepG9 HG.out hHeld hnP hnP
              clear hK K
              (try go_frame)
              iterate 1 (refine tk 9 (by rfl) (by kernel_rfl) (by exact fun _ _ _ h => h) (.inl ⟨by rfl, fun w hS => by (try dsimp only at hS); go_simp; (try with_reducible rfl)⟩) (by assumption) ?_; try go_frame)
              refine rd1 9 (by rfl) (by kernel_rfl) (fun K hK => ?_)
              rw [if_pos (by rfl)]
              refine wp_store_one _ _ _ rfl W.heap.size 2 (.slice (some ⟨g4, 0, none⟩) (k + 1) gc4) rfl rfl rfl rfl hHeld.2 hsz ?_
              refine hK.out _ _ ?_ (fun hHeld => ?_)
              · exact ⟨cell_kept hHeld.1 (.inr (by dsimp only; omega)), there_set hHeld.2 _ rfl _⟩
              clear hK K
              (try go_frame)
              refine wpAnyH_done (by kernel_rfl) ?_ _
              have HP1 := hide (HSm.out.push1 (Nat.le_refl _) (Below.next hbd bl5 hbd.size) HG.out HO.out HA.out hx)
              clear HG HO HA
              (try go_wp2_with fail)
              go_meet
              case rel => exact ⟨rfl, ⟨_, rfl⟩, _, _, _, HP1.out⟩
            · go_simp
              refine (HPK.out _).mono ?_
              rintro e w' ⟨rfl, rfl⟩
              go_wp2_with fail
              refine hK.out _ _ ?_ (fun hHeld => ?_)
              · exact hHeld
              clear hK K
              (try go_frame)
              refine wpAnyH_ready (rs := [1, 6]) (by kernel_rfl) (by simp) (rc (by rfl) (fun K hK => ?_) (rc (by rfl) (fun K hK => ?_) AllReadyH.nil))
              · rw [if_pos (by rfl)]
                refine wp_load_one _ _ rfl _ _ (.slice ua k uc) rfl (by kernel_rfl) (by first | exact cell_later hbd HY2.out | exact cell_later (Below.next hbd bl5 hbd.size) HY2.out) ?_
                refine hK.out _ _ ?_ (fun hHeld => ?_)
                · exact hHeld
                clear hK K
                (try go_frame)
                refine rd1 6 (by rfl) (by kernel_rfl) (fun K hK => ?_)
                go_simp
                generalize hA5 : World.alloc _ _ = W5
                have r5 := row_of_alloc (xs := [.int .i64 x]) hA5
                have bl5 := below_of_alloc hA5
                clear hA5
                refine hK.out _ _ ?_ (fun hHeld => ?_)
                · exact ⟨cell_later bl5 hHeld.1, there_later bl5 hHeld.2⟩
                clear hK K
                (try go_frame)
                refine rd1 7 (by rfl) (by kernel_rfl) (fun K hK => ?_)
                refine step_append_lies _ rfl (.tmp 48) (.tmp 53) 22 rfl W.heap.size 3 ti (.int .i64 0) 1 8 Tryz.underlying22 HTI.out HT1.out HT2.out HT3.out rfl (by decide) (.slice ua k uc) k (ints nx') rfl (owns_later HOW.out (Below.next hbd bl5 hbd.size)) ⟨_, 0, none⟩ 1 1 [.int .i64 x] rfl rfl (World.news_of_block r5) (by simp [Value.oneCell']) (by decide) (by unfold maxLen; omega) (by omega) (by have := bl5.size; have := hbd.size; omega) _ rfl ?_
                intro g4 gc4 w4 hown hgr hat hlt4
                have HO := hide hown
                have HG := hide hgr
                have HA := hide hat
                clear hown hgr hat hlt4
                refine hK.out _ _ ?_ (fun hHeld => ?_)
                · exact keepG9 HG.out hHeld hnP hnP
                clear hK K
                (try go_frame)
                iterate 1 (refine tk 9 (by rfl) (by kernel_rfl) (by exact fun _ _ _ h => h) (.inl ⟨by rfl, fun w hS => by (try dsimp only at hS); go_simp; (try with_reducible rfl)⟩) (by assumption) ?_; try go_frame)
                refine rd1 9 (by rfl) (by kernel_rfl) (fun K hK => ?_)
                rw [if_pos (by rfl)]
                refine wp_store_one _ _ _ rfl W.heap.size 2 (.slice (some ⟨g4, 0, none⟩) (k + 1) gc4) rfl rfl rfl rfl hHeld.2 hsz ?_
                refine hK.out _ _ ?_ (fun hHeld => ?_)
                · exact ⟨cell_kept hHeld.1 (.inr (by dsimp only; omega)), there_set hHeld.2 _ rfl _⟩
                clear hK K
                (try go_frame)
                refine wpAnyH_done (by kernel_rfl) ?_ _
                have HP1 := hide (HSm.out.push1 (Nat.le_refl _) (Below.next hbd bl5 hbd.size) HG.out HO.out HA.out hx)
                clear HG HO HA
                (try go_wp2_with fail)
                go_meet
                case rel => exact ⟨rfl, ⟨_, rfl⟩, _, _, _, HP1.out⟩
              · go_simp
                generalize hA5 : World.alloc _ _ = W5
                have r5 := row_of_alloc (xs := [.int .i64 x]) hA5
                have bl5 := below_of_alloc hA5
                clear hA5
                refine hK.out _ _ ?_ (fun hHeld => ?_)
                · exact ⟨cell_later bl5 hHeld.1, there_later bl5 hHeld.2⟩
                clear hK K
                (try go_frame)
                refine rd1 1 (by rfl) (by kernel_rfl) (fun K hK => ?_)
                rw [if_pos (by rfl)]
                refine wp_load_one _ _ rfl _ _ (.slice ua k uc) rfl (by kernel_rfl) (by first | exact cell_later hbd HY2.out | exact cell_later (Below.next hbd bl5 hbd.size) HY2.out) ?_
                refine hK.out _ _ ?_ (fun hHeld => ?_)
                · exact hHeld
                clear hK K
                (try go_frame)
                refine rd1 7 (by rfl) (by kernel_rfl) (fun K hK => ?_)
                refine step_append_lies _ rfl (.tmp 48) (.tmp 53) 22 rfl W.heap.size 3 ti (.int .i64 0) 1 8 Tryz.underlying22 HTI.out HT1.out HT2.out HT3.out rfl (by decide) (.slice ua k uc) k (ints nx') rfl (owns_later HOW.out (Below.next hbd bl5 hbd.size)) ⟨_, 0, none⟩ 1 1 [.int .i64 x] rfl rfl (World.news_of_block r5) (by simp [Value.oneCell']) (by decide) (by unfold maxLen; omega) (by omega) (by have := bl5.size; have := hbd.size; omega) _ rfl ?_
                intro g4 gc4 w4 hown hgr hat hlt4
                have HO := hide hown
                have HG := hide hgr
                have HA := hide hat
                clear hown hgr hat hlt4
                refine hK.out _ _ ?_ (fun hHeld => ?_)
                · exact keepG9 HG.out hHeld hnP hnP
                clear hK K
                (try go_frame)
                iterate 1 (refine tk 9 (by rfl) (by kernel_rfl) (by exact fun _ _ _ h => h) (.inl ⟨by rfl, fun w hS => by (try dsimp only at hS); go_simp; (try with_reducible rfl)⟩) (by assumption) ?_; try go_frame)
                refine rd1 9 (by rfl) (by kernel_rfl) (fun K hK => ?_)
                rw [if_pos (by rfl)]
                refine wp_store_one _ _ _ rfl W.heap.size 2 (.slice (some ⟨g4, 0, none⟩) (k + 1) gc4) rfl rfl rfl rfl hHeld.2 hsz ?_
                refine hK.out _ _ ?_ (fun hHeld => ?_)
                · exact ⟨cell_kept hHeld.1 (.inr (by dsimp only; omega)), there_set hHeld.2 _ rfl _⟩
                clear hK K
                (try go_frame)
                refine wpAnyH_done (by kernel_rfl) ?_ _
                have HP1 := hide (HSm.out.push1 (Nat.le_refl _) (Below.next hbd bl5 hbd.size) HG.out HO.out HA.out hx)
                clear HG HO HA
                (try go_wp2_with fail)
                go_meet
                case rel => exact ⟨rfl, ⟨_, rfl⟩, _, _, _, HP1.out⟩
          case rest =>
            obtain ⟨rfl, ⟨z, rfl⟩, g6, gc6, x6, r6, o6, p6, ne6, rg6, bl6⟩ := hcut
            have y3 := r6.cell_of (i := 3) rfl
            have HQ := hide (And.intro r6 (And.intro o6 (And.intro p6 (And.intro ne6 (And.intro rg6 bl6)))))
            have hn3 : some W.heap.size ≠ (Value.slice za k zc).ownBlock := fun q => owns_apart p6 r6 (by decide) q.symm
            have hrl6 := r6.lt
            have hzW6 := bl6.size
            clear r6 o6 p6 ne6 rg6 bl6
            go_wp2_with (at_builtin; refine wpList_append_lies _ rfl (.tmp 57) (.tmp 59) 22 rfl W.heap.size 3 ti (.int .i64 0) 1 8 Tryz.underlying22 HTI.out HT1.out HT2.out HT3.out rfl (by decide) (.slice za k zc) k (ints ou') rfl (HQ.out.2.2.1.alloc _) ⟨wc.heap.size, 0, none⟩ 1 1 [.int .i64 z] rfl rfl ?_ (by simp [Value.oneCell']) (by decide) (by unfold maxLen; omega) (by omega) ?_ (wc.heap.size + 1) (by simp) ?_)
            all_goals first
              | omega
              | exact World.news_of_block (Row.new wc _ _)
              | (have := (below_alloc wc (.cells #[.int .i64 z] 3)).size; omega)
              | skip
            · intro g7 gc7 w7 hown hgr hat hlt7
              obtain ⟨r6, o6, p6, ne6, rg6, bl6⟩ := HQ.out
              have r7 := (r6.old (below_alloc wc (.cells #[.int .i64 z] 3))).of_block (hgr.block _ (by simp; omega) hn3)
              have k3 := r7.cell_of (i := 3) rfl
              have f3 := r7.frozen 3
              have HS8 := hide (Sml.push2 (by simp [HSm.out.ln]) HSm.out.lo rg6 r6 o6 p6 ne6 bl6 (Nat.le_refl _) (below_alloc wc (.cells #[.int .i64 z] 3)) hgr hown (by rcases hat with q | q; exact .inl q; exact .inr (by rw [q]; simp)))
              clear hown hgr hat hlt7 r6 o6 p6 ne6 rg6 bl6 r7 y3
              go_wp2
              go_roundw
              case rel => exact ⟨k + 1, _, _, _, _, by omega, by go_num, HS8.out⟩
              case measure => simp [intOf]; omega
      · have hlt' : ¬ (k : Int) < (m : Int) := by omega
        obtain rfl : k = m := by omega
        obtain ⟨⟨ua, uc, rfl⟩, -⟩ := owns_form hS.o1
        obtain ⟨⟨za, zc, rfl⟩, -⟩ := owns_form hS.o2
        obtain ⟨u0, u1, u2, u3⟩ := cells4 hS.row
        have rR := HRR.out.old hS.bl
        obtain ⟨z0, z1, z2, z3⟩ := cells4 rR
        have f0 := rR.frozen 0
        have f1 := rR.frozen 1
        have f2 := rR.frozen 2
        have f3 := rR.frozen 3
        have HSm := hide hS
        have hEnd := hide (show (wr.setCells (w.heap.size + 1) 0 [.int .i64 S, .int .i64 C, .slice ua k uc, .slice za k zc]).ownsRow w.heap.size 3 1 (.slice ua k uc) k (ints nx') ∧ (wr.setCells (w.heap.size + 1) 0 [.int .i64 S, .int .i64 C, .slice ua k uc, .slice za k zc]).ownsRow w.heap.size 3 1 (.slice za k zc) k (ints ou') ∧ Below w.heap.size w (wr.setCells (w.heap.size + 1) 0 [.int .i64 S, .int .i64 C, .slice ua k uc, .slice za k zc]) from by
          have e1 : ∀ q, (Value.slice ua k uc).ownBlock = some q → q ≠ w.heap.size + 1 := fun q e => by have := (hS.o1.lt q e).1; omega
          have e2 : ∀ q, (Value.slice za k zc).ownBlock = some q → q ≠ w.heap.size + 1 := fun q e => by have := (hS.o2.lt q e).1; omega
          exact ⟨owns_base (owns_block hS.o1 fun q e => setCells_other _ _ _ q (e1 q e)) (by omega), owns_base (owns_block hS.o2 fun q e => setCells_other _ _ _ q (e2 q e)) (by omega), below_setCells (by omega) _ _ _ (Below.next HB.out hS.bl HB.out.size)⟩)
        have HT := hide (show tableOk S C nx' ou' = true by
          have h1 := hS.ln
          have h2 := hS.lo
          have h3 := HM.out
          simp only [tableOk, Bool.and_eq_true, decide_eq_true_eq, List.all_eq_true]
          exact ⟨⟨⟨⟨⟨⟨by omega, by omega⟩, by omega⟩, by omega⟩, by omega⟩, by omega⟩, fun y hy => hS.rg y hy⟩)
        clear hS rR y0 y1 y2
        go_wp2
        refine bodyPost_ret (v := .agg #[.int .i64 S, .int .i64 C, .slice ua k uc, .slice za k zc]) (by simp [results, Tryz.results37, go_sem, z0, z1, z2, z3]) rfl ⟨S, C, nx', ou', _, _, rfl, ?_, ?_, HT.out, by rw [HSm.out.ln]; omega, hEnd.out.2.2⟩
        · rw [HSm.out.ln]; exact hEnd.out.1
        · rw [HSm.out.lo]; exact hEnd.out.2.1
end Go.Proofs.YtefjhnhdagolhaaGreat
