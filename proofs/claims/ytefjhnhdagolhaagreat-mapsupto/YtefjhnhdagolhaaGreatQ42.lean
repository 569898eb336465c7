import Derived.Test.YtefjhnhdagolhaaGreatQ40
import Derived.Test.YtefjhnhdagolhaaGreatQ17
import Derived.Test.YtefjhnhdagolhaaGreatQ31
namespace Go.Proofs.YtefjhnhdagolhaaGreat
open Go.RowKit
attribute [local go_sem ↓] Go.wp_at_zero Go.wp_at_succ
set_option maxHeartbeats 1000000 in
theorem none_w (w : World) : Calls Tryz.prog 380 #[] w fun e w' => e = .returned (.agg #[.int .i64 3, .int .i64 0]) ∧ Below w.heap.size w w' := by
  go_enter Tryz.func380, Tryz.ntmps380
  go_wp2
  exact bodyPost_ret (v := .agg #[.int .i64 3, .int .i64 0]) (by simp [results, Tryz.results380, go_sem]) rfl ⟨rfl, below_alloc _ _⟩
theorem del_none {s : Prs} {a : Int} (h : mget s a = none) : mdel s a = s := by
  unfold mget at h
  rw [Option.map_eq_none_iff, List.find?_eq_none] at h
  exact filter_all fun x hx => by simpa using h x hx
section
variable {I : Nat → Prop} {w : World} {p : Option Addr} {s : Prs} {h : Nat} {c a b : Int}
def MapLeft (I : Nat → Prop) (w : World) (s : Prs) (x y : Int) (e : Ending) (w' : World) : Prop := ∃ p h, e = .returned (.tuple #[.pointer p, .agg #[.int .i64 x, .int .i64 y]]) ∧ Tr (JB I w.heap.size w') w' p s h ∧ Below w.heap.size w w'
theorem map_end {W w3 w4 : World} {b7 : Nat} {p3 : Option Addr} {s3 : Prs} {h3 : Nat} {v0 v1 : Value} (hI : ∀ k, I k → k < w.heap.size) (h7 : w.heap.size ≤ b7) (hlt : b7 < W.heap.size) (hB0 : Below w.heap.size w W) (hR : Row W b7 94 [v0, v1]) (t3 : Tr (JB I W.heap.size w3) w3 p3 s3 h3) (hb3 : Below W.heap.size W w3) (hb4 : Below w3.heap.size w3 w4) (x y : Int) :
    Row ((w4.setCell ⟨b7, 0, none⟩ (.int .i64 x)).setCell ⟨b7, 1, none⟩ (.int .i64 y)) b7 94 [.int .i64 x, .int .i64 y] ∧ Tr (JB I w.heap.size ((w4.setCell ⟨b7, 0, none⟩ (.int .i64 x)).setCell ⟨b7, 1, none⟩ (.int .i64 y))) ((w4.setCell ⟨b7, 0, none⟩ (.int .i64 x)).setCell ⟨b7, 1, none⟩ (.int .i64 y)) p3 s3 h3 ∧
      Below w.heap.size w ((w4.setCell ⟨b7, 0, none⟩ (.int .i64 x)).setCell ⟨b7, 1, none⟩ (.int .i64 y)) := by
  have z0 := hB0.size
  have z3 := hb3.size
  have z4 := hb4.size
  refine ⟨((hR.old (Below.next hb3 hb4 z3)).set 0 _).set 1 _, t3.stay fun k hk hk3 => ⟨?_, ?_⟩, (((Below.next (Below.next hB0 hb3 z0) hb4 (by omega)).setCell (by simpa using h7) _).setCell (by simpa using h7) _)⟩
  · rcases hk with hk | hk
    · exact .inl hk
    · refine .inr ⟨by omega, ?_⟩
      simp [World.setCell]
      omega
  · have hne : k ≠ b7 := by
      rcases hk with hk | hk
      · have := hI k hk; omega
      · omega
    rw [Below.heap_setCell _ _ _ k hne, Below.heap_setCell _ _ _ k hne]
    exact hb4.block k hk3
set_option maxRecDepth 20000 in
set_option maxHeartbeats 4000000 in
theorem mapApply_w (q : Tr I w p s h) (hI : ∀ k, I k → k < w.heap.size) (hs : Asc s) (hz : s.length ≤ 500000000000) :
    Calls Tryz.prog 375 #[.agg #[], .pointer p, .agg #[.int .i64 c, .int .i64 a, .int .i64 b]] w (MapLeft I w (mapP.apply s ⟨c, a, b⟩).1 (mapP.apply s ⟨c, a, b⟩).2.s (mapP.apply s ⟨c, a, b⟩).2.v) := by
  obtain ⟨r, hr⟩ : ∃ r, r = mapP.apply s ⟨c, a, b⟩ := ⟨_, rfl⟩
  rw [← hr]
  have HRR := hide hr
  have HS := hide hs
  obtain ⟨d, q⟩ := q
  clear hr hs
  go_enter Tryz.func375, Tryz.ntmps375
  go_upto_region 1 with fail
  generalize hW : World.alloc (World.alloc (World.alloc w _) _) _ = W
  have hb0 : Below w.heap.size w W := by rw [← hW]; exact ((below_alloc w _).alloc (by simp) _).alloc (by simp; omega) _
  have r5 : Row W (w.heap.size + 1) 36 [.int .i64 c, .int .i64 a, .int .i64 b] := by rw [← hW]; exact (Row.new' (by simp)).alloc _
  have r7 : Row W (w.heap.size + 1 + 1) 94 [.int .i64 0, .int .i64 0] := by rw [← hW]; exact Row.new' (by simp)
  have o0 := r5.cell_of (i := 0) rfl
  have o1 := r5.cell_of (i := 1) rfl
  have o2 := r5.cell_of (i := 2) rfl
  have hlt := r7.lt
  have HB0 := hide hb0
  have HR7 := hide r7
  have HD := hide (show TrAt (JB I W.heap.size W) W d p s h from q.stay fun k hk hl => ⟨.inl hk, hb0.block k hl⟩)
  have HQ := hide (show Tr (JB I W.heap.size W) W p s h from ⟨d, HD.out⟩)
  clear hW hb0 r5 r7 q
  go_wp2_with fail
  refine (find_w HQ.out HS.out).mono ?_
  rintro e w2 ⟨rfl, rfl⟩
  cases hm : mget s a with
  | some v =>
    have HM := hide hm
    clear hm
    unfold findV
    by_cases c1 : c = 1
    · subst c1
      have e : r = (mput s a b, ⟨1, v⟩) := by rw [HRR.out]; simp [mapP, mans, HM.out]
      subst e
      clear HRR
      go_wp2_with fail
      refine (with_at (I := I) (B := w2.heap.size) d w2 p s h HD.out HS.out (Nat.le_refl _) hz).mono ?_
      rintro e w3 ⟨p3, h3, rfl, t3, hb3⟩
      have HT3 := hide t3
      have HB3 := hide hb3
      clear t3 hb3
      go_wp2_with fail
      refine (done_w _ _).mono ?_
      rintro e w4 ⟨rfl, hb4⟩
      have HE := hide (map_end hI (by omega) hlt HB0.out HR7.out HT3.out HB3.out hb4 1 v)
      have hro4 := HR7.out.old (Below.next HB3.out hb4 HB3.out.size)
      have a0 : w4.cell? ⟨w.heap.size + 1 + 1, 0, none⟩ = some (.int .i64 0) := hro4.cell_of rfl
      have a1 : w4.cell? ⟨w.heap.size + 1 + 1, 1, none⟩ = some (.int .i64 0) := hro4.cell_of rfl
      have f0 := hro4.frozen 0
      have f1 := hro4.frozen 1
      clear hro4 hb4
      go_wp2_with fail
      have q1 := HE.out.1.cell_of (i := 0) rfl
      have q2 := HE.out.1.cell_of (i := 1) rfl
      exact bodyPost_ret (v := .tuple #[.pointer p3, .agg #[.int .i64 1, .int .i64 v]]) (by simp [results, Tryz.results375, go_sem, q1, q2]) rfl ⟨_, _, rfl, HE.out.2.1, HE.out.2.2⟩
    · by_cases c2 : c = 2
      · subst c2
        have e : r = (s, ⟨1, v⟩) := by rw [HRR.out]; simp [mapP, mans, HM.out]
        subst e
        clear HRR
        go_wp2_with fail
        refine (done_w _ _).mono ?_
        rintro e w4 ⟨rfl, hb4⟩
        have HE := hide (map_end hI (by omega) hlt HB0.out HR7.out HQ.out (Below.refl w2.heap.size w2) hb4 1 v)
        have hro4 := HR7.out.old (Below.next (Below.refl w2.heap.size w2) hb4 (Below.refl w2.heap.size w2).size)
        have a0 : w4.cell? ⟨w.heap.size + 1 + 1, 0, none⟩ = some (.int .i64 0) := hro4.cell_of rfl
        have a1 : w4.cell? ⟨w.heap.size + 1 + 1, 1, none⟩ = some (.int .i64 0) := hro4.cell_of rfl
        have f0 := hro4.frozen 0
        have f1 := hro4.frozen 1
        clear hro4 hb4
        go_wp2_with fail
        have q1 := HE.out.1.cell_of (i := 0) rfl
        have q2 := HE.out.1.cell_of (i := 1) rfl
        exact bodyPost_ret (v := .tuple #[.pointer p, .agg #[.int .i64 1, .int .i64 v]]) (by simp [results, Tryz.results375, go_sem, q1, q2]) rfl ⟨_, _, rfl, HE.out.2.1, HE.out.2.2⟩
      · by_cases c3 : c = 3
        · subst c3
          have e : r = (mdel s a, ⟨1, v⟩) := by rw [HRR.out]; simp [mapP, mans, HM.out]
          subst e
          clear HRR
          go_wp2_with fail
          refine (without_at (I := I) (B := w2.heap.size) d a w2 p s h HD.out HS.out (by rw [HM.out]; rfl) (Nat.le_refl _) hz).mono ?_
          rintro e w3 ⟨p3, h3, rfl, t3, hb3⟩
          have HT3 := hide t3
          have HB3 := hide hb3
          clear t3 hb3
          go_wp2_with fail
          refine (done_w _ _).mono ?_
          rintro e w4 ⟨rfl, hb4⟩
          have HE := hide (map_end hI (by omega) hlt HB0.out HR7.out HT3.out HB3.out hb4 1 v)
          have hro4 := HR7.out.old (Below.next HB3.out hb4 HB3.out.size)
          have a0 : w4.cell? ⟨w.heap.size + 1 + 1, 0, none⟩ = some (.int .i64 0) := hro4.cell_of rfl
          have a1 : w4.cell? ⟨w.heap.size + 1 + 1, 1, none⟩ = some (.int .i64 0) := hro4.cell_of rfl
          have f0 := hro4.frozen 0
          have f1 := hro4.frozen 1
          clear hro4 hb4
          go_wp2_with fail
          have q1 := HE.out.1.cell_of (i := 0) rfl
          have q2 := HE.out.1.cell_of (i := 1) rfl
          exact bodyPost_ret (v := .tuple #[.pointer p3, .agg #[.int .i64 1, .int .i64 v]]) (by simp [results, Tryz.results375, go_sem, q1, q2]) rfl ⟨_, _, rfl, HE.out.2.1, HE.out.2.2⟩
        · have e : r = (s, ⟨4, 0⟩) := by rw [HRR.out]; simp [mapP, c1, c2, c3]
          subst e
          clear HRR
          go_wp2_with fail
          refine (badOp_w _).mono ?_
          rintro e w4 ⟨rfl, hb4⟩
          have HE := hide (map_end hI (by omega) hlt HB0.out HR7.out HQ.out (Below.refl w2.heap.size w2) hb4 4 0)
          have hro4 := HR7.out.old (Below.next (Below.refl w2.heap.size w2) hb4 (Below.refl w2.heap.size w2).size)
          have a0 : w4.cell? ⟨w.heap.size + 1 + 1, 0, none⟩ = some (.int .i64 0) := hro4.cell_of rfl
          have a1 : w4.cell? ⟨w.heap.size + 1 + 1, 1, none⟩ = some (.int .i64 0) := hro4.cell_of rfl
          have f0 := hro4.frozen 0
          have f1 := hro4.frozen 1
          clear hro4 hb4
          go_wp2_with fail
          have q1 := HE.out.1.cell_of (i := 0) rfl
          have q2 := HE.out.1.cell_of (i := 1) rfl
          exact bodyPost_ret (v := .tuple #[.pointer p, .agg #[.int .i64 4, .int .i64 0]]) (by simp [results, Tryz.results375, go_sem, q1, q2]) rfl ⟨_, _, rfl, HE.out.2.1, HE.out.2.2⟩
  | none =>
    have HM := hide hm
    clear hm
    unfold findV
    by_cases c1 : c = 1
    · subst c1
      have e : r = (mput s a b, ⟨3, 0⟩) := by rw [HRR.out]; simp [mapP, mans, HM.out]
      subst e
      clear HRR
      go_wp2_with fail
      refine (with_at (I := I) (B := w2.heap.size) d w2 p s h HD.out HS.out (Nat.le_refl _) hz).mono ?_
      rintro e w3 ⟨p3, h3, rfl, t3, hb3⟩
      have HT3 := hide t3
      have HB3 := hide hb3
      clear t3 hb3
      go_wp2_with fail
      refine (none_w _).mono ?_
      rintro e w4 ⟨rfl, hb4⟩
      have HE := hide (map_end hI (by omega) hlt HB0.out HR7.out HT3.out HB3.out hb4 3 0)
      have hro4 := HR7.out.old (Below.next HB3.out hb4 HB3.out.size)
      have a0 : w4.cell? ⟨w.heap.size + 1 + 1, 0, none⟩ = some (.int .i64 0) := hro4.cell_of rfl
      have a1 : w4.cell? ⟨w.heap.size + 1 + 1, 1, none⟩ = some (.int .i64 0) := hro4.cell_of rfl
      have f0 := hro4.frozen 0
      have f1 := hro4.frozen 1
      clear hro4 hb4
      go_wp2_with fail
      have q1 := HE.out.1.cell_of (i := 0) rfl
      have q2 := HE.out.1.cell_of (i := 1) rfl
      exact bodyPost_ret (v := .tuple #[.pointer p3, .agg #[.int .i64 3, .int .i64 0]]) (by simp [results, Tryz.results375, go_sem, q1, q2]) rfl ⟨_, _, rfl, HE.out.2.1, HE.out.2.2⟩
    · by_cases c2 : c = 2
      · subst c2
        have e : r = (s, ⟨3, 0⟩) := by rw [HRR.out]; simp [mapP, mans, HM.out]
        subst e
        clear HRR
        go_wp2_with fail
        refine (none_w _).mono ?_
        rintro e w4 ⟨rfl, hb4⟩
        have HE := hide (map_end hI (by omega) hlt HB0.out HR7.out HQ.out (Below.refl w2.heap.size w2) hb4 3 0)
        have hro4 := HR7.out.old (Below.next (Below.refl w2.heap.size w2) hb4 (Below.refl w2.heap.size w2).size)
        have a0 : w4.cell? ⟨w.heap.size + 1 + 1, 0, none⟩ = some (.int .i64 0) := hro4.cell_of rfl
        have a1 : w4.cell? ⟨w.heap.size + 1 + 1, 1, none⟩ = some (.int .i64 0) := hro4.cell_of rfl
        have f0 := hro4.frozen 0
        have f1 := hro4.frozen 1
        clear hro4 hb4
        go_wp2_with fail
        have q1 := HE.out.1.cell_of (i := 0) rfl
        have q2 := HE.out.1.cell_of (i := 1) rfl
        exact bodyPost_ret (v := .tuple #[.pointer p, .agg #[.int .i64 3, .int .i64 0]]) (by simp [results, Tryz.results375, go_sem, q1, q2]) rfl ⟨_, _, rfl, HE.out.2.1, HE.out.2.2⟩
      · by_cases c3 : c = 3
        · subst c3
          have e : r = (s, ⟨3, 0⟩) := by rw [HRR.out]; simp [mapP, mans, HM.out, del_none HM.out]
          subst e
          clear HRR
          go_wp2_with fail
          refine (none_w _).mono ?_
          rintro e w4 ⟨rfl, hb4⟩
          have HE := hide (map_end hI (by omega) hlt HB0.out HR7.out HQ.out (Below.refl w2.heap.size w2) hb4 3 0)
          have hro4 := HR7.out.old (Below.next (Below.refl w2.heap.size w2) hb4 (Below.refl w2.heap.size w2).size)
          have a0 : w4.cell? ⟨w.heap.size + 1 + 1, 0, none⟩ = some (.int .i64 0) := hro4.cell_of rfl
          have a1 : w4.cell? ⟨w.heap.size + 1 + 1, 1, none⟩ = some (.int .i64 0) := hro4.cell_of rfl
          have f0 := hro4.frozen 0
          have f1 := hro4.frozen 1
          clear hro4 hb4
          go_wp2_with fail
          have q1 := HE.out.1.cell_of (i := 0) rfl
          have q2 := HE.out.1.cell_of (i := 1) rfl
          exact bodyPost_ret (v := .tuple #[.pointer p, .agg #[.int .i64 3, .int .i64 0]]) (by simp [results, Tryz.results375, go_sem, q1, q2]) rfl ⟨_, _, rfl, HE.out.2.1, HE.out.2.2⟩
        · have e : r = (s, ⟨4, 0⟩) := by rw [HRR.out]; simp [mapP, c1, c2, c3]
          subst e
          clear HRR
          go_wp2_with fail
          refine (badOp_w _).mono ?_
          rintro e w4 ⟨rfl, hb4⟩
          have HE := hide (map_end hI (by omega) hlt HB0.out HR7.out HQ.out (Below.refl w2.heap.size w2) hb4 4 0)
          have hro4 := HR7.out.old (Below.next (Below.refl w2.heap.size w2) hb4 (Below.refl w2.heap.size w2).size)
          have a0 : w4.cell? ⟨w.heap.size + 1 + 1, 0, none⟩ = some (.int .i64 0) := hro4.cell_of rfl
          have a1 : w4.cell? ⟨w.heap.size + 1 + 1, 1, none⟩ = some (.int .i64 0) := hro4.cell_of rfl
          have f0 := hro4.frozen 0
          have f1 := hro4.frozen 1
          clear hro4 hb4
          go_wp2_with fail
          have q1 := HE.out.1.cell_of (i := 0) rfl
          have q2 := HE.out.1.cell_of (i := 1) rfl
          exact bodyPost_ret (v := .tuple #[.pointer p, .agg #[.int .i64 4, .int .i64 0]]) (by simp [results, Tryz.results375, go_sem, q1, q2]) rfl ⟨_, _, rfl, HE.out.2.1, HE.out.2.2⟩
end
theorem owns_rebase {w : World} {B : Nat} {e : TypeId} {size : Nat} {v : Value} {n : Nat} {xs : List Value} (h : w.ownsRow 0 e size v n xs) (hb : ∀ k, v.ownBlock = some k → B ≤ k) : w.ownsRow B e size v n xs := by
  refine ⟨h.1, ?_⟩
  rcases h.2 with h2 | ⟨g, cap, cur, rfl, -, h4⟩
  · exact .inl h2
  · exact .inr ⟨g, cap, cur, rfl, hb g rfl, h4⟩
set_option maxHeartbeats 1000000 in
theorem mapTell_w {I : Nat → Prop} {w : World} {p : Option Addr} {s : Prs} {h : Nat} (q : Tr I w p s h) (hI : ∀ k, I k → k < w.heap.size) (hz : s.length ≤ 500000000000) :
    Calls Tryz.prog 376 #[.agg #[], .pointer p] w fun e w' => ∃ v, e = .returned v ∧ w'.ownsRow w.heap.size 3 1 v (flat s).length (ints (flat s)) ∧ Below w.heap.size w w' := by
  obtain ⟨d, q⟩ := q
  have HQ := hide q
  clear q
  go_enter Tryz.func376, Tryz.ntmps376
  go_wp2_with fail
  generalize hW : World.alloc w _ = W
  have hb0 : Below w.heap.size w W := by rw [← hW]; exact below_alloc _ _
  have HB := hide hb0
  clear hW
  refine (listed_at (I := I) (N := w.heap.size) hI d W p s h (.slice none 0 0) [] (HQ.out.stay fun k hk hl => ⟨hk, hb0.block k hl⟩) hb0.size (by simp; omega) (World.ownsRow_nil _ _ _ _) (fun k e => by cases e)).mono ?_
  clear hb0
  rintro e w3 ⟨v, rfl, hG⟩
  have HG := hide hG
  clear hG
  go_wp2_with fail
  go_ret
  have hf := HG.out.fr
  have ho := HG.out.own
  rw [List.nil_append] at ho
  have z := HB.out.size
  refine ⟨v, rfl, owns_rebase ho (fun k e => (HG.out.at' k e).elim (fun c => by cases c) (fun c => by omega)), ?_⟩
  exact Below.next HB.out ⟨hf.os, hf.tape, hf.output, hf.size, fun k hk => hf.block k hk (fun c => by cases c)⟩ z
def mapR : tree.SR Prs where
  sz s := 2 * s.length
  rep I w s c := ∃ p h, c = [.pointer p] ∧ Tr I w p s h ∧ Asc s
  len h := by obtain ⟨p, h, e, -⟩ := h; rw [e]; rfl
  shape h v hv := by obtain ⟨p, h, e, -⟩ := h; rw [e] at hv; exact ⟨_, List.mem_singleton.mp hv⟩
  stay hk h := by obtain ⟨p, h, e, q, a⟩ := h; exact ⟨p, h, e, q.stay hk, a⟩
theorem map_asc {s : Prs} (h : Asc s) (o : M.Op) : Asc (mapP.apply s o).1 := by
  show Asc (Prod.fst (if _ then _ else _))
  split
  · exact asc_put h _ _
  · split
    · exact h
    · split
      · exact asc_del h _
      · exact h
theorem map_grows : M.Grows (fun s : Prs => 2 * s.length) mapP := by
  refine ⟨Nat.zero_le _, fun s o => ?_⟩
  show 2 * List.length (Prod.fst (if _ then _ else _)) ≤ _
  have := put_len s o.a o.b
  have := del_len s o.a
  split
  · dsimp only; omega
  · split
    · dsimp only; omega
    · split <;> dsimp only <;> omega
theorem mapApply_m (w : World) : (method 553 150 (.agg #[]) "Apply").run Tryz.prog w = .ok (375, .agg #[]) w := by kernel_rfl
theorem mapApply_c (s o : Value) (w : World) : (callFunc 375 #[.agg #[], s, o]).run Tryz.prog w = .ok (.enter 375 #[.agg #[], s, o]) w := by kernel_rfl
theorem mapTell_m2 (w : World) : (method 553 150 (.agg #[]) "Tell").run Tryz.prog w = .ok (376, .agg #[]) w := by kernel_rfl
theorem mapTell_c2 (s : Value) (w : World) : (callFunc 376 #[.agg #[], s]).run Tryz.prog w = .ok (.enter 376 #[.agg #[], s]) w := by kernel_rfl
theorem mapAp (L : tree.Lt) (ho : L.oT = 150) (hv : L.ov = .agg #[]) : tree.ApOk mapR mapP L 375 (.agg #[]) := by
  refine ⟨map_grows, fun W => by rw [ho, hv]; exact mapApply_m W, fun s o W => mapApply_c s o W, fun I W s x op hr hsz hI => ?_⟩
  obtain ⟨p, h, e, q, ha⟩ := hr
  have hx : x = .pointer p := by simpa using e
  subst hx
  have hz : 2 * s.length ≤ 1000000000000 := hsz
  obtain ⟨c, a, b⟩ := op
  refine (mapApply_w q hI ha (by omega)).mono ?_
  rintro e' w' ⟨p', h', rfl, t', hb⟩
  exact ⟨.pointer p', rfl, ⟨p', h', rfl, t', map_asc ha _⟩, hb⟩
theorem mapTe (L : tree.Lt) (ho : L.oT = 150) (hv : L.ov = .agg #[]) : tree.TeOk mapR L flat 376 (.agg #[]) where
  m W := by rw [ho, hv]; exact mapTell_m2 W
  c s W := mapTell_c2 s W
  f I W s x hr hsz hI := by
    obtain ⟨p, h, e, q, ha⟩ := hr
    have hx : x = p := by simpa using e
    subst hx
    have hz : 2 * s.length ≤ 1000000000000 := hsz
    exact mapTell_w q hI (by omega)
end Go.Proofs.YtefjhnhdagolhaaGreat
