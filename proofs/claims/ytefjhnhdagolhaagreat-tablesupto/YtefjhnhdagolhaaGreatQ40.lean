import Derived.Test.YtefjhnhdagolhaaGreatQ23
import Derived.Test.YtefjhnhdagolhaaGreatQ39
namespace Go.Proofs.YtefjhnhdagolhaaGreat
open Go.RowKit
open M (upd upd_same upd_other RSt RTh cnt marks tagged num)
attribute [local go_sem ↓] Go.wp_at_zero Go.wp_at_succ
section
variable (st co s a b2 : Int) (b g c : Nat) (w : World)
set_option maxRecDepth 20000 in
set_option maxHeartbeats 1000000 in
theorem docTable_bad (s1 s2 : Value) (k : Int) (hk : ¬ (0 ≤ k ∧ k < co)) (hR : Row w b 159 [.int .i64 5, .int .i64 st, .int .i64 co, s1, s2, .slice (some ⟨g, 0, none⟩) 1 c]) :
    Calls Tryz.prog 114 #[.pointer (some ⟨b, 0, none⟩), .agg #[.int .i64 k, .int .i64 a, .int .i64 b2]] w fun e w' => e = .returned (.agg #[.int .i64 4, .int .i64 0]) ∧ Below w.heap.size w w' := by
  have c0 := hR.cell_of (i := 0) rfl
  have c2 := hR.cell_of (i := 2) rfl
  by_cases h0 : k < 0
  all_goals
    have h1 : k < 0 ∨ co ≤ k := by omega
    have h1' : ¬ k < 0 → co ≤ k := by omega
    try simp only [h0, not_false_eq_true, forall_const] at h1'
    clear hk h1
    go_enter Tryz.func114, Tryz.ntmps114
    go_upto_region 1 with fail
    generalize hW : World.alloc (World.alloc w _) _ = W
    have hb : Below w.heap.size w W := by rw [← hW]; exact ((Below.refl _ _).alloc (Nat.le_refl _) _).alloc (by simp) _
    have r0 : Row W w.heap.size 36 [.int .i64 k, .int .i64 a, .int .i64 b2] := by rw [← hW]; exact (Row.new' rfl).alloc _
    have r1 : Row W (w.heap.size + 1) 94 [.int .i64 0, .int .i64 0] := by rw [← hW]; exact Row.new' (by simp)
    have d0 := cell_later hb c0
    have d2 := cell_later hb c2
    have x0 := r0.cell_of (i := 0) rfl
    have HR1 := hide r1
    have HB := hide hb
    clear hW hR c0 c2 r0 r1 hb
    go_upto_region 9 with fail
    go_quiet (fail)
    generalize hW2 : World.drewN W nq = W2
    have HB2 := hide (show Below w.heap.size w W2 by rw [← hW2]; exact Below.drewN HB.out _)
    have r2 : Row W2 (w.heap.size + 1) 94 [.int .i64 0, .int .i64 0] := by rw [← hW2]; exact HR1.out
    have y0 := r2.cell_of (i := 0) rfl
    have y1 := r2.cell_of (i := 1) rfl
    have z0 := r2.frozen 0
    have z1 := r2.frozen 1
    have HRo := hide (r2.set 0 (.int .i64 4) |>.set 1 (.int .i64 0))
    clear hW2 r2 d0 d2 x0
    go_wp2_with fail
    have q1 := HRo.out.cell_of (i := 0) rfl
    have q2 := HRo.out.cell_of (i := 1) rfl
    exact bodyPost_ret (v := .agg #[.int .i64 4, .int .i64 0]) (by simp [results, Tryz.results114, go_sem, q1, q2]) rfl ⟨rfl, (HB2.out.setCell (by simp) _).setCell (by simp) _⟩
set_option maxRecDepth 20000 in
set_option maxHeartbeats 2000000 in
theorem docTable_go (k x y : Int) (g1 g2 m1 k1 m2 k2 i : Nat) (c0 : 0 ≤ k) (c1 : k < co) (hi : (i : Int) = s * co + k) (p0 : 0 ≤ s * co) (p1 : s * co ≤ 1024) (hi1 : i < 1024) (h1 : i < m1) (h2 : i < m2) (x1 : w.cell? ⟨g1, i, none⟩ = some (.int .i64 x)) (y1 : w.cell? ⟨g2, i, none⟩ = some (.int .i64 y)) (n2 : g2 ≠ g) (hbg : b ≠ g)
    (hR : Row w b 159 [.int .i64 5, .int .i64 st, .int .i64 co, .slice (some ⟨g1, 0, none⟩) m1 k1, .slice (some ⟨g2, 0, none⟩) m2 k2, .slice (some ⟨g, 0, none⟩) 1 c]) (hg : w.cell? ⟨g, 0, none⟩ = some (.int .i64 s)) (hf : w.frozen? ⟨g, 0, none⟩ = false) :
    Calls Tryz.prog 114 #[.pointer (some ⟨b, 0, none⟩), .agg #[.int .i64 k, .int .i64 a, .int .i64 b2]] w fun e w' => e = .returned (.agg #[.int .i64 1, .int .i64 y]) ∧ SameBlk (w.setCell ⟨g, 0, none⟩ (.int .i64 x)) w' g ∧ Fr (fun k => k = g) w w' := by
  have v0 := hR.cell_of (i := 0) rfl
  have v2 := hR.cell_of (i := 2) rfl
  have v3 := hR.cell_of (i := 3) rfl
  have v4 := hR.cell_of (i := 4) rfl
  have v5 := hR.cell_of (i := 5) rfl
  have hgl : g < w.heap.size := World.block_lt_of_cell? w _ hg
  have hk0 : ¬ k < 0 := by omega
  have hk1 : ¬ co ≤ k := by omega
  have hm : wrap64 (s * co) = s * co := by unfold wrap64; omega
  have ha : wrap64 (s * co + k) = (i : Int) := by rw [← hi]; unfold wrap64; omega
  have hi' : s * co + k = (i : Int) := hi.symm
  have hi0 : (0 : Int) ≤ (i : Int) := by omega
  have hi1' : (i : Int) < (m1 : Int) := by omega
  have hi2' : (i : Int) < (m2 : Int) := by omega
  have hi3' : (i : Int) ≤ 9223372036854775807 := by omega
  clear hi
  go_enter Tryz.func114, Tryz.ntmps114
  go_upto_region 1 with fail
  generalize hW : World.alloc (World.alloc w _) _ = W
  have hb : Below w.heap.size w W := by rw [← hW]; exact ((Below.refl _ _).alloc (Nat.le_refl _) _).alloc (by simp) _
  have r0 : Row W w.heap.size 36 [.int .i64 k, .int .i64 a, .int .i64 b2] := by rw [← hW]; exact (Row.new' rfl).alloc _
  have r1 : Row W (w.heap.size + 1) 94 [.int .i64 0, .int .i64 0] := by rw [← hW]; exact Row.new' (by simp)
  have d0 := cell_later hb v0
  have d2 := cell_later hb v2
  have d3 := cell_later hb v3
  have d4 := cell_later hb v4
  have d5 := cell_later hb v5
  have dg := cell_later hb hg
  have dx := cell_later hb x1
  have dy := cell_later hb y1
  have df : W.frozen? ⟨g, 0, none⟩ = false := by rw [hb.frozen (p := ⟨g, 0, none⟩) hgl]; exact hf
  have x0 := r0.cell_of (i := 0) rfl
  have HR1 := hide r1
  have HB := hide hb
  clear hW hR v0 v2 v3 v4 v5 hg hf x1 y1 r0 r1 hb
  go_upto_region 9 with fail
  go_quiet (fail)
  generalize hW2 : World.drewN W nq = W2
  have HB2 := hide (show Below w.heap.size w W2 by rw [← hW2]; exact Below.drewN HB.out _)
  have hR2 : Row W2 (w.heap.size + 1) 94 [.int .i64 0, .int .i64 0] := by rw [← hW2]; exact HR1.out
  replace d2 : W2.cell? ⟨b, 2, none⟩ = some (.int .i64 co) := by rw [← hW2]; exact d2
  replace d3 : W2.cell? ⟨b, 3, none⟩ = some (.slice (some ⟨g1, 0, none⟩) m1 k1) := by rw [← hW2]; exact d3
  replace d4 : W2.cell? ⟨b, 4, none⟩ = some (.slice (some ⟨g2, 0, none⟩) m2 k2) := by rw [← hW2]; exact d4
  replace d5 : W2.cell? ⟨b, 5, none⟩ = some (.slice (some ⟨g, 0, none⟩) 1 c) := by rw [← hW2]; exact d5
  replace dg : W2.cell? ⟨g, 0, none⟩ = some (.int .i64 s) := by rw [← hW2]; exact dg
  replace dx : W2.cell? ⟨g1, i, none⟩ = some (.int .i64 x) := by rw [← hW2]; exact dx
  replace dy : W2.cell? ⟨g2, i, none⟩ = some (.int .i64 y) := by rw [← hW2]; exact dy
  replace df : W2.frozen? ⟨g, 0, none⟩ = false := by rw [← hW2]; exact df
  replace x0 : W2.cell? ⟨w.heap.size, 0, none⟩ = some (.int .i64 k) := by rw [← hW2]; exact x0
  have HR2 := hide hR2
  clear hW2 hR2 HR1 HB d0
  go_upto_region 11 with fail
  go_quiet (fail)
  generalize hW3 : World.drewN W2 _ = W3
  have HB3 := hide (show Below w.heap.size w W3 by rw [← hW3]; exact Below.drewN HB2.out _)
  have hR3 : Row W3 (w.heap.size + 1) 94 [.int .i64 0, .int .i64 0] := by rw [← hW3]; exact HR2.out
  replace d3 : W3.cell? ⟨b, 3, none⟩ = some (.slice (some ⟨g1, 0, none⟩) m1 k1) := by rw [← hW3]; exact d3
  replace d4 : W3.cell? ⟨b, 4, none⟩ = some (.slice (some ⟨g2, 0, none⟩) m2 k2) := by rw [← hW3]; exact d4
  replace d5 : W3.cell? ⟨b, 5, none⟩ = some (.slice (some ⟨g, 0, none⟩) 1 c) := by rw [← hW3]; exact d5
  replace dg : W3.cell? ⟨g, 0, none⟩ = some (.int .i64 s) := by rw [← hW3]; exact dg
  replace dx : W3.cell? ⟨g1, i, none⟩ = some (.int .i64 x) := by rw [← hW3]; exact dx
  replace dy : W3.cell? ⟨g2, i, none⟩ = some (.int .i64 y) := by rw [← hW3]; exact dy
  replace df : W3.frozen? ⟨g, 0, none⟩ = false := by rw [← hW3]; exact df
  have HR3 := hide hR3
  clear hW3 hR3 HR2 HB2 d2 x0
  go_upto_region 12 with fail
  go_region
  have HS := hide (And.intro (show (W3.setCell ⟨g, 0, none⟩ (.int .i64 x)).drew.heap[g]? = (w.setCell ⟨g, 0, none⟩ (.int .i64 x)).heap[g]? from setCell_block (HB3.out.block g hgl) 0 _) (show Fr (fun k => k = g) w (W3.setCell ⟨g, 0, none⟩ (.int .i64 x)).drew from ((Fr.of_below (own := fun k => k = g) HB3.out).here (b := g) rfl 0 _).drew))
  have e4 : (W3.setCell ⟨g, 0, none⟩ (.int .i64 x)).drew.cell? ⟨b, 4, none⟩ = some (.slice (some ⟨g2, 0, none⟩) m2 k2) := cell_kept d4 (.inl (by simpa using hbg))
  have ey : (W3.setCell ⟨g, 0, none⟩ (.int .i64 x)).drew.cell? ⟨g2, i, none⟩ = some (.int .i64 y) := cell_kept dy (.inl (by simpa using n2))
  have hr4 : Row (W3.setCell ⟨g, 0, none⟩ (.int .i64 x)).drew (w.heap.size + 1) 94 [.int .i64 0, .int .i64 0] := HR3.out.setOther (show w.heap.size + 1 ≠ g by omega) _
  generalize (W3.setCell ⟨g, 0, none⟩ (.int .i64 x)).drew = W4 at *
  have y0 := hr4.cell_of (i := 0) rfl
  have y1 := hr4.cell_of (i := 1) rfl
  have z0 := hr4.frozen 0
  have z1 := hr4.frozen 1
  have HRo := hide (hr4.set 0 (.int .i64 1) |>.set 1 (.int .i64 y))
  clear hr4 HR3 d3 d4 d5 dg dx dy df
  go_wp2_with fail
  have q1 := HRo.out.cell_of (i := 0) rfl
  have q2 := HRo.out.cell_of (i := 1) rfl
  refine bodyPost_ret (v := .agg #[.int .i64 1, .int .i64 y]) (by simp [results, Tryz.results114, go_sem, q1, q2]) rfl ⟨rfl, ?_, ?_⟩
  · unfold SameBlk
    rw [Below.heap_setCell _ _ _ g (show g ≠ w.heap.size + 1 by omega), Below.heap_setCell _ _ _ g (show g ≠ w.heap.size + 1 by omega)]
    exact HS.out.1
  · refine HS.out.2.grow (own' := fun k => k = w.heap.size + 1) (((Fr.refl (fun k => k = w.heap.size + 1) _).here (b := w.heap.size + 1) rfl _ _).here (b := w.heap.size + 1) rfl _ _) (fun k hk => .inr (by omega))
end
theorem tableDoc (L : DL) (hk : L.kind = 5) (ht : tableOk L.st L.co L.nx L.ou = true) (g1 g2 : Nat) (hn : L.vn = .slice (some ⟨g1, 0, none⟩) L.nx.length L.nx.length) (ho : L.vo = .slice (some ⟨g2, 0, none⟩) L.ou.length L.ou.length) :
    DOk L (tableP L.co L.nx L.ou) (fun s => [s]) (fun _ => 0) (fun w v s => w.ownsRow 0 3 1 v 1 (ints [s]) ∧ 0 ≤ s ∧ s < L.st) (AuL L) where
  stay w w' v s h hb := ⟨owns_block h.1 hb, h.2⟩
  lt w v s h k e := (h.1.lt k e).2
  form w v s h := by
    obtain ⟨⟨a, c, e⟩, -⟩ := owns_form h.1
    exact ⟨a, _, c, e⟩
  au := AuL.au
  sz0 := Nat.zero_le _
  szs _ _ := Nat.zero_le _
  first w := by
    rw [hk, hn, ho]
    refine (start_num 5 (L.n : Int) (L.cap : Int) L.st L.co _ _ _ _ _ _ w (.inr rfl)).mono ?_
    rintro e w' ⟨g, rfl, hg, hr, hb⟩
    refine ⟨.slice (some ⟨g, 0, none⟩) 1 1, ?_, ⟨⟨rfl, .inr ⟨g, 1, #[.int .i64 0], rfl, Nat.zero_le _, hr, Nat.le_refl _, by decide, rfl, rfl⟩⟩, Int.le_refl _, table_pos ht⟩, ?_, hb⟩
    · unfold plc; rw [hk, hn, ho]
    · intro k e
      have : g = k := by simpa [Value.ownBlock] using e
      omega
  does B w b vh s op hAu hb hR hM hne _ := by
    obtain ⟨hM, hs0, hs1⟩ := hM
    rcases hM.2 with ⟨-, e⟩ | ⟨g, cap, cur, rfl, h3, h4, h5, h6, h7, h8⟩
    · cases e
    · obtain ⟨g', c', e', hc⟩ := owns_at hM (i := 0) (u := .int .i64 s) rfl
      have eg : g = g' := by injection e' with q; injection q with q; injection q
      subst eg
      obtain ⟨f1, f2, v1, v2, r1, r2, lt1, lt2⟩ := hAu hk
      have hgl : g < w.heap.size := World.block_lt_of_cell? w _ hc
      have hgB := hne g rfl
      have hgb : g ≠ b := hgB.2
      have hR' := hR
      unfold plc at hR
      rw [hk, v1, v2] at hR
      have hf : w.frozen? ⟨g, 0, none⟩ = false := by simp [World.frozen?, h4]
      have fin : ∀ (w' wG : World) (s' : Int), SameBlk wG w' g → Fr (fun k => k = g) w w' → wG.ownsRow 0 3 1 (.slice (some ⟨g, 0, none⟩) 1 cap) 1 (ints [s']) → 0 ≤ s' ∧ s' < L.st → ∃ vh', Row w' b 159 (plc L vh') ∧ (w'.ownsRow 0 3 1 vh' 1 (ints [s']) ∧ 0 ≤ s' ∧ s' < L.st) ∧ (∀ k, vh'.ownBlock = some k → k ≠ b ∧ ((Value.slice (some ⟨g, 0, none⟩) 1 cap).ownBlock = some k ∨ w.heap.size ≤ k)) ∧ Fr (fun k => k = b ∨ (Value.slice (some ⟨g, 0, none⟩) 1 cap).ownBlock = some k) w w' := fun w' wG s' h1 h2 h3 hs => by
        refine ⟨.slice (some ⟨g, 0, none⟩) 1 cap, ?_, ⟨owns_block h3 fun k e => ?_, hs⟩, fun k e => ?_, ⟨h2.os, h2.tape, h2.output, h2.size, fun k hk hn => h2.block k hk fun c => hn (.inr (by rw [c]; rfl))⟩⟩
        · exact hR'.of_block (h2.block b hR.lt (fun c => hgb c.symm))
        · have : g = k := by simpa [Value.ownBlock] using e
          subst this
          exact h1
        · have : g = k := by simpa [Value.ownBlock] using e
          subst this
          exact ⟨hgb, .inl rfl⟩
      by_cases kc : 0 ≤ op.c ∧ op.c < L.co
      · obtain ⟨i, hi, l1, l2, l3, p0, p1, n0, n1⟩ := table_at ht hs0 hs1 kc.1 kc.2
        have e : (tableP L.co L.nx L.ou).apply s op = (L.nx.getD i 0, ⟨1, L.ou.getD i 0⟩) := by
          show (if _ then _ else _) = _
          rw [if_pos kc, ← hi]
          rfl
        rw [e]
        refine (docTable_go L.st L.co s op.a op.b b g cap w op.c (L.nx.getD i 0) (L.ou.getD i 0) f1 f2 _ _ _ _ i kc.1 kc.2 hi p0 p1 l3 l1 l2 (r1.cell_of (by rw [ints, List.getElem?_map, getD_get l1]; rfl)) (r2.cell_of (by rw [ints, List.getElem?_map, getD_get l2]; rfl)) (by omega) (fun c => hgb c.symm) hR hc hf).mono ?_
        rintro e' w' ⟨rfl, q1, q2⟩
        exact ⟨rfl, fin w' _ _ q1 q2 (owns_put hM _) ⟨n0, n1⟩⟩
      · have e : (tableP L.co L.nx L.ou).apply s op = (s, ⟨4, 0⟩) := by
          show (if _ then _ else _) = _
          rw [if_neg kc]
        rw [e]
        refine (docTable_bad L.st L.co op.a op.b b g cap w _ _ op.c kc hR).mono ?_
        rintro e' w' ⟨rfl, q⟩
        exact ⟨rfl, fin w' w s (q.block g hgl) (Fr.of_below q) hM ⟨hs0, hs1⟩⟩
  tells w b vh s hR hM _ := by
    obtain ⟨g, c, rfl, hc⟩ := owns_at hM.1 (i := 0) (u := .int .i64 s) rfl
    unfold plc at hR
    exact docTells_num L.st L.co s L.vn L.vo b g c w L.kind (.inr hk) hR hc
end Go.Proofs.YtefjhnhdagolhaaGreat
