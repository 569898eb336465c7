import Derived.Test.YtefjhnhdagolhaaGreatQ00
import Derived.Deep.DeepCutAuto
import Derived.Test.YtefjhnhdagolhaaGreatProg
import Derived.Laws.LoneSync
namespace Go.Proofs.YtefjhnhdagolhaaGreat
open Go.RowKit
set_option maxHeartbeats 800000 in
theorem clone_any (xs : List Int) (v : Value) (w : World) (hv : Sl w v (ints xs)) (hn : xs.length ≤ 1048576) (hp : 0 < xs.length) :
    Calls Tryz.prog 108 #[v] w fun e w' => ∃ g cap, e = .returned (.slice (some ⟨g, 0, none⟩) xs.length cap) ∧ w'.ownsRow w.heap.size 3 1 (.slice (some ⟨g, 0, none⟩) xs.length cap) xs.length (ints xs) ∧ Below w.heap.size w w' := by
  obtain ⟨a, ca, rfl, h1, h2, h3⟩ := hv.open_ints
  obtain ⟨g, off, rfl, -⟩ := h3 0 hp
  have hnil := fun w => Lib.run_eql_slice_nil (P := Tryz.prog) w 22 3 (some ⟨g, off, none⟩) xs.length ca 0 0 Tryz.underlying22
  obtain ⟨ti, hti, htz⟩ := Option.map_eq_some_iff.1 info_int
  simp only [Prod.mk.injEq] at htz
  obtain ⟨htz1, htz2, htz3⟩ := htz
  have HTI := hide hti
  have HT1 := hide htz1
  have HT2 := hide htz2
  have HT3 := hide htz3
  clear hti htz1 htz2 htz3
  have H3 := hide h3
  clear h3 hv
  go_enter Tryz.func108, Tryz.ntmps108
  go_wp2_with (at_builtin; refine wpList_append_lies _ rfl (.tmp 5) (.tmp 6) 22 rfl w.heap.size 3 ti (.int .i64 0) 1 8 Tryz.underlying22 HTI.out HT1.out HT2.out HT3.out rfl (by decide) (.slice (some ⟨w.heap.size, 0, none⟩) 0 0) 0 [] rfl ?_ ⟨g, off, none⟩ xs.length ca (ints xs) rfl ?_ ?_ (one_ints xs) hp ?_ ?_ ?_ (w.heap.size + 1) (by simp) ?_)
  · exact ⟨rfl, .inr ⟨w.heap.size, 0, #[], rfl, Nat.le_refl _, heap_alloc_new w _, Nat.le_refl _, Nat.zero_le _, rfl, rfl⟩⟩
  · rw [length_ints, Nat.mul_one]
  · intro j u hu
    have hj : j < xs.length := by rw [← length_ints]; exact (List.getElem?_eq_some_iff.1 hu).1
    obtain ⟨g', off', he, hc⟩ := (unhide H3) j hj
    cases he
    rw [getElem?_ints, List.getElem?_eq_getElem hj] at hu
    cases hu
    rw [addr_add]
    exact cell_new hc _
  · unfold maxLen; omega
  · omega
  · simp
  · intro g1 cap1 w1 hown hgr hat hlt1
    have HO := hide hown
    have hb1 : Below w.heap.size w w1 := (below_alloc w _).grown hgr (by simp) (fun k hk => by simp [Value.ownBlock] at hk; omega)
    clear hown hgr hat
    go_wp2
    go_ret
    exact ⟨g1, cap1, rfl, HO.out, hb1⟩
end Go.Proofs.YtefjhnhdagolhaaGreat
namespace Go.Proofs.YtefjhnhdagolhaaGreat
open Go.RowKit
def rep (zs : List Value) (m : Nat) : List Value := (List.range m).map fun i => zs.getD (i % zs.length) undef
theorem madeCells_rep (zs : List Value) (m : Nat) (h : 0 < zs.length) : madeCells zs.toArray m = (rep zs m).toArray := by
  apply Array.ext
  · simp [madeCells, rep]
  · intro i h1 h2
    have hlt : i % zs.length < zs.length := Nat.mod_lt _ h
    simp [madeCells, rep, hlt]
theorem rep_one (z : Value) (m : Nat) : rep [z] m = zeros z m := by
  apply List.ext_getElem
  · simp [rep, zeros]
  · intro i h1 h2
    simp [rep, zeros, Nat.mod_one]
theorem rep_three (z : Value) (m : Nat) : rep [z, z, z] m = zeros z m := by
  apply List.ext_getElem
  · simp [rep, zeros]
  · intro i h1 h2
    have : i % 3 = 0 ∨ i % 3 = 1 ∨ i % 3 = 2 := by omega
    rcases this with h | h | h <;> simp [rep, zeros, h]
theorem run_make_rep {P : Program} (t e : TypeId) (z : Value) (size bytes : Nat) (zs : List Value) (ht : P.underlying t = some (.slice e)) (hinfo : (P.info? e).map (fun i => (i.zero, i.size, i.bytes)) = some (some z, size, bytes)) (hz1 : z.cells = zs.toArray)
    (hs : 0 < zs.length) (k : Int) (n : Nat) (hk : k = n) (hbytes : bytes * n ≤ 281474976710656) (h63 : n ≤ 9223372036854775807) (w : World) :
    (Instr.makeSlice t (.int .i64 k) (.int .i64 k)).run P w = .ok (.slice (some ⟨w.heap.size, 0, none⟩) n n) (w.alloc (.cells (rep zs (n * size)).toArray e)) := by
  subst hk
  obtain ⟨i, hi, hzz⟩ := Option.map_eq_some_iff.1 hinfo
  simp only [Prod.mk.injEq] at hzz
  obtain ⟨hz, hsz, hb⟩ := hzz
  have hb' : (i.bytes : Int) * (n : Int) ≤ 281474976710656 := by
    have h : ((i.bytes * n : Nat) : Int) ≤ 281474976710656 := by rw [hb]; omega
    rwa [Int.natCast_mul] at h
  rw [run_make (P := P) w t e i z ht hi hz .i64 .i64 n n (by omega) (Int.le_refl _) hb' (by omega), Int.toNat_natCast, hsz, hz1, madeCells_rep zs _ hs]
def poolAt (m rw k : Nat) (bW : Nat → Nat) : List Value :=
  (List.range (2 * m)).map fun i => if i % 2 = 0 then (if i / 2 < k then .slice (some ⟨bW (i / 2), 0, none⟩) rw rw else .slice none 0 0) else .pointer none
theorem length_poolAt (m rw k : Nat) (bW : Nat → Nat) : (poolAt m rw k bW).length = 2 * m := by simp [poolAt]
theorem poolAt_zero (m rw : Nat) (bW : Nat → Nat) : rep [.slice none 0 0, .pointer none] (m * 2) = poolAt m rw 0 bW := by
  rw [Nat.mul_comm]
  apply List.ext_getElem
  · simp [rep, poolAt]
  · intro i h1 h2
    have : i % 2 = 0 ∨ i % 2 = 1 := by omega
    rcases this with h | h <;> simp [rep, poolAt, h]
theorem poolAt_set (m rw k g : Nat) (bW : Nat → Nat) : (poolAt m rw k bW).set (2 * k) (.slice (some ⟨g, 0, none⟩) rw rw) = poolAt m rw (k + 1) (fun r => if r = k then g else bW r) := by
  apply List.ext_getElem
  · simp [poolAt]
  · intro i h1 h2
    rw [List.getElem_set]
    by_cases hi : 2 * k = i
    · subst hi
      have h0 : 2 * k % 2 = 0 := by omega
      have h4 : 2 * k / 2 = k := by omega
      simp [poolAt, h0, h4]
    · rw [if_neg hi]
      have : i % 2 = 0 ∨ i % 2 = 1 := by omega
      rcases this with h | h
      · have hne : ¬ i / 2 = k := by omega
        simp only [poolAt, List.getElem_map, List.getElem_range, h, if_true, if_neg hne]
        by_cases h5 : i / 2 < k
        · rw [if_pos h5, if_pos (by omega)]
        · rw [if_neg h5, if_neg (by omega)]
      · simp [poolAt, h]
theorem poolAt_odd {m rw k : Nat} {bW : Nat → Nat} {j : Nat} (hj : j < m) : (poolAt m rw k bW)[2 * j + 1]? = some (.pointer none) := by
  have h0 : (2 * j + 1) % 2 = 1 := by omega
  rw [List.getElem?_eq_getElem (by rw [length_poolAt]; omega)]
  simp [poolAt, h0]
theorem Row.drew {w : World} {g : Nat} {t : TypeId} {xs : List Value} (h : Row w g t xs) : Row w.drew g t xs := h
theorem Below.undrew {B : Nat} {w w' : World} (h : Below B w.drew w') : Below B w w' := ⟨h.os, h.tape, h.output, h.size, h.block⟩
theorem wp_store_one {P : Program} {op : Oper} {a : Act} {w : World} {K : Act → World → Prop} {Q : Exit → Act → World → Prop} (ty : TypeId) (x y : Operand) (ho : op.op = .store ty x y)
    (b o : Nat) (v : Value) (hx : a.eval x = .pointer (some ⟨b, o, none⟩)) (hy : a.eval y = v) (hv : v.cells = #[v]) (h1 : v.oneCell' = true)
    (ht : w.there b o 1) (hi : (P.info? ty).map (·.size) = some 1) (h : K (a.put op.dst undef) (w.setCell ⟨b, o, none⟩ v)) : op.wp P a w K Q := by
  have hst := run_storeCells_cells (P := P) b o [v] 0 w (fun j hj => by simpa using (ht j (by simpa using hj)).1) (fun j hj => by simpa using (ht j (by simpa using hj)).2) (fun u hu => by rw [List.mem_singleton.1 hu]; exact h1)
  obtain ⟨i, hii, his⟩ := Option.map_eq_some_iff.1 hi
  unfold Oper.wp execOp
  simp [ho, hx, hy, Instr.storeAt, Instr.sureAddr, storeVar, hv, sizeOf, typeInfo, hii, his, hst, World.setCells]
  exact h
theorem there_set {w : World} {b o n : Nat} (h : w.there b o n) (a : Addr) (ha : a.spot = none) (v : Value) : (w.setCell a v).there b o n := by
  obtain ⟨ab, ao, sp⟩ := a
  cases ha
  exact World.there_setCells h ab ao [v]
theorem wp_of_run {P : Program} {op : Oper} {a : Act} {w w' : World} {K : Act → World → Prop} {Q : Exit → Act → World → Prop} {v : Value} (h : (execOp a.eval op).run P w = .ok (.value v) w') (hk : K (a.put op.dst v) w') : op.wp P a w K Q := by
  unfold Oper.wp; rw [h]; exact hk
theorem wp_load_one {P : Program} {op : Oper} {a : Act} {w : World} {K : Act → World → Prop} {Q : Exit → Act → World → Prop} (ty : TypeId) (x : Operand) (ho : op.op = .load ty x)
    (b o : Nat) (v : Value) (hx : a.eval x = .pointer (some ⟨b, o, none⟩)) (hagg : (isAgg ty).run P w = .ok false w) (hc : w.cell? ⟨b, o, none⟩ = some v) (h : K (a.put op.dst v) w) : op.wp P a w K Q := by
  unfold Oper.wp execOp
  simp [ho, hx, Instr.loadAt, Instr.sureAddr, loadVar, hagg, hc]
  exact h
end Go.Proofs.YtefjhnhdagolhaaGreat
namespace Go.Proofs.YtefjhnhdagolhaaGreat
open Go.RowKit
attribute [local go_sem ↓] Go.wp_at_zero Go.wp_at_succ
theorem owns_later {w w' : World} {base : Nat} {e : TypeId} {size : Nat} {v : Value} {n : Nat} {xs : List Value} (h : w.ownsRow base e size v n xs) (hb : Below w.heap.size w w') : w'.ownsRow base e size v n xs :=
  h.kept (row := none) ⟨hb.os, hb.tape, hb.output, hb.size, fun k hk _ => hb.block k hk⟩ (by cases v.ownBlock <;> simp)
theorem owns_base {w : World} {base base' : Nat} {e : TypeId} {size : Nat} {v : Value} {n : Nat} {xs : List Value} (h : w.ownsRow base e size v n xs) (hb : base' ≤ base) : w.ownsRow base' e size v n xs := by
  obtain ⟨h1, h2⟩ := h
  refine ⟨h1, ?_⟩
  rcases h2 with h2 | ⟨g, cap, cur, hv, hg, r⟩
  · exact .inl h2
  · exact .inr ⟨g, cap, cur, hv, Nat.le_trans hb hg, r⟩
set_option maxRecDepth 20000 in
set_option maxHeartbeats 2000000 in
theorem newTable_any (st co : Int) (nx ou : List Int) (vn vo : Value) (w : World) (hn : Sl w vn (ints nx)) (ho : Sl w vo (ints ou)) (n1 : nx.length ≤ 1048576) (n2 : 0 < nx.length) (n3 : ou.length ≤ 1048576) (n4 : 0 < ou.length) :
    Calls Tryz.prog 81 #[.agg #[.int .i64 st, .int .i64 co, vn, vo]] w fun e w' => ∃ g1 k1 g2 k2, e = .returned (.agg #[.int .i64 st, .int .i64 co, .slice (some ⟨g1, 0, none⟩) nx.length k1, .slice (some ⟨g2, 0, none⟩) ou.length k2]) ∧ w'.ownsRow w.heap.size 3 1 (.slice (some ⟨g1, 0, none⟩) nx.length k1) nx.length (ints nx) ∧ w'.ownsRow w.heap.size 3 1 (.slice (some ⟨g2, 0, none⟩) ou.length k2) ou.length (ints ou) ∧ Below w.heap.size w w' := by
  have hsz : (Tryz.prog.info? 22).map (·.size) = some 1 := by kernel_rfl
  have HN := hide hn
  have HO := hide ho
  obtain ⟨a1, c1, e1, -⟩ := hn.open_ints
  obtain ⟨a2, c2, e2, -⟩ := ho.open_ints
  clear hn ho
  subst e1
  subst e2
  go_enter Tryz.func81, Tryz.ntmps81
  go_wp2
  generalize hW0 : World.alloc (World.alloc w _) _ = W0
  have hb0 : Below w.heap.size w W0 := by rw [← hW0]; exact ((Below.refl _ _).alloc (Nat.le_refl _) _).alloc (by simp) _
  have hs0 : W0.heap.size = w.heap.size + 2 := by rw [← hW0]; simp
  have hN : Row W0 w.heap.size 24 [.int .i64 st, .int .i64 co, .slice a1 nx.length c1, .slice a2 ou.length c2] := by rw [← hW0]; exact (Row.new' rfl).alloc _
  have hR : Row W0 (w.heap.size + 1) 152 [.int .i64 0, .int .i64 0, .slice none 0 0, .slice none 0 0] := by rw [← hW0]; exact Row.new' (by simp)
  have HB0 := hide hb0
  have HRN := hide hN
  have HRR := hide hR
  have hth : W0.there w.heap.size 2 2 := hN.there (by simp)
  clear hW0 hb0 hN hR
  refine rg0 (S := (fun w' => w'.there w.heap.size 2 2)) 10 rfl (by kernel_rfl) ?_ (fun hHeld => ?_)
  · exact hth
  iterate 1 (refine tk 9 (by rfl) (by kernel_rfl) (by exact fun _ _ _ h => h) (.inl ⟨by rfl, fun w hS => by (try dsimp only at hS); go_simp; (try with_reducible rfl)⟩) (by assumption) ?_; try go_frame)
  iterate 1 (refine tk 11 (by rfl) (by kernel_rfl) (by exact fun _ _ _ h => h) (.inl ⟨by rfl, fun w hS => by (try dsimp only at hS); go_simp; (try with_reducible rfl)⟩) (by assumption) ?_; try go_frame)
  refine wpAnyH_ready (rs := [1, 4]) (by kernel_rfl) (by simp) (rc (by rfl) (fun K hK => ?_) (rc (by rfl) (fun K hK => ?_) AllReadyH.nil))
  · rw [if_pos (by rfl)]
    refine wp_load_one _ _ rfl _ _ (.slice a1 nx.length c1) rfl (by kernel_rfl) (by first | exact HRN.out.cell_of rfl | exact cell_later hb2 (HRN.out.cell_of rfl) | exact cell_later hb5 (HRN.out.cell_of rfl)) ?_
    refine hK.out _ _ ?_ (fun hHeld => ?_)
    · exact hHeld
    clear hK K
    (try go_frame)
    refine wpAnyH_ready (rs := [2, 4]) (by kernel_rfl) (by simp) (rc (by rfl) (fun K hK => ?_) (rc (by rfl) (fun K hK => ?_) AllReadyH.nil))
    · go_simp
      refine (clone_any nx _ _ (by first | exact HN.out.below HB0.out.drew | exact (HN.out.below HB0.out.drew).below hb5) n1 n2).mono ?_
      rintro e w2 ⟨g2, k2, rfl, ho2, hb2⟩
      have HO2 := hide ho2
      clear ho2
      go_wp2_with fail
      refine hK.out _ _ ?_ (fun hHeld => ?_)
      · exact there_later (by assumption) hHeld
      clear hK K
      (try go_frame)
      refine rd1 4 (by rfl) (by kernel_rfl) (fun K hK => ?_)
      rw [if_pos (by rfl)]
      refine wp_load_one _ _ rfl _ _ (.slice a2 ou.length c2) rfl (by kernel_rfl) (by first | exact HRN.out.cell_of rfl | exact cell_later hb2 (HRN.out.cell_of rfl) | exact cell_later hb5 (HRN.out.cell_of rfl)) ?_
      refine hK.out _ _ ?_ (fun hHeld => ?_)
      · exact hHeld
      clear hK K
      (try go_frame)
      iterate 1 (refine tk 10 (by rfl) (by kernel_rfl) (by exact fun _ _ _ h => h) (.inl ⟨by rfl, fun w hS => by (try dsimp only at hS); go_simp; (try with_reducible rfl)⟩) (by assumption) ?_; try go_frame)
      refine rd1 5 (by rfl) (by kernel_rfl) (fun K hK => ?_)
      go_simp
      refine (clone_any ou _ _ (by first | exact HO.out.below HB0.out.drew | exact (HO.out.below HB0.out.drew).below hb2) n3 n4).mono ?_
      rintro e w5 ⟨g5, k5, rfl, ho5, hb5⟩
      have HO5 := hide ho5
      clear ho5
      go_wp2_with fail
      refine hK.out _ _ ?_ (fun hHeld => ?_)
      · exact there_later (by assumption) hHeld
      clear hK K
      (try go_frame)
      refine rd1 7 (by rfl) (by kernel_rfl) (fun K hK => ?_)
      rw [if_pos (by rfl)]
      refine wp_store_one _ _ _ rfl w.heap.size 2 (.slice (some ⟨g2, 0, none⟩) nx.length k2) rfl rfl rfl rfl (fun j hj => hHeld j (by omega)) hsz ?_
      refine hK.out _ _ ?_ (fun hHeld => ?_)
      · exact there_set hHeld _ rfl _
      clear hK K
      (try go_frame)
      iterate 1 (refine tk 9 (by rfl) (by kernel_rfl) (by exact fun _ _ _ h => h) (.inl ⟨by rfl, fun w hS => by (try dsimp only at hS); go_simp; (try with_reducible rfl)⟩) (by assumption) ?_; try go_frame)
      refine rd1 9 (by rfl) (by kernel_rfl) (fun K hK => ?_)
      rw [if_pos (by rfl)]
      refine wp_store_one _ _ _ rfl w.heap.size 3 (.slice (some ⟨g5, 0, none⟩) ou.length k5) rfl rfl rfl rfl (fun j hj => by have := hHeld (j + 1) (by omega); rwa [show 2 + (j + 1) = 3 + j from by omega] at this) hsz ?_
      refine hK.out _ _ ?_ (fun hHeld => ?_)
      · exact there_set hHeld _ rfl _
      clear hK K
      (try go_frame)
      refine wpAnyH_done (by kernel_rfl) ?_ _
      have hB5 : Below W0.heap.size W0 w5 := Below.next (Below.undrew hb2) hb5 (Below.undrew hb2).size
      have q0 : w5.cell? ⟨w.heap.size, 0, none⟩ = some (.int .i64 st) := cell_later hB5 (HRN.out.cell_of rfl)
      have q1 : w5.cell? ⟨w.heap.size, 1, none⟩ = some (.int .i64 co) := cell_later hB5 (HRN.out.cell_of rfl)
      have q2 : w5.cell? ⟨w.heap.size, 2, none⟩ = some (.slice a1 nx.length c1) := cell_later hB5 (HRN.out.cell_of rfl)
      have q3 : w5.cell? ⟨w.heap.size, 3, none⟩ = some (.slice a2 ou.length c2) := cell_later hB5 (HRN.out.cell_of rfl)
      have r0 : w5.cell? ⟨w.heap.size + 1, 0, none⟩ = some (.int .i64 0) := cell_later hB5 (HRR.out.cell_of rfl)
      have r1 : w5.cell? ⟨w.heap.size + 1, 1, none⟩ = some (.int .i64 0) := cell_later hB5 (HRR.out.cell_of rfl)
      have r2 : w5.cell? ⟨w.heap.size + 1, 2, none⟩ = some (.slice none 0 0) := cell_later hB5 (HRR.out.cell_of rfl)
      have r3 : w5.cell? ⟨w.heap.size + 1, 3, none⟩ = some (.slice none 0 0) := cell_later hB5 (HRR.out.cell_of rfl)
      have rf := (HRR.out.old hB5).frozen
      have hz2 : W0.heap.size ≤ w2.heap.size := (Below.undrew hb2).size
      have o2 := hide (owns_later HO2.out hb5)
      have o5 := hide (owns_base HO5.out hz2)
      have HB5 := hide hB5
      clear hB5 hb2 hb5
      (try go_wp2_with fail)
      refine bodyPost_ret (v := .agg #[.int .i64 st, .int .i64 co, .slice (some ⟨g2, 0, none⟩) nx.length k2, .slice (some ⟨g5, 0, none⟩) ou.length k5]) (by simp [results, Tryz.results81, go_sem, r0, r1, r2, r3]) rfl ⟨g2, k2, g5, k5, rfl, ?_, ?_, ?_⟩
      · refine owns_base (base := W0.heap.size) ?_ (by omega)
        repeat (refine ownsRow_setCell_below ?_ (by simp; omega) _)
        exact o2.out
      · refine owns_base (base := W0.heap.size) ?_ (by omega)
        repeat (refine ownsRow_setCell_below ?_ (by simp; omega) _)
        exact o5.out
      · repeat (refine Below.setCell ?_ (by simp) _)
        exact Below.next HB0.out HB5.out HB0.out.size
    · rw [if_pos (by rfl)]
      refine wp_load_one _ _ rfl _ _ (.slice a2 ou.length c2) rfl (by kernel_rfl) (by first | exact HRN.out.cell_of rfl | exact cell_later hb2 (HRN.out.cell_of rfl) | exact cell_later hb5 (HRN.out.cell_of rfl)) ?_
      refine hK.out _ _ ?_ (fun hHeld => ?_)
      · exact hHeld
      clear hK K
      (try go_frame)
      refine rd1 2 (by rfl) (by kernel_rfl) (fun K hK => ?_)
      go_simp
      refine (clone_any nx _ _ (by first | exact HN.out.below HB0.out.drew | exact (HN.out.below HB0.out.drew).below hb5) n1 n2).mono ?_
      rintro e w2 ⟨g2, k2, rfl, ho2, hb2⟩
      have HO2 := hide ho2
      clear ho2
      go_wp2_with fail
      refine hK.out _ _ ?_ (fun hHeld => ?_)
      · exact there_later (by assumption) hHeld
      clear hK K
      (try go_frame)
      iterate 1 (refine tk 10 (by rfl) (by kernel_rfl) (by exact fun _ _ _ h => h) (.inl ⟨by rfl, fun w hS => by (try dsimp only at hS); go_simp; (try with_reducible rfl)⟩) (by assumption) ?_; try go_frame)
      refine rd1 5 (by rfl) (by kernel_rfl) (fun K hK => ?_)
      go_simp
      refine (clone_any ou _ _ (by first | exact HO.out.below HB0.out.drew | exact (HO.out.below HB0.out.drew).below hb2) n3 n4).mono ?_
      rintro e w5 ⟨g5, k5, rfl, ho5, hb5⟩
      have HO5 := hide ho5
      clear ho5
      go_wp2_with fail
      refine hK.out _ _ ?_ (fun hHeld => ?_)
      · exact there_later (by assumption) hHeld
      clear hK K
      (try go_frame)
      refine rd1 7 (by rfl) (by kernel_rfl) (fun K hK => ?_)
      rw [if_pos (by rfl)]
      refine wp_store_one _ _ _ rfl w.heap.size 2 (.slice (some ⟨g2, 0, none⟩) nx.length k2) rfl rfl rfl rfl (fun j hj => hHeld j (by omega)) hsz ?_
      refine hK.out _ _ ?_ (fun hHeld => ?_)
      · exact there_set hHeld _ rfl _
      clear hK K
      (try go_frame)
      iterate 1 (refine tk 9 (by rfl) (by kernel_rfl) (by exact fun _ _ _ h => h) (.inl ⟨by rfl, fun w hS => by (try dsimp only at hS); go_simp; (try with_reducible rfl)⟩) (by assumption) ?_; try go_frame)
      refine rd1 9 (by rfl) (by kernel_rfl) (fun K hK => ?_)
      rw [if_pos (by rfl)]
      refine wp_store_one _ _ _ rfl w.heap.size 3 (.slice (some ⟨g5, 0, none⟩) ou.length k5) rfl rfl rfl rfl (fun j hj => by have := hHeld (j + 1) (by omega); rwa [show 2 + (j + 1) = 3 + j from by omega] at this) hsz ?_
      refine hK.out _ _ ?_ (fun hHeld => ?_)
      · exact there_set hHeld _ rfl _
      clear hK K
      (try go_frame)
      refine wpAnyH_done (by kernel_rfl) ?_ _
      have hB5 : Below W0.heap.size W0 w5 := Below.next (Below.undrew hb2) hb5 (Below.undrew hb2).size
      have q0 : w5.cell? ⟨w.heap.size, 0, none⟩ = some (.int .i64 st) := cell_later hB5 (HRN.out.cell_of rfl)
      have q1 : w5.cell? ⟨w.heap.size, 1, none⟩ = some (.int .i64 co) := cell_later hB5 (HRN.out.cell_of rfl)
      have q2 : w5.cell? ⟨w.heap.size, 2, none⟩ = some (.slice a1 nx.length c1) := cell_later hB5 (HRN.out.cell_of rfl)
      have q3 : w5.cell? ⟨w.heap.size, 3, none⟩ = some (.slice a2 ou.length c2) := cell_later hB5 (HRN.out.cell_of rfl)
      have r0 : w5.cell? ⟨w.heap.size + 1, 0, none⟩ = some (.int .i64 0) := cell_later hB5 (HRR.out.cell_of rfl)
      have r1 : w5.cell? ⟨w.heap.size + 1, 1, none⟩ = some (.int .i64 0) := cell_later hB5 (HRR.out.cell_of rfl)
      have r2 : w5.cell? ⟨w.heap.size + 1, 2, none⟩ = some (.slice none 0 0) := cell_later hB5 (HRR.out.cell_of rfl)
      have r3 : w5.cell? ⟨w.heap.size + 1, 3, none⟩ = some (.slice none 0 0) := cell_later hB5 (HRR.out.cell_of rfl)
      have rf := (HRR.out.old hB5).frozen
      have hz2 : W0.heap.size ≤ w2.heap.size := (Below.undrew hb2).size
      have o2 := hide (owns_later HO2.out hb5)
      have o5 := hide (owns_base HO5.out hz2)
      have HB5 := hide hB5
      clear hB5 hb2 hb5
      (try go_wp2_with fail)
      refine bodyPost_ret (v := .agg #[.int .i64 st, .int .i64 co, .slice (some ⟨g2, 0, none⟩) nx.length k2, .slice (some ⟨g5, 0, none⟩) ou.length k5]) (by simp [results, Tryz.results81, go_sem, r0, r1, r2, r3]) rfl ⟨g2, k2, g5, k5, rfl, ?_, ?_, ?_⟩
      · refine owns_base (base := W0.heap.size) ?_ (by omega)
        repeat (refine ownsRow_setCell_below ?_ (by simp; omega) _)
        exact o2.out
      · refine owns_base (base := W0.heap.size) ?_ (by omega)
        repeat (refine ownsRow_setCell_below ?_ (by simp; omega) _)
        exact o5.out
      · repeat (refine Below.setCell ?_ (by simp) _)
        exact Below.next HB0.out HB5.out HB0.out.size
  · rw [if_pos (by rfl)]
    refine wp_load_one _ _ rfl _ _ (.slice a2 ou.length c2) rfl (by kernel_rfl) (by first | exact HRN.out.cell_of rfl | exact cell_later hb2 (HRN.out.cell_of rfl) | exact cell_later hb5 (HRN.out.cell_of rfl)) ?_
    refine hK.out _ _ ?_ (fun hHeld => ?_)
    · exact hHeld
    clear hK K
    (try go_frame)
    refine rd1 1 (by rfl) (by kernel_rfl) (fun K hK => ?_)
    rw [if_pos (by rfl)]
    refine wp_load_one _ _ rfl _ _ (.slice a1 nx.length c1) rfl (by kernel_rfl) (by first | exact HRN.out.cell_of rfl | exact cell_later hb2 (HRN.out.cell_of rfl) | exact cell_later hb5 (HRN.out.cell_of rfl)) ?_
    refine hK.out _ _ ?_ (fun hHeld => ?_)
    · exact hHeld
    clear hK K
    (try go_frame)
    refine rd1 2 (by rfl) (by kernel_rfl) (fun K hK => ?_)
    go_simp
    refine (clone_any nx _ _ (by first | exact HN.out.below HB0.out.drew | exact (HN.out.below HB0.out.drew).below hb5) n1 n2).mono ?_
    rintro e w2 ⟨g2, k2, rfl, ho2, hb2⟩
    have HO2 := hide ho2
    clear ho2
    go_wp2_with fail
    refine hK.out _ _ ?_ (fun hHeld => ?_)
    · exact there_later (by assumption) hHeld
    clear hK K
    (try go_frame)
    iterate 1 (refine tk 10 (by rfl) (by kernel_rfl) (by exact fun _ _ _ h => h) (.inl ⟨by rfl, fun w hS => by (try dsimp only at hS); go_simp; (try with_reducible rfl)⟩) (by assumption) ?_; try go_frame)
    refine rd1 5 (by rfl) (by kernel_rfl) (fun K hK => ?_)
    go_simp
    refine (clone_any ou _ _ (by first | exact HO.out.below HB0.out.drew | exact (HO.out.below HB0.out.drew).below hb2) n3 n4).mono ?_
    rintro e w5 ⟨g5, k5, rfl, ho5, hb5⟩
    have HO5 := hide ho5
    clear ho5
    go_wp2_with fail
    refine hK.out _ _ ?_ (fun hHeld => ?_)
    · exact there_later (by assumption) hHeld
    clear hK K
    (try go_frame)
    refine rd1 7 (by rfl) (by kernel_rfl) (fun K hK => ?_)
    rw [if_pos (by rfl)]
    refine wp_store_one _ _ _ rfl w.heap.size 2 (.slice (some ⟨g2, 0, none⟩) nx.length k2) rfl rfl rfl rfl (fun j hj => hHeld j (by omega)) hsz ?_
    refine hK.out _ _ ?_ (fun hHeld => ?_)
    · exact there_set hHeld _ rfl _
    clear hK K
    (try go_frame)
    iterate 1 (refine tk 9 (by rfl) (by kernel_rfl) (by exact fun _ _ _ h => h) (.inl ⟨by rfl, fun w hS => by (try dsimp only at hS); go_simp; (try with_reducible rfl)⟩) (by assumption) ?_; try go_frame)
    refine rd1 9 (by rfl) (by kernel_rfl) (fun K hK => ?_)
    rw [if_pos (by rfl)]
    refine wp_store_one _ _ _ rfl w.heap.size 3 (.slice (some ⟨g5, 0, none⟩) ou.length k5) rfl rfl rfl rfl (fun j hj => by have := hHeld (j + 1) (by omega); rwa [show 2 + (j + 1) = 3 + j from by omega] at this) hsz ?_
    refine hK.out _ _ ?_ (fun hHeld => ?_)
    · exact there_set hHeld _ rfl _
    clear hK K
    (try go_frame)
    refine wpAnyH_done (by kernel_rfl) ?_ _
    have hB5 : Below W0.heap.size W0 w5 := Below.next (Below.undrew hb2) hb5 (Below.undrew hb2).size
    have q0 : w5.cell? ⟨w.heap.size, 0, none⟩ = some (.int .i64 st) := cell_later hB5 (HRN.out.cell_of rfl)
    have q1 : w5.cell? ⟨w.heap.size, 1, none⟩ = some (.int .i64 co) := cell_later hB5 (HRN.out.cell_of rfl)
    have q2 : w5.cell? ⟨w.heap.size, 2, none⟩ = some (.slice a1 nx.length c1) := cell_later hB5 (HRN.out.cell_of rfl)
    have q3 : w5.cell? ⟨w.heap.size, 3, none⟩ = some (.slice a2 ou.length c2) := cell_later hB5 (HRN.out.cell_of rfl)
    have r0 : w5.cell? ⟨w.heap.size + 1, 0, none⟩ = some (.int .i64 0) := cell_later hB5 (HRR.out.cell_of rfl)
    have r1 : w5.cell? ⟨w.heap.size + 1, 1, none⟩ = some (.int .i64 0) := cell_later hB5 (HRR.out.cell_of rfl)
    have r2 : w5.cell? ⟨w.heap.size + 1, 2, none⟩ = some (.slice none 0 0) := cell_later hB5 (HRR.out.cell_of rfl)
    have r3 : w5.cell? ⟨w.heap.size + 1, 3, none⟩ = some (.slice none 0 0) := cell_later hB5 (HRR.out.cell_of rfl)
    have rf := (HRR.out.old hB5).frozen
    have hz2 : W0.heap.size ≤ w2.heap.size := (Below.undrew hb2).size
    have o2 := hide (owns_later HO2.out hb5)
    have o5 := hide (owns_base HO5.out hz2)
    have HB5 := hide hB5
    clear hB5 hb2 hb5
    (try go_wp2_with fail)
    refine bodyPost_ret (v := .agg #[.int .i64 st, .int .i64 co, .slice (some ⟨g2, 0, none⟩) nx.length k2, .slice (some ⟨g5, 0, none⟩) ou.length k5]) (by simp [results, Tryz.results81, go_sem, r0, r1, r2, r3]) rfl ⟨g2, k2, g5, k5, rfl, ?_, ?_, ?_⟩
    · refine owns_base (base := W0.heap.size) ?_ (by omega)
      repeat (refine ownsRow_setCell_below ?_ (by simp; omega) _)
      exact o2.out
    · refine owns_base (base := W0.heap.size) ?_ (by omega)
      repeat (refine ownsRow_setCell_below ?_ (by simp; omega) _)
      exact o5.out
    · repeat (refine Below.setCell ?_ (by simp) _)
      exact Below.next HB0.out HB5.out HB0.out.size
end Go.Proofs.YtefjhnhdagolhaaGreat
namespace Go.Proofs.YtefjhnhdagolhaaGreat
open Go.RowKit
attribute [local go_sem ↓] Go.wp_at_zero Go.wp_at_succ
set_option maxHeartbeats 400000 in
theorem toggleWords_any (n : Int) (w : World) (h0 : 1 ≤ n) (h1 : n ≤ 64) :
    Calls Tryz.prog 156 #[.agg #[.int .i64 n]] w fun e w' => e = .returned (.int .i64 ((n + 15) / 16)) ∧ Below w.heap.size w w' := by
  go_enter Tryz.func156, Tryz.ntmps156
  go_wp2
  go_ret
  exact ⟨ret_int (by show (n + 16 - 1) / 16 = _; rw [show n + 16 - 1 = n + 15 by omega]), (by repeat (first | exact Below.refl _ _ | assumption | refine Below.drewN ?_ _ | refine Below.alloc ?_ (by simp) _))⟩
set_option maxHeartbeats 800000 in
theorem recordWords_any (n : Int) (w : World) (h0 : 1 ≤ n) (h1 : n ≤ 64) :
    Calls Tryz.prog 157 #[.agg #[.int .i64 n]] w fun e w' => e = .returned (.int .i64 ((n + 15) / 16 + 2 * n)) ∧ Below w.heap.size w w' := by
  go_enter Tryz.func157, Tryz.ntmps157
  go_wp2
  go_region_with (first | (go_at_call 156; refine (toggleWords_any n _ h0 h1).mono ?_; rintro e w' ⟨rfl, hb⟩; obtain ⟨hc, hf⟩ := bcell hb; have hz := hb.size; simp at hz))
  all_goals go_wp2
  all_goals go_ret
  all_goals exact ⟨ret_int (by show IntKind.i64.wrap ((n + 15) / 16 + IntKind.i64.wrap (2 * n)) = _; rw [wrapi (2 * n) (by omega) (by omega), wrapi _ (by omega) (by omega)]), (by repeat (first | exact Below.refl _ _ | refine Below.drewN ?_ _ | refine Below.drew ?_ | refine Below.alloc ?_ (by first | (simp; done) | (simp; omega)) _ | refine Below.next ?_ (by assumption) (by first | (simp; done) | (simp; omega))))⟩
end Go.Proofs.YtefjhnhdagolhaaGreat
namespace Go.Proofs.YtefjhnhdagolhaaGreat
open Go.RowKit
section
variable {P : Program} {f : FuncId} {fn : Func}
theorem run_call_storeP (hf : P.funcs[f]? = some fn) (hname : (fn.name == "runtime.NumGoroutine") = false) (hb : fn.body.isNone = true) (hn : Extern.findNext fn = none)
    (he : Extern.find fn = some Extern.Atomic.storeT) {a : Addr} {y : Option Addr} {u : Value} {w : World} (hc : w.cell? a = some u) (hz : w.frozen? a = false) :
    (callFunc f #[.pointer (some a), .pointer y]).run P w = .ok (.value (.tuple #[])) (w.setCell a (.pointer y)) := by
  rw [run_callFunc_extern hf hname hb hn he]
  change (Sem.run P (do
    store (← asAddr (.pointer (some a))) (.pointer y) .atomic
    pure Extern.Atomic.none_) w).andThen _ = _
  simp [asAddr, hc, hz, run_store P w a (.pointer y) .atomic rfl, Result.andThen, Extern.Atomic.none_]
theorem run_call_loadP (hf : P.funcs[f]? = some fn) (hname : (fn.name == "runtime.NumGoroutine") = false) (hb : fn.body.isNone = true) (hn : Extern.findNext fn = none)
    (he : Extern.find fn = some (Extern.Atomic.loadT .ptr)) {a : Addr} {x : Option Addr} {w : World} (hc : w.cell? a = some (.pointer x)) :
    (callFunc f #[.pointer (some a)]).run P w = .ok (.value (.pointer x)) w := by
  rw [run_callFunc_extern hf hname hb hn he]
  change (Sem.run P (do Extern.Atomic.read .ptr (← asAddr (.pointer (some a)))) w).andThen _ = _
  simp [Extern.Atomic.read, asAddr, hc, Result.andThen]
end
section
variable {P : Program}
theorem run_from_unsafe {src dst u : TypeId} (hs : P.underlying src = some .unsafePointer) (hd : P.underlying dst = some (.pointer u)) {b : Nat} {e : TypeId} {xs : List Value} {w : World}
    (hb : Row w b e xs) (hu : (P.info? u).map (fun i => decide (i.size = 0)) = some false) (hlies : liesAt P P.depth e (xs.length / P.cellsOf e) 0 u 1 = true) :
    (convert src dst (.pointer (some ⟨b, 0, none⟩))).run P w = .ok (.pointer (some ⟨b, 0, none⟩)) w := by
  have hsh : w.shape? b = some (e, xs.length) := by
    have h' : w.heap[b]? = some (.cells xs.toArray e (0, 0)) := hb
    simp [World.shape?, h']
  obtain ⟨i, hi, hz0⟩ := Option.map_eq_some_iff.1 hu
  have hz : i.size ≠ 0 := by simpa using hz0
  simp [convert, run_underlying hs, run_underlying hd, Conv.unsafePointer, Conv.seenAt, viewAt, hsh, variablesAt, hlies, sizeOf, typeInfo, hi, hz]
end
end Go.Proofs.YtefjhnhdagolhaaGreat
