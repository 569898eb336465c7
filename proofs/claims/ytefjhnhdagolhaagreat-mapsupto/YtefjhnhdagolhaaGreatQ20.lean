import Derived.Test.YtefjhnhdagolhaaGreatQ19
namespace Go.Proofs.YtefjhnhdagolhaaGreat
open Go.RowKit
open M (upd upd_same upd_other RSt RTh cnt)
attribute [local go_sem ↓] Go.wp_at_zero Go.wp_at_succ
theorem updd {α : Type} (f : Nat → α) (t : Nat) (a b : α) : upd (upd f t a) t b = upd f t b := by funext k; unfold upd; split <;> rfl
theorem info_s22 : (Tryz.prog.info? 22).map (fun i => (i.zero, i.size, i.bytes)) = some (some (.slice none 0 0), 1, 24) := by kernel_rfl
section
variable {L : DL} {S : Nat → Prop} {Y : RSt} {w : World} {lab : Nat → Nat} {vo vp : Nat → Value} {vb : Value} {bv : Nat → Value} {t : Nat}
theorem DR.pub (h : DR L S Y w lab vo vp vb bv) (ht : t < L.n) {w2 w4 : World} (hb : Below w.heap.size w w2) (hgr : w2.grownBy w4 vb.ownBlock) {g c : Nat} (hg : vb.ownBlock = some g ∨ g = w2.heap.size)
    (hown : w4.ownsRow 0 22 1 (.slice (some ⟨g, 0, none⟩) (Y.bs.length + 1) c) (Y.bs.length + 1) ((List.range Y.bs.length).map bv ++ [vp t])) (hg4 : g < w4.heap.size) {x' : RTh} {w5 : World}
    (h5 : w5 = ((w4.setCell ⟨L.b, 8, none⟩ (.slice (some ⟨g, 0, none⟩) (Y.bs.length + 1) c)).setCell ⟨L.bT t, 9, none⟩ (.slice none 0 0)).setCell ⟨L.bT t, 5, none⟩ (.int .i64 (x'.backoff : Int)))
    (hx : x' = { Y.th t with pend := [], backoff := x'.backoff }) : DLeft L S w ⟨upd Y.th t x', Y.bs ++ [(Y.th t).pend]⟩ w5 := by
  have qb := h.obL
  have qt := h.thL t ht
  have hz := hb.size
  have hlb := h.lt _ qb.1
  have hlt := h.lt _ qt.1
  have hvb : ∀ k, vb.ownBlock = some k → k < w.heap.size := fun k e => h.lt k (h.baL k e).1
  have hne := h.ne ht
  -- blocks that were not touched
  have old : ∀ k, k < w.heap.size → k ≠ L.b → k ≠ L.bT t → vb.ownBlock ≠ some k → w5.heap[k]? = w.heap[k]? := fun k hk h1 h2 h3 => by
    rw [h5, Below.heap_setCell _ _ _ k h2, Below.heap_setCell _ _ _ k h2, Below.heap_setCell _ _ _ k h1, hgr.block k (by omega) (fun e => h3 e.symm)]
    exact hb.block k hk
  have keep : ∀ k, S k → lab k ≠ 0 → lab k ≠ 2 → lab k ≠ 4 * t + 4 → w5.heap[k]? = w.heap[k]? := fun k hS h0 h2 h4 => old k (h.lt k hS) (fun e => h0 (by rw [e]; exact qb.2)) (fun e => h4 (by rw [e]; exact qt.2)) (fun e => h2 (h.baL k e).2)
  have r4b : Row w4 L.b 105 (dob L vb) := h.obj.of_block ((hgr.block _ (by omega) (fun e => by have := (h.baL _ e.symm).2; rw [qb.2] at this; omega)).trans (hb.block _ hlb))
  have r4t : Row w4 (L.bT t) 109 (dth (Y.th t) (L.bF t) L.n (vo t) (vp t)) := (h.th t ht).of_block ((hgr.block _ (by omega) (fun e => by have := (h.baL _ e.symm).2; rw [qt.2] at this; omega)).trans (hb.block _ hlt))
  have r5b : Row w5 L.b 105 (dob L (.slice (some ⟨g, 0, none⟩) (Y.bs.length + 1) c)) := by
    rw [h5]
    exact ((r4b.set 8 _).setOther (by simpa using hne) _).setOther (by simpa using hne) _
  have r5t : Row w5 (L.bT t) 109 (dth x' (L.bF t) L.n (vo t) (.slice none 0 0)) := by
    rw [h5]
    have := ((r4t.setOther (a := ⟨L.b, 8, none⟩) (by simpa using hne.symm) (.slice (some ⟨g, 0, none⟩) (Y.bs.length + 1) c)).set 9 (.slice none 0 0)).set 5 (.int .i64 (x'.backoff : Int))
    rw [hx]
    exact this
  have hgb : g ≠ L.b ∧ g ≠ L.bT t := by
    rcases hg with e | e
    · have := (h.baL g e).2
      exact ⟨fun q => by rw [q, qb.2] at this; omega, fun q => by rw [q, qt.2] at this; omega⟩
    · exact ⟨by omega, by omega⟩
  have hown5 : w5.ownsRow 0 22 1 (.slice (some ⟨g, 0, none⟩) (Y.bs.length + 1) c) (Y.bs.length + 1) ((List.range Y.bs.length).map bv ++ [vp t]) := by
    rw [h5]
    refine owns_block hown fun k e => ?_
    have e : g = k := by simpa [Value.ownBlock] using e
    subst e
    rw [Below.heap_setCell _ _ _ g hgb.2, Below.heap_setCell _ _ _ g hgb.2, Below.heap_setCell _ _ _ g hgb.1]
  have hz5 : w5.heap.size = w4.heap.size := by rw [h5]; simp [World.setCell]
  have hS : ∀ k, S k → Grow S w w5 k ∧ lab3 lab w 2 k = lab k := fun k hS => ⟨.inl hS, lab3_old (h.lt k hS)⟩
  have hmap : (List.range (Y.bs ++ [(Y.th t).pend]).length).map (upd bv Y.bs.length (vp t)) = (List.range Y.bs.length).map bv ++ [vp t] := by
    rw [List.length_append, List.length_singleton, List.range_succ, List.map_append, List.map_singleton, upd_same]
    congr 1
    exact List.map_congr_left fun k hk => upd_other _ _ (by have := List.mem_range.1 hk; omega)
  refine ⟨⟨lab3 lab w 2, upd vo t (vo t), upd vp t (.slice none 0 0), .slice (some ⟨g, 0, none⟩) (Y.bs.length + 1) c, upd bv Y.bs.length (vp t), ?_⟩, ?_⟩
  · refine DR.move h ht (fun k hS h0 h2 h4 _ _ => keep k hS h0 h2 h4) hS (fun k hk => ?_) r5b r5t ?_ ?_ (fun k e => ⟨(hS k (h.opL t ht k e).1).1, (hS k (h.opL t ht k e).1).2.trans (h.opL t ht k e).2⟩) ?_ ?_ ?_ ?_ ?_ ?_
    · rcases hk with hk | hk
      · have := h.lt k hk; have := hgr.size; omega
      · exact hk.2
    · rw [show x'.flipped = (Y.th t).flipped by rw [hx]]
      exact (h.fl t ht).of_block (keep _ (h.flL t ht).1 (by rw [(h.flL t ht).2]; omega) (by rw [(h.flL t ht).2]; omega) (by rw [(h.flL t ht).2]; omega))
    · rw [show x'.ops = (Y.th t).ops by rw [hx]]
      exact owns_block (h.ops t ht) fun k e => keep k (h.opL t ht k e).1 (by rw [(h.opL t ht k e).2]; omega) (by rw [(h.opL t ht k e).2]; omega) (by rw [(h.opL t ht k e).2]; omega)
    · rw [hmap, List.length_append, List.length_singleton]
      exact hown5
    · intro k e
      have e : g = k := by simpa [Value.ownBlock] using e
      subst e
      rcases hg with q | q
      · exact ⟨.inl (h.baL g q).1, (lab3_old (h.lt g (h.baL g q).1)).trans (h.baL g q).2⟩
      · exact ⟨.inr ⟨by omega, by omega⟩, lab3_new (by omega)⟩
    · intro i hi
      by_cases e : i = Y.bs.length
      · subst e
        rw [upd_same, List.getElem_append_right (Nat.le_refl _)]
        simp only [Nat.sub_self, List.getElem_cons_zero]
        exact (h.pnd t ht).of_block fun k e => keep k (h.pnL t ht k e).1 (by rw [(h.pnL t ht k e).2]; omega) (by rw [(h.pnL t ht k e).2]; omega) (by rw [(h.pnL t ht k e).2]; omega)
      · have hi' : i < Y.bs.length := by simp at hi; omega
        rw [upd_other _ _ e, List.getElem_append_left hi']
        exact (h.bts i hi').of_block fun k e => keep k (h.btL i hi' k e).1 (by rw [(h.btL i hi' k e).2]; omega) (by rw [(h.btL i hi' k e).2]; omega) (by rw [(h.btL i hi' k e).2]; omega)
    · intro i hi k e
      by_cases q : i = Y.bs.length
      · subst q
        rw [upd_same] at e
        exact ⟨.inl (h.pnL t ht k e).1, (lab3_old (h.lt k (h.pnL t ht k e).1)).trans (h.pnL t ht k e).2⟩
      · have hi' : i < Y.bs.length := by simp at hi; omega
        rw [upd_other _ _ q] at e
        exact ⟨.inl (h.btL i hi' k e).1, (lab3_old (h.lt k (h.btL i hi' k e).1)).trans (h.btL i hi' k e).2⟩
    · rw [show x'.pend = [] by rw [hx]]
      exact Lst.nil _
    · intro k e; simp [Value.ownBlock] at e
  · refine ⟨?_, ?_, ?_, ?_, ?_⟩
    · rw [h5]; exact hgr.os.trans hb.os
    · rw [h5]; exact hgr.tape.trans hb.tape
    · rw [h5]; exact hgr.output.trans hb.output
    · have := hgr.size; omega
    · intro k hk hS
      exact old k hk (fun e => hS (e ▸ qb.1)) (fun e => hS (e ▸ qt.1)) (fun e => hS (h.baL k e).1)
theorem keepG9 {w w4 : World} {row : Option Nat} {E N i j : Nat} {q : Value} (hg : w.grownBy w4 row) (h : w.cell? ⟨N, i, none⟩ = some q ∧ w.there E j 1) (hE : some E ≠ row) (hN : some N ≠ row) :
    w4.cell? ⟨N, i, none⟩ = some q ∧ w4.there E j 1 := by
  refine ⟨hg.cell h.1 hN, fun k hk => ?_⟩
  obtain ⟨h1, h2⟩ := h.2 k hk
  obtain ⟨u, hu⟩ := Option.isSome_iff_exists.1 h1
  have hlt := World.block_lt_of_cell? w _ hu
  rw [hg.cell_far ⟨E, j + k, none⟩ hlt hE, hg.frozen_far ⟨E, j + k, none⟩ hlt hE]
  exact ⟨h1, h2⟩
theorem DLeft.widen {Y' : RSt} {w' : World} {S' : Nat → Prop} (h : DLeft L S w Y' w') (hS : ∀ k, S k → S' k) (hlt : ∀ k, S' k → k < w.heap.size) : DLeft L S' w Y' w' :=
  ⟨h.doc.stay (fun _ _ => rfl) (fun k hk => by rcases hk with hk | hk; exact .inl (hS k hk); exact .inr hk) (fun k hk => by
    rcases hk with hk | hk
    · exact Nat.lt_of_lt_of_le (hlt k hk) h.fr.size
    · exact hk.2), ⟨h.fr.os, h.fr.tape, h.fr.output, h.fr.size, fun k hk hn => h.fr.block k hk fun c => hn (hS k c)⟩⟩
theorem TLeft.then {Y' Y'' : RSt} {w1 w2 : World} (h : TLeft L S Y' lab vo vp vb bv w w1) (h' : DLeft L S w1 Y'' w2) : DLeft L S w Y'' w2 :=
  DLeft.next h.left (h'.widen (fun _ => .inl) fun k hk => by
    rcases hk with hk | hk
    · exact h.dr.lt k hk
    · exact hk.2)
end
end Go.Proofs.YtefjhnhdagolhaaGreat
namespace Go.Proofs.YtefjhnhdagolhaaGreat
open Go.RowKit
open M (upd upd_same upd_other RSt RTh cnt)
attribute [local go_sem ↓] Go.wp_at_zero Go.wp_at_succ
section
variable {L : DL} {S : Nat → Prop} {Y : RSt} {w : World} {lab : Nat → Nat} {vo vp : Nat → Value} {vb : Value} {bv : Nat → Value} {t : Nat}
theorem CkI.left {w' : World} {l : List Nat} {v : Value} (q : CkI L t (Y.th t) vo w w' l v) (h : DR L S Y w lab vo vp vb bv) (ht : t < L.n) : DLeft L S w (Y.set t { Y.th t with pend := l }) w' :=
  ⟨⟨_, _, _, _, _, q.dr h ht rfl rfl⟩, ⟨q.fr.os, q.fr.tape, q.fr.output, q.fr.size, fun k hk hS => q.fr.block k hk fun e => hS (by rw [show k = L.bT t from e]; exact (h.thL t ht).1)⟩⟩
set_option maxRecDepth 20000 in
set_option maxHeartbeats 4000000 in
theorem docOver_fail (h : DR L S Y w lab vo vp vb bv) (ht : t < L.n) (p : Nat) (hp : (Y.th t).part = p) (hpc : p = 7 ∨ p = 10) (hne : Y.bs.length ≠ (Y.th t).stamp) (hb : (Y.th t).backoff ≤ L.cap) :
    Calls Tryz.prog 87 #[.pointer (some ⟨L.b, 0, none⟩), .int .i64 (t : Int)] w fun e w' => e = .returned (.int .i64 1) ∧ DLeft L S w (Y.set t ((Y.th t).fail L.n L.cap)) w' := by
  obtain ⟨⟨a, c, ev⟩, hm⟩ := owns_form h.bat
  have hmx : maxLen = 9223372036854775807 := rfl
  have c7 : w.cell? ⟨L.b, 7, none⟩ = some (.slice (some ⟨L.g, 0, none⟩) L.n L.gc) := h.ocell rfl
  have c8 : w.cell? ⟨L.b, 8, none⟩ = some (.slice a Y.bs.length c) := by have : w.cell? ⟨L.b, 8, none⟩ = some vb := h.ocell rfl; rw [ev] at this; exact this
  have cp := h.ptr t ht
  have ht0 : (0 : Int) ≤ (t : Int) := by omega
  have ht1 : (t : Int) < (L.n : Int) := by omega
  have t3 : w.cell? ⟨L.bT t, 3, none⟩ = some (.int .i64 ((Y.th t).part : Int)) := h.tcell ht rfl
  have t7 : w.cell? ⟨L.bT t, 7, none⟩ = some (.int .i64 ((Y.th t).stamp : Int)) := h.tcell ht rfl
  rw [hp] at t3
  have hs : ((Y.bs.length : Int) == ((Y.th t).stamp : Int)) = false := by simp; omega
  have HE := hide (fun k => docFail (h.drewN k) ht hb)
  have HR := hide (fun k => TLeft.refl h k)
  clear h hb hne ev
  rcases hpc with rfl | rfl
  all_goals
    go_enter Tryz.func87, Tryz.ntmps87
    go_upto_region 2 with fail
    go_quiet (fail)
    go_wp2_with fail
    refine (HE.out nq).mono ?_
    rintro e w3 ⟨rfl, h3⟩
    have H4 := hide ((HR.out nq).next h3)
    clear h3
    go_wp2_with fail
    go_ret
    exact ⟨rfl, H4.out.left⟩
set_option maxRecDepth 20000 in
set_option maxHeartbeats 4000000 in
theorem docOver_7 (h : DR L S Y w lab vo vp vb bv) (ht : t < L.n) (hp : (Y.th t).part = 7) (hst : Y.bs.length = (Y.th t).stamp) (hc : ∀ k, k < L.n → cnt Y.bs k ≤ 1000000000 ∧ (Y.th t).flipped k ≤ 1000000000) :
    Calls Tryz.prog 87 #[.pointer (some ⟨L.b, 0, none⟩), .int .i64 (t : Int)] w fun e w' => e = .returned (.int .i64 1) ∧ DLeft L S w (Y.set t (RTh.enter L.n { Y.th t with pend := Y.pending L.n (Y.th t) } (if t ∈ Y.pending L.n (Y.th t) then 8 else 11))) w' := by
  obtain ⟨⟨a, c, ev⟩, hm⟩ := owns_form h.bat
  have hmx : maxLen = 9223372036854775807 := rfl
  have c7 : w.cell? ⟨L.b, 7, none⟩ = some (.slice (some ⟨L.g, 0, none⟩) L.n L.gc) := h.ocell rfl
  have c8 : w.cell? ⟨L.b, 8, none⟩ = some (.slice a Y.bs.length c) := by have : w.cell? ⟨L.b, 8, none⟩ = some vb := h.ocell rfl; rw [ev] at this; exact this
  have cp := h.ptr t ht
  have ht0 : (0 : Int) ≤ (t : Int) := by omega
  have ht1 : (t : Int) < (L.n : Int) := by omega
  have t3 : w.cell? ⟨L.bT t, 3, none⟩ = some (.int .i64 ((Y.th t).part : Int)) := h.tcell ht rfl
  have t7 : w.cell? ⟨L.bT t, 7, none⟩ = some (.int .i64 ((Y.th t).stamp : Int)) := h.tcell ht rfl
  rw [hp] at t3
  have hs : ((Y.bs.length : Int) == ((Y.th t).stamp : Int)) = true := by simp [hst]
  have HE := hide (fun k => docCheck (h.drewN k) ht hc)
  have HH := hide (fun k => h.drewN k)
  have HN := hide (Nat.le_trans (M.pending_len L.n Y (Y.th t)) h.n64)
  have HR := hide (fun k => TLeft.refl h k)
  have HLT := hide h.lt
  clear h hst ev
  go_enter Tryz.func87, Tryz.ntmps87
  go_upto_region 2 with fail
  go_quiet (fail)
  go_wp2_with fail
  refine (HE.out nq).mono ?_
  rintro e w3 ⟨rfl, v, hI⟩
  have hD := hI.dr (HH.out nq) ht rfl rfl
  have HL := hide (DLeft.next (HR.out nq).left (show DLeft L (Grow S w (w.drewN nq)) (w.drewN nq) _ w3 from
    CkI.left hI ((HH.out nq).stay (fun _ _ => rfl) (fun _ => .inl) (fun k hk => by
      rcases hk with hk | hk
      · exact HLT.out k hk
      · exact hk.2)) ht))
  have HD := hide hD
  clear hI hD HE
  have d3 : w3.cell? ⟨L.bT t, 3, none⟩ = some (.int .i64 7) := by have := HD.out.tcell ht (j := 3) rfl; rw [set_th] at this; rw [this, hp]; rfl
  clear hp
  by_cases hmem : t ∈ Y.pending L.n (Y.th t)
  · rw [show decide (t ∈ Y.pending L.n (Y.th t)) = true from decide_eq_true hmem]
    go_wp2_with fail
    refine (docEnter HD.out ht 8 (by decide) (by decide) (fun _ _ => by rw [set_th]; exact HN.out)).mono ?_
    rintro e w4 ⟨rfl, h4⟩
    have H4 := hide (h4.cast (by rw [set_th, set_set]))
    clear h4
    go_wp2_with fail
    go_ret
    refine ⟨rfl, ?_⟩
    exact HL.out.next H4.out.left
  · rw [show decide (t ∈ Y.pending L.n (Y.th t)) = false from decide_eq_false hmem]
    go_wp2_with fail
    refine (docEnter HD.out ht 11 (by decide) (by decide) (fun _ h => absurd h (by decide))).mono ?_
    rintro e w4 ⟨rfl, h4⟩
    have H4 := hide (h4.cast (by rw [set_th, set_set]))
    clear h4
    go_wp2_with fail
    go_ret
    refine ⟨rfl, ?_⟩
    exact HL.out.next H4.out.left
set_option maxRecDepth 20000 in
set_option maxHeartbeats 4000000 in
theorem docOver_10 (h : DR L S Y w lab vo vp vb bv) (ht : t < L.n) (hp : (Y.th t).part = 10) (hst : Y.bs.length = (Y.th t).stamp) (hN : Y.bs.length ≤ 1000000000) (hb : (Y.th t).backoff ≤ L.cap) :
    Calls Tryz.prog 87 #[.pointer (some ⟨L.b, 0, none⟩), .int .i64 (t : Int)] w fun e w' => e = .returned (.int .i64 1) ∧ DLeft L S w ⟨upd Y.th t (RTh.enter L.n { Y.th t with pend := [], backoff := (Y.th t).backoff / 2 } 11), Y.bs ++ [(Y.th t).pend]⟩ w' := by
  obtain ⟨si, hsi, hsz⟩ := Option.map_eq_some_iff.1 info_s22
  simp only [Prod.mk.injEq] at hsz
  obtain ⟨hs1, hs2, hs3⟩ := hsz
  have HSI := hide hsi
  have HS1 := hide hs1
  have HS2 := hide hs2
  have HS3 := hide hs3
  clear hsi hs1 hs2 hs3
  obtain ⟨⟨a, c, ev⟩, hm⟩ := owns_form h.bat
  have hmx : maxLen = 9223372036854775807 := rfl
  have c7 : w.cell? ⟨L.b, 7, none⟩ = some (.slice (some ⟨L.g, 0, none⟩) L.n L.gc) := h.ocell rfl
  have c8 : w.cell? ⟨L.b, 8, none⟩ = some (.slice a Y.bs.length c) := by have : w.cell? ⟨L.b, 8, none⟩ = some vb := h.ocell rfl; rw [ev] at this; exact this
  have cp := h.ptr t ht
  have ht0 : (0 : Int) ≤ (t : Int) := by omega
  have ht1 : (t : Int) < (L.n : Int) := by omega
  have t3 : w.cell? ⟨L.bT t, 3, none⟩ = some (.int .i64 ((Y.th t).part : Int)) := h.tcell ht rfl
  have t7 : w.cell? ⟨L.bT t, 7, none⟩ = some (.int .i64 ((Y.th t).stamp : Int)) := h.tcell ht rfl
  rw [hp] at t3
  have hs : ((Y.bs.length : Int) == ((Y.th t).stamp : Int)) = true := by simp [hst]
  have hcap := h.c64
  have HH := hide h
  have HEV := hide ev
  have HHP := hide hp
  clear h hst ev hp
  go_enter Tryz.func87, Tryz.ntmps87
  go_upto_region 2 with fail
  go_quiet (fail)
  generalize hW0 : w.drewN nq = W0 at *
  have q0 : DR L S Y W0 lab vo vp vb bv := by rw [← hW0]; exact HH.out.drewN nq
  have HQ := hide q0
  have hR0 := hide (show TLeft L S Y lab vo vp vb bv w W0 by rw [← hW0]; exact TLeft.refl HH.out nq)
  have u3 : W0.cell? ⟨L.bT t, 3, none⟩ = some (.int .i64 10) := by rw [← hW0]; exact t3
  have cv : W0.cell? ⟨L.b, 8, none⟩ = some vb := q0.ocell rfl
  have c9 : W0.cell? ⟨L.bT t, 9, none⟩ = some (vp t) := q0.tcell ht rfl
  have hth : W0.there L.b 8 1 := q0.obj.there (by simp [dob, ccs])
  have hneT : some (L.bT t) ≠ vb.ownBlock := fun e => by have h1 := (q0.baL _ e.symm).2; have h2 := (q0.thL t ht).2; rw [h2] at h1; omega
  have hneB : some L.b ≠ vb.ownBlock := fun e => by have h1 := (q0.baL _ e.symm).2; have h2 := q0.obL.2; rw [h2] at h1; omega
  have hbt := q0.ne ht
  obtain ⟨pa, pc, ep⟩ := (q0.pnd t ht).form
  have HEP := hide ep
  have HCV := hide cv
  have hsz : (Tryz.prog.info? 58).map (·.size) = some 1 := by kernel_rfl
  clear q0 cv ep hW0 c7 c8 cp t3 t7
  go_upto_region 21 with fail
  rw [HEP.out] at c9
  refine rg0 (S := (fun w' => w'.cell? ⟨L.bT t, 9, none⟩ = some (.slice pa (Y.th t).pend.length pc) ∧ w'.there L.b 8 1)) 14 rfl (by kernel_rfl) ?_ (fun hHeld => ?_)
  · exact ⟨c9, hth⟩
  iterate 4 (refine tk 13 (by rfl) (by kernel_rfl) (by exact fun _ _ _ h => h) (.inl ⟨by rfl, fun w hS => by (try dsimp only at hS); go_simp; (try with_reducible rfl)⟩) (by assumption) ?_; try go_frame)
  iterate 4 (refine tk 14 (by rfl) (by kernel_rfl) (by exact fun _ _ _ h => h) (.inl ⟨by rfl, fun w hS => by (try dsimp only at hS); go_simp; (try with_reducible rfl)⟩) (by assumption) ?_; try go_frame)
  refine wpAnyH_ready (rs := [4, 9]) (by kernel_rfl) (by simp) (rc (by rfl) (fun K hK => ?_) (rc (by rfl) (fun K hK => ?_) AllReadyH.nil))
  · rw [if_pos (by rfl)]
    refine wp_load_one _ _ rfl _ _ vb rfl (by kernel_rfl) (by refine cell_later ?_ HCV.out; repeat (first | exact Below.refl _ _ | refine Below.drew ?_ | refine Below.alloc ?_ (by first | (simp; done) | (simp; omega)) _)) ?_
    refine hK.out _ _ ?_ (fun hHeld => ?_)
    · exact hHeld
    clear hK K
    (try go_frame)
    refine rd1 9 (by rfl) (by kernel_rfl) (fun K hK => ?_)
    go_simp
    refine hK.out _ _ ?_ (fun hHeld => ?_)
    · exact ⟨cell_later (below_alloc _ _) hHeld.1, World.there_alloc hHeld.2 _⟩
    clear hK K
    (try go_frame)
    refine rd1 10 (by rfl) (by kernel_rfl) (fun K hK => ?_)
    refine step_append_lies _ rfl (.tmp 77) (.tmp 82) 58 rfl 0 22 si (.slice none 0 0) 1 24 Tryz.underlying58 HSI.out HS1.out HS2.out HS3.out rfl (by decide) vb Y.bs.length ((List.range Y.bs.length).map bv) rfl ?_ ⟨W0.heap.size, 0, none⟩ 1 1 [.slice pa (Y.th t).pend.length pc] rfl rfl ?_ (by simp [Value.oneCell']) (by decide) (by unfold maxLen; omega) (by omega) (Nat.zero_le _) _ rfl ?_
    · exact HQ.out.bat.alloc _
    · exact World.news_of_block (Row.new' (by simp))
    intro g gc w4 hown hgr hat hlt4
    have HO := hide hown
    have HG := hide hgr
    have HA := hide hat
    have hl4 := hlt4
    clear hown hgr hat hlt4
    refine hK.out _ _ ?_ (fun hHeld => ?_)
    · exact keepG9 HG.out hHeld hneB hneT
    clear hK K
    (try go_frame)
    iterate 2 (refine tk 13 (by rfl) (by kernel_rfl) (by exact fun _ _ _ h => h) (.inl ⟨by rfl, fun w hS => by (try dsimp only at hS); go_simp; (try with_reducible rfl)⟩) (by assumption) ?_; try go_frame)
    refine rd1 13 (by rfl) (by kernel_rfl) (fun K hK => ?_)
    rw [if_pos (by rfl)]
    refine wp_store_one _ _ _ rfl L.b 8 (.slice (some ⟨g, 0, none⟩) (Y.bs.length + 1) gc) rfl rfl rfl rfl hHeld.2 hsz ?_
    refine hK.out _ _ ?_ (fun hHeld => ?_)
    · exact ⟨(World.cell?_setCell_far _ _ _ _ (by simp; omega)).trans hHeld.1, there_set hHeld.2 _ rfl _⟩
    clear hK K
    (try go_frame)
    refine wpAnyH_done (by kernel_rfl) ?_ _
    have hr4 : Row w4 (L.bT t) 109 (dth (Y.th t) (L.bF t) L.n (vo t) (vp t)) := (HQ.out.th t ht).of_block ((HG.out.block _ (by simp; exact Nat.lt_succ_of_lt (HQ.out.th t ht).lt) hneT).trans ((below_alloc _ _).block _ (HQ.out.th t ht).lt))
    have hr5 := hr4.setOther (a := ⟨L.b, 8, none⟩) (by simpa using hbt.symm) (.slice (some ⟨g, 0, none⟩) (Y.bs.length + 1) gc)
    have HR5 := hide hr5
    have x9 := hr5.cell_of (i := 9) rfl
    have x5 : _ = some (Value.int .i64 ((Y.th t).backoff : Int)) := hr5.cell_of (i := 5) rfl
    have x3 : _ = some (Value.int .i64 ((Y.th t).part : Int)) := hr5.cell_of (i := 3) rfl
    have y9 := hr5.frozen 9
    have y5 := hr5.frozen 5
    rw [HHP.out] at x3
    have hPUB := hide (DR.pub HQ.out ht (w2 := _) (Below.drew (below_alloc _ _)) HG.out HA.out (by rw [HEP.out]; exact HO.out) hl4 (x' := { Y.th t with pend := [], backoff := (Y.th t).backoff / 2 }) rfl rfl)
    clear hr4 hr5 hHeld HG HA HO
    generalize World.setCell w4 ⟨L.b, 8, none⟩ (.slice (some ⟨g, 0, none⟩) (Y.bs.length + 1) gc) = W5 at *
    obtain ⟨lab', vo', vp', vb', bv', hD⟩ := hPUB.out.doc
    have HD := hide hD
    clear hD
    go_wp2_with fail
    refine (docEnter HD.out ht 11 (by decide) (by decide) (fun _ h => absurd h (by decide))).mono ?_
    rintro e w6 ⟨rfl, h6⟩
    have H6 := hide (hR0.out.then (hPUB.out.next h6.left))
    clear h6
    go_wp2_with fail
    go_ret
    refine ⟨rfl, H6.out.cast ?_⟩
    simp [M.RSt.set, upd_same, updd]
  · go_simp
    refine hK.out _ _ ?_ (fun hHeld => ?_)
    · exact ⟨cell_later (below_alloc _ _) hHeld.1, World.there_alloc hHeld.2 _⟩
    clear hK K
    (try go_frame)
    refine rd1 4 (by rfl) (by kernel_rfl) (fun K hK => ?_)
    rw [if_pos (by rfl)]
    refine wp_load_one _ _ rfl _ _ vb rfl (by kernel_rfl) (by refine cell_later ?_ HCV.out; repeat (first | exact Below.refl _ _ | refine Below.drew ?_ | refine Below.alloc ?_ (by first | (simp; done) | (simp; omega)) _)) ?_
    refine hK.out _ _ ?_ (fun hHeld => ?_)
    · exact hHeld
    clear hK K
    (try go_frame)
    refine rd1 10 (by rfl) (by kernel_rfl) (fun K hK => ?_)
    refine step_append_lies _ rfl (.tmp 77) (.tmp 82) 58 rfl 0 22 si (.slice none 0 0) 1 24 Tryz.underlying58 HSI.out HS1.out HS2.out HS3.out rfl (by decide) vb Y.bs.length ((List.range Y.bs.length).map bv) rfl ?_ ⟨W0.heap.size, 0, none⟩ 1 1 [.slice pa (Y.th t).pend.length pc] rfl rfl ?_ (by simp [Value.oneCell']) (by decide) (by unfold maxLen; omega) (by omega) (Nat.zero_le _) _ rfl ?_
    · exact HQ.out.bat.alloc _
    · exact World.news_of_block (Row.new' (by simp))
    intro g gc w4 hown hgr hat hlt4
    have HO := hide hown
    have HG := hide hgr
    have HA := hide hat
    have hl4 := hlt4
    clear hown hgr hat hlt4
    refine hK.out _ _ ?_ (fun hHeld => ?_)
    · exact keepG9 HG.out hHeld hneB hneT
    clear hK K
    (try go_frame)
    iterate 2 (refine tk 13 (by rfl) (by kernel_rfl) (by exact fun _ _ _ h => h) (.inl ⟨by rfl, fun w hS => by (try dsimp only at hS); go_simp; (try with_reducible rfl)⟩) (by assumption) ?_; try go_frame)
    refine rd1 13 (by rfl) (by kernel_rfl) (fun K hK => ?_)
    rw [if_pos (by rfl)]
    refine wp_store_one _ _ _ rfl L.b 8 (.slice (some ⟨g, 0, none⟩) (Y.bs.length + 1) gc) rfl rfl rfl rfl hHeld.2 hsz ?_
    refine hK.out _ _ ?_ (fun hHeld => ?_)
    · exact ⟨(World.cell?_setCell_far _ _ _ _ (by simp; omega)).trans hHeld.1, there_set hHeld.2 _ rfl _⟩
    clear hK K
    (try go_frame)
    refine wpAnyH_done (by kernel_rfl) ?_ _
    have hr4 : Row w4 (L.bT t) 109 (dth (Y.th t) (L.bF t) L.n (vo t) (vp t)) := (HQ.out.th t ht).of_block ((HG.out.block _ (by simp; exact Nat.lt_succ_of_lt (HQ.out.th t ht).lt) hneT).trans ((below_alloc _ _).block _ (HQ.out.th t ht).lt))
    have hr5 := hr4.setOther (a := ⟨L.b, 8, none⟩) (by simpa using hbt.symm) (.slice (some ⟨g, 0, none⟩) (Y.bs.length + 1) gc)
    have HR5 := hide hr5
    have x9 := hr5.cell_of (i := 9) rfl
    have x5 : _ = some (Value.int .i64 ((Y.th t).backoff : Int)) := hr5.cell_of (i := 5) rfl
    have x3 : _ = some (Value.int .i64 ((Y.th t).part : Int)) := hr5.cell_of (i := 3) rfl
    have y9 := hr5.frozen 9
    have y5 := hr5.frozen 5
    rw [HHP.out] at x3
    have hPUB := hide (DR.pub HQ.out ht (w2 := _) (Below.drew (below_alloc _ _)) HG.out HA.out (by rw [HEP.out]; exact HO.out) hl4 (x' := { Y.th t with pend := [], backoff := (Y.th t).backoff / 2 }) rfl rfl)
    clear hr4 hr5 hHeld HG HA HO
    generalize World.setCell w4 ⟨L.b, 8, none⟩ (.slice (some ⟨g, 0, none⟩) (Y.bs.length + 1) gc) = W5 at *
    obtain ⟨lab', vo', vp', vb', bv', hD⟩ := hPUB.out.doc
    have HD := hide hD
    clear hD
    go_wp2_with fail
    refine (docEnter HD.out ht 11 (by decide) (by decide) (fun _ h => absurd h (by decide))).mono ?_
    rintro e w6 ⟨rfl, h6⟩
    have H6 := hide (hR0.out.then (hPUB.out.next h6.left))
    clear h6
    go_wp2_with fail
    go_ret
    refine ⟨rfl, H6.out.cast ?_⟩
    simp [M.RSt.set, upd_same, updd]
end
end Go.Proofs.YtefjhnhdagolhaaGreat
namespace Go.Proofs.YtefjhnhdagolhaaGreat
open Go.RowKit
open M (upd upd_same upd_other RSt RTh cnt)
attribute [local go_sem ↓] Go.wp_at_zero Go.wp_at_succ
section
variable {L : DL} {S : Nat → Prop} {Y : RSt} {w : World} {lab : Nat → Nat} {vo vp : Nat → Value} {vb : Value} {bv : Nat → Value} {t : Nat}
structure OvOk (L : DL) (Y : RSt) (t : Nat) : Prop where
  p1 : 1 ≤ (Y.th t).part
  p11 : (Y.th t).part ≤ 11
  fl : (Y.th t).flips ≤ 1000000000
  en : (Y.th t).ended ≤ 1000000000
  bk : (Y.th t).backoff ≤ L.cap
  bs : Y.bs.length ≤ 1000000000
  pl : 8 ≤ (Y.th t).part → (Y.th t).part ≤ 10 → (Y.th t).pend.length ≤ 64
  ck : (Y.th t).part = 7 → ∀ k, k < L.n → cnt Y.bs k ≤ 1000000000 ∧ (Y.th t).flipped k ≤ 1000000000
def endW (b : Bool) : Int := if b = true then 2 else 1
theorem docOver (h : DR L S Y w lab vo vp vb bv) (ht : t < L.n) (o : OvOk L Y t) :
    Calls Tryz.prog 87 #[.pointer (some ⟨L.b, 0, none⟩), .int .i64 (t : Int)] w fun e w' => e = .returned (.int .i64 (endW (M.over L.n L.cap Y t (Y.th t)).2)) ∧ DLeft L S w (M.over L.n L.cap Y t (Y.th t)).1 w' := by
  rcases M.eleven o.p1 o.p11 with c | c | c | c | c | c | c | c | c | c | c
  · have e : M.over L.n L.cap Y t (Y.th t) = (Y.set t ((Y.th t).enter L.n (1 + 1)), false) := by unfold M.over; split <;> first | rfl | (exfalso; omega) | simp_all
    rw [e]; exact docOver_more h ht 1 c (by decide) (by omega)
  · have e : M.over L.n L.cap Y t (Y.th t) = (Y.set t (RTh.enter L.n { Y.th t with flips := (Y.th t).flips + 1, tries := 1 } 3), false) := by unfold M.over; split <;> first | rfl | (exfalso; omega) | simp_all
    rw [e]; exact docOver_2 h ht c o.fl
  · have e : M.over L.n L.cap Y t (Y.th t) = (Y.set t ((Y.th t).enter L.n (3 + 1)), false) := by unfold M.over; split <;> first | rfl | (exfalso; omega) | simp_all
    rw [e]; exact docOver_more h ht 3 c (by decide) (by omega)
  · have e : M.over L.n L.cap Y t (Y.th t) = (Y.set t (RTh.enter L.n { Y.th t with stamp := Y.bs.length } 5), false) := by unfold M.over; split <;> first | rfl | (exfalso; omega) | simp_all
    rw [e]; exact docOver_4 h ht c
  · have e : M.over L.n L.cap Y t (Y.th t) = (Y.set t ((Y.th t).enter L.n (5 + 1)), false) := by unfold M.over; split <;> first | rfl | (exfalso; omega) | simp_all
    rw [e]; exact docOver_more h ht 5 c (by decide) (by omega)
  · have e : M.over L.n L.cap Y t (Y.th t) = (Y.set t ((Y.th t).enter L.n (6 + 1)), false) := by unfold M.over; split <;> first | rfl | (exfalso; omega) | simp_all
    rw [e]; exact docOver_more h ht 6 c (by decide) (by omega)
  · by_cases q : Y.bs.length = (Y.th t).stamp
    · have e : M.over L.n L.cap Y t (Y.th t) = (Y.set t (RTh.enter L.n { Y.th t with pend := Y.pending L.n (Y.th t) } (if t ∈ Y.pending L.n (Y.th t) then 8 else 11)), false) := by unfold M.over; split <;> first | (simp only [if_pos q]; done) | (exfalso; omega) | simp_all
      rw [e]; exact docOver_7 h ht c q (o.ck c)
    · have e : M.over L.n L.cap Y t (Y.th t) = (Y.set t ((Y.th t).fail L.n L.cap), false) := by unfold M.over; split <;> first | (simp only [if_neg q]; done) | (exfalso; omega) | simp_all
      rw [e]; exact docOver_fail h ht 7 c (.inl rfl) q o.bk
  · have e : M.over L.n L.cap Y t (Y.th t) = (Y.set t ((Y.th t).enter L.n (8 + 1)), false) := by unfold M.over; split <;> first | rfl | (exfalso; omega) | simp_all
    rw [e]; exact docOver_more h ht 8 c (by decide) (fun _ => o.pl (by omega) (by omega))
  · have e : M.over L.n L.cap Y t (Y.th t) = (Y.set t ((Y.th t).enter L.n (9 + 1)), false) := by unfold M.over; split <;> first | rfl | (exfalso; omega) | simp_all
    rw [e]; exact docOver_more h ht 9 c (by decide) (fun _ => o.pl (by omega) (by omega))
  · by_cases q : Y.bs.length = (Y.th t).stamp
    · have e : M.over L.n L.cap Y t (Y.th t) = (⟨upd Y.th t (RTh.enter L.n { Y.th t with pend := [], backoff := (Y.th t).backoff / 2 } 11), Y.bs ++ [(Y.th t).pend]⟩, false) := by unfold M.over; split <;> first | (simp only [if_pos q]; done) | (exfalso; omega) | simp_all
      rw [e]; exact docOver_10 h ht c q o.bs o.bk
    · have e : M.over L.n L.cap Y t (Y.th t) = (Y.set t ((Y.th t).fail L.n L.cap), false) := by unfold M.over; split <;> first | (simp only [if_neg q]; done) | (exfalso; omega) | simp_all
      rw [e]; exact docOver_fail h ht 10 c (.inr rfl) q o.bk
  · have e : M.over L.n L.cap Y t (Y.th t) = (Y.set t { Y.th t with part := 0, ended := (Y.th t).ended + 1 }, true) := by unfold M.over; split <;> first | rfl | (exfalso; omega) | simp_all
    rw [e]; exact docOver_11 h ht c o.en
set_option maxHeartbeats 400000 in
theorem docStep_bad (h : DR L S Y w lab vo vp vb bv) (x : Int) (hx : ¬ (0 ≤ x ∧ x < L.n)) :
    Calls Tryz.prog 53 #[.pointer (some ⟨L.b, 0, none⟩), .int .i64 x] w fun e w' => e = .returned (.tuple #[.int .i64 0, .int .i64 3]) ∧ w' = w := by
  have c7 : w.cell? ⟨L.b, 7, none⟩ = some (.slice (some ⟨L.g, 0, none⟩) L.n L.gc) := h.ocell rfl
  have hn := h.n64
  clear h
  by_cases h0 : x < 0
  · go_enter Tryz.func53, Tryz.ntmps53
    go_wp2
    exact bodyPost_ret (v := .tuple #[.int .i64 0, .int .i64 3]) (by simp [results, Tryz.results53, go_sem]) rfl ⟨rfl, rfl⟩
  · have h1 : (L.n : Int) ≤ x := by omega
    clear hx
    go_enter Tryz.func53, Tryz.ntmps53
    go_wp2
    exact bodyPost_ret (v := .tuple #[.int .i64 0, .int .i64 3]) (by simp [results, Tryz.results53, go_sem]) rfl ⟨rfl, rfl⟩
set_option maxHeartbeats 400000 in
theorem docStep_idle (h : DR L S Y w lab vo vp vb bv) (ht : t < L.n) (hp : (Y.th t).part = 0) :
    Calls Tryz.prog 53 #[.pointer (some ⟨L.b, 0, none⟩), .int .i64 (t : Int)] w fun e w' => e = .returned (.tuple #[.int .i64 0, .int .i64 5]) ∧ w' = w := by
  have c7 : w.cell? ⟨L.b, 7, none⟩ = some (.slice (some ⟨L.g, 0, none⟩) L.n L.gc) := h.ocell rfl
  have hn := h.n64
  have cp := h.ptr t ht
  have t3 : w.cell? ⟨L.bT t, 3, none⟩ = some (.int .i64 ((Y.th t).part : Int)) := h.tcell ht rfl
  rw [hp] at t3
  have ht0 : (0 : Int) ≤ (t : Int) := by omega
  have ht1 : (t : Int) < (L.n : Int) := by omega
  have ht2 : ¬ (L.n : Int) ≤ (t : Int) := by omega
  clear h
  go_enter Tryz.func53, Tryz.ntmps53
  go_wp2
  exact bodyPost_ret (v := .tuple #[.int .i64 0, .int .i64 5]) (by simp [results, Tryz.results53, go_sem]) rfl ⟨rfl, rfl⟩
def half (n : Nat) (Y : RSt) (x : RTh) : RTh := { x with left := x.left - 1, flipped := if x.part = 6 then fun k => if k / 16 = M.tw n - (x.left - 1) - 1 ∧ k < n then (Y.th k).flips else x.flipped k else x.flipped }
theorem rstep_half (n cap : Nat) (Y : RSt) (t : Nat) : M.rstep n cap Y t = if 0 < (Y.th t).left - 1 then (Y.set t (half n Y (Y.th t)), false) else M.over n cap Y t (half n Y (Y.th t)) := rfl
end
end Go.Proofs.YtefjhnhdagolhaaGreat
