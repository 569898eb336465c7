import Derived.Test.YtefjhnhdagolhaaGreatQ20
namespace Go.Proofs.YtefjhnhdagolhaaGreat
open Go.RowKit
open M (upd upd_same upd_other RSt RTh cnt)
attribute [local go_sem ↓] Go.wp_at_zero Go.wp_at_succ
section
variable {L : DL} {S : Nat → Prop} {Y : RSt} {w : World} {lab : Nat → Nat} {vo vp : Nat → Value} {vb : Value} {bv : Nat → Value} {t : Nat}
theorem half_other (n : Nat) (Y : RSt) (x : RTh) (h : x.part ≠ 6) : half n Y x = { x with left := x.left - 1 } := by unfold half; rw [if_neg h]
theorem half_six (n d : Nat) (Y : RSt) (t : Nat) (x' : RTh) (h : (Y.th t).part = 6) (hd : d = M.tw n - ((Y.th t).left - 1) - 1) (hx : x' = { Y.th t with left := (Y.th t).left - 1 }) :
    { x' with flipped := fun k => if k / 16 = d ∧ k < n then ((Y.set t x').th k).flips else x'.flipped k } = half n Y (Y.th t) := by
  subst hx hd
  unfold half
  rw [if_pos h]
  have : ∀ k, ((Y.set t { Y.th t with left := (Y.th t).left - 1 }).th k).flips = (Y.th k).flips := fun k => by
    unfold M.RSt.set upd
    dsimp only
    split
    · rename_i e; subst e; rfl
    · rfl
  simp only [this]
theorem len_le {n : Nat} {x : RTh} (p : Nat) (hn : n ≤ 64) (hb : x.backoff ≤ 64) (hp : p = 8 → x.pend.length ≤ 64) : x.len n p ≤ 1000 := by
  unfold RTh.len M.wds M.tw
  repeat (first | omega | split)
theorem TLeft.self (h : DR L S Y w lab vo vp vb bv) : TLeft L S Y lab vo vp vb bv w w := ⟨h, Fr.refl _ _, rfl⟩
structure StOk (L : DL) (Y : RSt) (t : Nat) : Prop where
  l1 : 1 ≤ (Y.th t).left
  l2 : (Y.th t).left ≤ (Y.th t).len L.n (Y.th t).part
  ov : OvOk L Y t
theorem OvOk.of_half (o : OvOk L Y t) : OvOk L (Y.set t (half L.n Y (Y.th t))) t := by
  have e : (Y.set t (half L.n Y (Y.th t))).th t = half L.n Y (Y.th t) := set_th _ _ _
  constructor
  · rw [e]; exact o.p1
  · rw [e]; exact o.p11
  · rw [e]; exact o.fl
  · rw [e]; exact o.en
  · rw [e]; exact o.bk
  · exact o.bs
  · rw [e]; exact o.pl
  · intro h7 k hk
    have h7' : (Y.th t).part = 7 := by rw [e] at h7; exact h7
    rw [e, half_other _ _ _ (by omega)]
    exact o.ck h7' k hk
set_option maxRecDepth 20000 in
set_option maxHeartbeats 4000000 in
theorem docStep_busy (h : DR L S Y w lab vo vp vb bv) (ht : t < L.n) (o : StOk L Y t) :
    Calls Tryz.prog 53 #[.pointer (some ⟨L.b, 0, none⟩), .int .i64 (t : Int)] w fun e w' => e = .returned (.tuple #[.int .i64 (endW (M.rstep L.n L.cap Y t).2), .int .i64 0]) ∧ DLeft L S w (M.rstep L.n L.cap Y t).1 w' := by
  have c7 : w.cell? ⟨L.b, 7, none⟩ = some (.slice (some ⟨L.g, 0, none⟩) L.n L.gc) := h.ocell rfl
  have hn := h.n64
  have hn1 := h.n1
  have cp := h.ptr t ht
  have t3 : w.cell? ⟨L.bT t, 3, none⟩ = some (.int .i64 ((Y.th t).part : Int)) := h.tcell ht rfl
  have t4 : w.cell? ⟨L.bT t, 4, none⟩ = some (.int .i64 ((Y.th t).left : Int)) := h.tcell ht rfl
  have f4 := (h.th t ht).frozen 4
  have ht0 : (0 : Int) ≤ (t : Int) := by omega
  have ht1 : (t : Int) < (L.n : Int) := by omega
  have ht2 : ¬ (L.n : Int) ≤ (t : Int) := by omega
  have hp0 : ¬ ((Y.th t).part : Int) = 0 := by have := o.ov.p1; omega
  have hl1 := o.l1
  have hlM : (Y.th t).left ≤ 1000000 := by
    have h2 := o.l2
    have h3 := len_le (n := L.n) (x := Y.th t) (Y.th t).part h.n64 (Nat.le_trans o.ov.bk h.c64) (fun q => o.ov.pl (by omega) (by omega))
    omega
  have H1 := hide (h.put ht 4 (.int .i64 (((Y.th t).left - 1 : Nat) : Int)) (x' := { Y.th t with left := (Y.th t).left - 1 }) rfl rfl rfl rfl)
  have HW := hide (show ((((Y.th t).left - 1 : Nat) : Int)) = ((Y.th t).left : Int) - 1 by omega)
  have HO := hide o
  clear h o
  rw [rstep_half]
  by_cases h6 : (Y.th t).part = 6
  · generalize hR : (if 0 < (Y.th t).left - 1 then (Y.set t (half L.n Y (Y.th t)), false) else M.over L.n L.cap Y t (half L.n Y (Y.th t))) = R
    have HR := hide hR
    clear hR
    have htw : M.tw L.n ≤ 4 := by unfold M.tw; omega
    have htl : (Y.th t).left ≤ M.tw L.n := by have := HO.out.l2; rw [h6] at this; simpa [RTh.len] using this
    obtain ⟨d, hd⟩ : ∃ d, d = M.tw L.n - ((Y.th t).left - 1) - 1 := ⟨_, rfl⟩
    have hd16 : 16 * d < L.n := by rw [hd]; unfold M.tw at htl ⊢; omega
    have HDI := hide (show (M.tw L.n : Int) - (((Y.th t).left : Int) - 1) - 1 = (d : Int) by omega)
    have q1 := H1.out.dr
    have HWd := hide (docWord (show DR L S _ _ lab vo vp vb bv from (TLeft.drew (TLeft.self q1)).dr) ht d hd16)
    have HX := hide (half_six L.n d Y t _ h6 hd rfl)
    have HT := hide (TLeft.drew (TLeft.self q1))
    have HC := hide (fun (W : World) (hW : W.cell? ⟨L.b, 1, none⟩ = some (.int .i64 (L.n : Int))) => docWords W hW hn)
    have HC1 := hide (show _ = some (Value.int .i64 (L.n : Int)) from q1.ocell (j := 1) rfl)
    have HC4 := hide (show (w.setCell ⟨L.bT t, 4, none⟩ (.int .i64 (((Y.th t).left - 1 : Nat) : Int))).cell? ⟨L.bT t, 4, none⟩ = some (Value.int .i64 ((((Y.th t).left - 1 : Nat) : Int))) from by rw [q1.tcell ht (j := 4) rfl, set_th])
    rw [← HDI.out] at HWd
    rw [h6] at t3
    rw [HW.out] at H1 HWd HT HC1 HC4
    clear q1 hd hd16 HDI
    generalize hgt : M.tw L.n = tw at *
    clear hgt
    go_enter Tryz.func53, Tryz.ntmps53
    go_upto_region 8 with fail
    generalize World.setCell w _ _ = W1 at *
    have c1 := HC1.out
    have c4 := HC4.out
    refine rg0 (S := (fun w' => w'.cell? ⟨L.bT t, 4, none⟩ = some (.int .i64 (((Y.th t).left : Int) - 1)) ∧ w'.cell? ⟨L.b, 1, none⟩ = some (.int .i64 (L.n : Int)))) 11 rfl (by kernel_rfl) ?_ (fun hHeld => ?_)
    · exact ⟨c4, c1⟩
    iterate 3 (refine tk 10 (by rfl) (by kernel_rfl) (by exact fun _ _ _ h => h) (.inl ⟨by rfl, fun w hS => by (try dsimp only at hS); go_simp; (try with_reducible rfl)⟩) (by assumption) ?_; try go_frame)
    iterate 4 (refine tk 11 (by rfl) (by kernel_rfl) (by exact fun _ _ _ h => h) (.inl ⟨by rfl, fun w hS => by (try dsimp only at hS); go_simp; (try with_reducible rfl)⟩) (by assumption) ?_; try go_frame)
    refine rd1 3 (by rfl) (by kernel_rfl) (fun K hK => ?_)
    go_simp
    refine (HC.out _ hHeld.2).mono ?_
    rintro e w2 ⟨rfl, rfl⟩
    go_wp2_with fail
    refine hK.out _ _ ?_ (fun hHeld => ?_)
    · exact hHeld
    clear hK K
    (try go_frame)
    iterate 2 (refine tk 10 (by rfl) (by kernel_rfl) (by exact fun _ _ _ h => h) (.inl ⟨by rfl, fun w hS => by (try dsimp only at hS); go_simp; (try with_reducible rfl)⟩) (by assumption) ?_; try go_frame)
    refine rd1 10 (by rfl) (by kernel_rfl) (fun K hK => ?_)
    go_simp
    rw [wrapi ((tw : Int) - (((Y.th t).left : Int) - 1)) (by omega) (by omega), wrapi ((tw : Int) - (((Y.th t).left : Int) - 1) - 1) (by omega) (by omega)]
    with_reducible refine HWd.out.mono ?_
    rintro e w3 ⟨rfl, h3⟩
    have h4 : TLeft L S (Y.set t (half L.n Y (Y.th t))) lab vo vp vb bv w w3 := H1.out.next (HT.out.next (h3.cast (by rw [set_th, set_set, HX.out])))
    have k4 : w3.cell? ⟨L.bT t, 4, none⟩ = some (.int .i64 (((Y.th t).left : Int) - 1)) := by rw [h4.dr.tcell ht (j := 4) rfl, set_th, ← HW.out]; rfl
    have k1 : w3.cell? ⟨L.b, 1, none⟩ = some (.int .i64 (L.n : Int)) := h4.dr.ocell rfl
    have H4 := hide h4
    clear h3 h4
    go_wp2_with fail
    refine hK.out _ _ ?_ (fun hHeld => ?_)
    · exact ⟨k4, k1⟩
    clear hK K
    (try go_frame)
    refine wpAnyH_done (by kernel_rfl) ?_ _
    obtain ⟨e4, -⟩ := hHeld
    by_cases hl : 0 < (Y.th t).left - 1
    · have eR : R = (Y.set t (half L.n Y (Y.th t)), false) := by rw [← HR.out, if_pos hl]
      clear HR
      subst eR
      have hl' : (0 : Int) < ((Y.th t).left : Int) - 1 := by omega
      go_wp2_with fail
      exact bodyPost_ret (v := .tuple #[.int .i64 1, .int .i64 0]) (by simp [results, Tryz.results53, go_sem]) rfl ⟨rfl, H4.out.left⟩
    · have eR : R = M.over L.n L.cap Y t (half L.n Y (Y.th t)) := by rw [← HR.out, if_neg hl]
      clear HR
      subst eR
      have hl' : ((Y.th t).left : Int) - 1 = 0 := by omega
      have HV2 := docOver H4.out.dr ht HO.out.ov.of_half
      rw [set_th, M.over_set] at HV2
      have HV3 := hide HV2
      rw [hl'] at e4
      clear HV2 HO hl' hl1 hlM
      go_wp2_with fail
      refine HV3.out.mono ?_
      rintro e w5 ⟨rfl, h5⟩
      have H5 := hide (H4.out.then h5)
      clear h5
      go_wp2_with fail
      exact bodyPost_ret (v := .tuple #[.int .i64 (endW (M.over L.n L.cap Y t (half L.n Y (Y.th t))).2), .int .i64 0]) (by simp [results, Tryz.results53, go_sem]) rfl ⟨rfl, H5.out⟩
  · have hh := half_other L.n Y (Y.th t) h6
    have h6' : ¬ ((Y.th t).part : Int) = 6 := by omega
    rw [← hh] at H1
    clear hh
    by_cases hl : 0 < (Y.th t).left - 1
    · simp only [if_pos hl]
      have hl' : (0 : Int) < ((Y.th t).left : Int) - 1 := by omega
      rw [HW.out] at H1
      go_enter Tryz.func53, Tryz.ntmps53
      go_wp2_with fail
      exact bodyPost_ret (v := .tuple #[.int .i64 1, .int .i64 0]) (by simp [results, Tryz.results53, go_sem]) rfl ⟨rfl, H1.out.left⟩
    · have hl' : ((Y.th t).left : Int) - 1 = 0 := by omega
      simp only [if_neg hl]
      have HV := hide (docOver H1.out.dr ht HO.out.ov.of_half)
      have HV2 := HV.out
      rw [set_th, M.over_set] at HV2
      have HV3 := hide HV2
      clear HV HV2
      rw [HW.out, hl'] at H1 HV3
      have hl'' : ((Y.th t).left : Int) = 1 := by omega
      rw [hl''] at t4
      clear HO hl' hl'' hl1 hlM
      go_enter Tryz.func53, Tryz.ntmps53
      go_wp2_with fail
      refine HV3.out.mono ?_
      rintro e w3 ⟨rfl, h3⟩
      have H4 := hide (H1.out.then h3)
      clear h3
      go_wp2_with fail
      exact bodyPost_ret (v := .tuple #[.int .i64 (endW (M.over L.n L.cap Y t (half L.n Y (Y.th t))).2), .int .i64 0]) (by simp [results, Tryz.results53, go_sem]) rfl ⟨rfl, H4.out⟩
end
end Go.Proofs.YtefjhnhdagolhaaGreat
namespace Go.Proofs.YtefjhnhdagolhaaGreat
open Go.RowKit
open M (upd upd_same upd_other RSt RTh cnt)
attribute [local go_sem ↓] Go.wp_at_zero Go.wp_at_succ
theorem info_op : (Tryz.prog.info? 36).map (fun i => (i.zero, i.size, i.bytes)) = some (some (.agg #[.int .i64 0, .int .i64 0, .int .i64 0]), 3, 24) := by kernel_rfl
section
variable {L : DL} {S : Nat → Prop} {Y : RSt} {w : World} {lab : Nat → Nat} {vo vp : Nat → Value} {vb : Value} {bv : Nat → Value} {t : Nat}
theorem range_later {w w' : World} {b o : Nat} {xs : List Value} (hb : Below w.heap.size w w') (h : w.rangeAt b o xs) : w'.rangeAt b o xs := fun j v hv => cell_later hb (h j v hv)
theorem range_grown {w w' : World} {row : Option Nat} {b o : Nat} {xs : List Value} (hg : w.grownBy w' row) (h : w.rangeAt b o xs) (hne : some b ≠ row) : w'.rangeAt b o xs := fun j v hv => hg.cell (h j v hv) hne
theorem range_set {w : World} {a : Addr} {b o : Nat} {xs : List Value} (h : w.rangeAt b o xs) (hne : b ≠ a.block) (u : Value) : (w.setCell a u).rangeAt b o xs := fun j v hv => cell_kept (h j v hv) (.inl hne)
theorem DR.begun (h : DR L S Y w lab vo vp vb bv) (ht : t < L.n) {w2 w4 : World} (hb : Below w.heap.size w w2) (hgr : w2.grownBy w4 (vo t).ownBlock) {g c : Nat} (hg : (vo t).ownBlock = some g ∨ g = w2.heap.size) {op : M.Op}
    (hown : w4.ownsRow 0 36 3 (.slice (some ⟨g, 0, none⟩) ((Y.th t).ops.length + 1) c) ((Y.th t).ops.length + 1) (opcs (Y.th t).ops ++ [.int .i64 op.c, .int .i64 op.a, .int .i64 op.b])) (hg4 : g < w4.heap.size) {w5 : World}
    (h5 : w5 = (((w4.setCell ⟨L.bT t, 0, none⟩ (.slice (some ⟨g, 0, none⟩) ((Y.th t).ops.length + 1) c)).setCell ⟨L.bT t, 6, none⟩ (.int .i64 0)).setCell ⟨L.bT t, 3, none⟩ (.int .i64 1)).setCell ⟨L.bT t, 4, none⟩ (.int .i64 3)) : DLeft L S w (M.rbegin Y t op) w5 := by
  have qt := h.thL t ht
  have hz := hb.size
  have hlt := h.lt _ qt.1
  -- blocks that were not touched
  have old : ∀ k, k < w.heap.size → k ≠ L.bT t → (vo t).ownBlock ≠ some k → w5.heap[k]? = w.heap[k]? := fun k hk h2 h3 => by
    rw [h5, Below.heap_setCell _ _ _ k h2, Below.heap_setCell _ _ _ k h2, Below.heap_setCell _ _ _ k h2, Below.heap_setCell _ _ _ k h2, hgr.block k (by omega) (fun e => h3 e.symm)]
    exact hb.block k hk
  have keep : ∀ k, S k → lab k ≠ 4 * t + 6 → lab k ≠ 4 * t + 4 → w5.heap[k]? = w.heap[k]? := fun k hS h6 h4 => old k (h.lt k hS) (fun e => h4 (by rw [e]; exact qt.2)) (fun e => h6 (h.opL t ht k e).2)
  have r4t : Row w4 (L.bT t) 109 (dth (Y.th t) (L.bF t) L.n (vo t) (vp t)) := (h.th t ht).of_block ((hgr.block _ (by omega) (fun e => by have := (h.opL t ht _ e.symm).2; rw [qt.2] at this; omega)).trans (hb.block _ hlt))
  have r5t : Row w5 (L.bT t) 109 (dth { Y.th t with ops := (Y.th t).ops ++ [op], tries := 0, part := 1, left := 3 } (L.bF t) L.n (.slice (some ⟨g, 0, none⟩) ((Y.th t).ops.length + 1) c) (vp t)) := by
    rw [h5]
    exact (((r4t.set 0 _).set 6 _).set 3 _).set 4 _
  have hgb : g ≠ L.bT t := by
    rcases hg with e | e
    · have := (h.opL t ht g e).2
      exact fun q => by rw [q, qt.2] at this; omega
    · omega
  have hown5 : w5.ownsRow 0 36 3 (.slice (some ⟨g, 0, none⟩) ((Y.th t).ops.length + 1) c) ((Y.th t).ops.length + 1) (opcs (Y.th t).ops ++ [.int .i64 op.c, .int .i64 op.a, .int .i64 op.b]) := by
    rw [h5]
    refine owns_block hown fun k e => ?_
    have e : g = k := by simpa [Value.ownBlock] using e
    subst e
    rw [Below.heap_setCell _ _ _ g hgb, Below.heap_setCell _ _ _ g hgb, Below.heap_setCell _ _ _ g hgb, Below.heap_setCell _ _ _ g hgb]
  have hz5 : w5.heap.size = w4.heap.size := by rw [h5]; simp [World.setCell]
  have hS : ∀ k, S k → Grow S w w5 k ∧ lab3 lab w (4 * t + 6) k = lab k := fun k hS => ⟨.inl hS, lab3_old (h.lt k hS)⟩
  refine ⟨⟨lab3 lab w (4 * t + 6), upd vo t (.slice (some ⟨g, 0, none⟩) ((Y.th t).ops.length + 1) c), upd vp t (vp t), vb, bv, ?_⟩, ?_⟩
  · refine DR.move (bs' := Y.bs) h ht (fun k hS h0 h2 h4 _ h6 => keep k hS h6 h4) hS (fun k hk => ?_) (h.obj.of_block (keep _ h.obL.1 (by rw [h.obL.2]; omega) (by rw [h.obL.2]; omega))) r5t ?_ ?_ ?_ ?_ ?_ ?_ ?_ ?_ ?_
    · rcases hk with hk | hk
      · have := h.lt k hk; have := hgr.size; omega
      · exact hk.2
    · exact (h.fl t ht).of_block (keep _ (h.flL t ht).1 (by rw [(h.flL t ht).2]; omega) (by rw [(h.flL t ht).2]; omega))
    · dsimp only
      rw [opcs_append, List.length_append, List.length_singleton]
      exact hown5
    · intro k e
      have e : g = k := by simpa [Value.ownBlock] using e
      subst e
      rcases hg with q | q
      · exact ⟨.inl (h.opL t ht g q).1, (lab3_old (h.lt g (h.opL t ht g q).1)).trans (h.opL t ht g q).2⟩
      · exact ⟨.inr ⟨by omega, by omega⟩, lab3_new (by omega)⟩
    · exact owns_block h.bat fun k e => keep k (h.baL k e).1 (by rw [(h.baL k e).2]; omega) (by rw [(h.baL k e).2]; omega)
    · intro k e
      exact ⟨(hS k (h.baL k e).1).1, (hS k (h.baL k e).1).2.trans (h.baL k e).2⟩
    · exact fun i hi => (h.bts i hi).of_block fun k e => keep k (h.btL i hi k e).1 (by rw [(h.btL i hi k e).2]; omega) (by rw [(h.btL i hi k e).2]; omega)
    · exact fun i hi k e => ⟨(hS k (h.btL i hi k e).1).1, (hS k (h.btL i hi k e).1).2.trans (h.btL i hi k e).2⟩
    · exact (h.pnd t ht).of_block fun k e => keep k (h.pnL t ht k e).1 (by rw [(h.pnL t ht k e).2]; omega) (by rw [(h.pnL t ht k e).2]; omega)
    · intro k e
      exact ⟨(hS k (h.pnL t ht k e).1).1, (hS k (h.pnL t ht k e).1).2.trans (h.pnL t ht k e).2⟩
  · refine ⟨?_, ?_, ?_, ?_, ?_⟩
    · rw [h5]; exact hgr.os.trans hb.os
    · rw [h5]; exact hgr.tape.trans hb.tape
    · rw [h5]; exact hgr.output.trans hb.output
    · have := hgr.size; omega
    · intro k hk hS
      exact old k hk (fun e => hS (e ▸ qt.1)) (fun e => hS (h.opL t ht k e).1)
set_option maxHeartbeats 400000 in
theorem docBegin_bad (h : DR L S Y w lab vo vp vb bv) (x : Int) (hx : ¬ (0 ≤ x ∧ x < L.n)) (op : M.Op) :
    Calls Tryz.prog 43 #[.pointer (some ⟨L.b, 0, none⟩), .int .i64 x, .agg #[.int .i64 op.c, .int .i64 op.a, .int .i64 op.b]] w fun e w' => e = .returned (.int .i64 3) ∧ Below w.heap.size w w' := by
  have c7 : w.cell? ⟨L.b, 7, none⟩ = some (.slice (some ⟨L.g, 0, none⟩) L.n L.gc) := h.ocell rfl
  have c7' := fun ob => cell_new c7 ob
  have hn := h.n64
  clear h
  by_cases h0 : x < 0
  · go_enter Tryz.func43, Tryz.ntmps43
    go_wp2
    go_ret
    exact ⟨rfl, below_alloc _ _⟩
  · have h1 : (L.n : Int) ≤ x := by omega
    clear hx
    go_enter Tryz.func43, Tryz.ntmps43
    go_wp2
    go_ret
    exact ⟨rfl, below_alloc _ _⟩
set_option maxHeartbeats 400000 in
theorem docBegin_busy (h : DR L S Y w lab vo vp vb bv) (ht : t < L.n) (hp : (Y.th t).part ≠ 0) (op : M.Op) :
    Calls Tryz.prog 43 #[.pointer (some ⟨L.b, 0, none⟩), .int .i64 (t : Int), .agg #[.int .i64 op.c, .int .i64 op.a, .int .i64 op.b]] w fun e w' => e = .returned (.int .i64 4) ∧ Below w.heap.size w w' := by
  have c7' := fun ob => cell_new (show w.cell? ⟨L.b, 7, none⟩ = some (.slice (some ⟨L.g, 0, none⟩) L.n L.gc) from h.ocell rfl) ob
  have hn := h.n64
  have cp := fun ob => cell_new (h.ptr t ht) ob
  have t3 := fun ob => cell_new (show w.cell? ⟨L.bT t, 3, none⟩ = some (.int .i64 ((Y.th t).part : Int)) from h.tcell ht rfl) ob
  have hp0 : ¬ ((Y.th t).part : Int) = 0 := by omega
  have ht0 : (0 : Int) ≤ (t : Int) := by omega
  have ht1 : (t : Int) < (L.n : Int) := by omega
  have ht2 : ¬ (L.n : Int) ≤ (t : Int) := by omega
  clear h
  go_enter Tryz.func43, Tryz.ntmps43
  go_wp2
  go_ret
  exact ⟨rfl, below_alloc _ _⟩
set_option maxRecDepth 20000 in
set_option maxHeartbeats 4000000 in
theorem docBegin_idle (h : DR L S Y w lab vo vp vb bv) (ht : t < L.n) (hp : (Y.th t).part = 0) (op : M.Op) (hO : (Y.th t).ops.length ≤ 1000000000) :
    Calls Tryz.prog 43 #[.pointer (some ⟨L.b, 0, none⟩), .int .i64 (t : Int), .agg #[.int .i64 op.c, .int .i64 op.a, .int .i64 op.b]] w fun e w' => e = .returned (.int .i64 0) ∧ DLeft L S w (M.rbegin Y t op) w' := by
  obtain ⟨si, hsi, hsz⟩ := Option.map_eq_some_iff.1 info_op
  simp only [Prod.mk.injEq] at hsz
  obtain ⟨hs1, hs2, hs3⟩ := hsz
  have HSI := hide hsi
  have HS1 := hide hs1
  have HS2 := hide hs2
  have HS3 := hide hs3
  clear hsi hs1 hs2 hs3
  have hn := h.n64
  have ht0 : (0 : Int) ≤ (t : Int) := by omega
  have ht1 : (t : Int) < (L.n : Int) := by omega
  have ht2 : ¬ (L.n : Int) ≤ (t : Int) := by omega
  have hvlt : ∀ k, (vo t).ownBlock = some k → k < w.heap.size := fun k e => h.lt k (h.opL t ht k e).1
  have htl := (h.th t ht).lt
  have HH := hide h
  clear h
  go_enter Tryz.func43, Tryz.ntmps43
  go_upto_region 1 with fail
  generalize hW0 : World.alloc w _ = W0 at *
  have hb0 : Below w.heap.size w W0 := by rw [← hW0]; exact below_alloc _ _
  have hbox : Row W0 w.heap.size 36 [.int .i64 op.c, .int .i64 op.a, .int .i64 op.b] := by rw [← hW0]; exact Row.new' rfl
  have hz0 : w.heap.size < W0.heap.size := hbox.lt
  have c7 : W0.cell? ⟨L.b, 7, none⟩ = some (.slice (some ⟨L.g, 0, none⟩) L.n L.gc) := cell_later hb0 (HH.out.ocell rfl)
  have cp := cell_later hb0 (HH.out.ptr t ht)
  have t3 : W0.cell? ⟨L.bT t, 3, none⟩ = some (.int .i64 ((Y.th t).part : Int)) := cell_later hb0 (HH.out.tcell ht rfl)
  rw [hp] at t3
  have cv : W0.cell? ⟨L.bT t, 0, none⟩ = some (vo t) := cell_later hb0 (HH.out.tcell ht rfl)
  have hth : W0.there (L.bT t) 0 1 := there_later hb0 ((HH.out.th t ht).there (by simp [dth]))
  have hneT : some (L.bT t) ≠ (vo t).ownBlock := fun e => by have h1 := (HH.out.opL t ht _ e.symm).2; have h2 := (HH.out.thL t ht).2; rw [h2] at h1; omega
  have hneB : some w.heap.size ≠ (vo t).ownBlock := fun e => by have := hvlt _ e.symm; omega
  have hsz : (Tryz.prog.info? 106).map (·.size) = some 1 := by kernel_rfl
  have hszo : (Tryz.prog.info? 36).map (·.size) = some 3 := by kernel_rfl
  have HCV := hide cv
  have HB0 := hide hb0
  have rB : W0.rangeAt w.heap.size 0 [.int .i64 op.c, .int .i64 op.a, .int .i64 op.b] := fun j v hv => by rw [Nat.zero_add]; exact hbox.cell_of hv
  have HOW := hide (owns_later (HH.out.ops t ht) hb0)
  clear hbox cv hb0 hW0
  go_upto_region 6 with fail
  refine rg0 (S := (fun w' => w'.rangeAt w.heap.size 0 [.int .i64 op.c, .int .i64 op.a, .int .i64 op.b] ∧ w'.there (L.bT t) 0 1)) 11 rfl (by kernel_rfl) ?_ (fun hHeld => ?_)
  · exact ⟨rB, hth⟩
  iterate 4 (refine tk 10 (by rfl) (by kernel_rfl) (by exact fun _ _ _ h => h) (.inl ⟨by rfl, fun w hS => by (try dsimp only at hS); go_simp; (try with_reducible rfl)⟩) (by assumption) ?_; try go_frame)
  refine wpAnyH_ready (rs := [4, 5]) (by kernel_rfl) (by simp) (rc (by rfl) (fun K hK => ?_) (rc (by rfl) (fun K hK => ?_) AllReadyH.nil))
  · rw [if_pos (by rfl)]
    refine wp_load_one _ _ rfl _ _ (vo t) rfl (by kernel_rfl) (by refine cell_later ?_ HCV.out; repeat (first | exact Below.refl _ _ | refine Below.drew ?_ | refine Below.alloc ?_ (by first | (simp; done) | (simp; omega)) _)) ?_
    refine hK.out _ _ ?_ (fun hHeld => ?_)
    · exact hHeld
    clear hK K
    (try go_frame)
    refine rd1 5 (by rfl) (by kernel_rfl) (fun K hK => ?_)
    rw [if_pos (by rfl)]
    refine wp_load_mid 36 (.tmp 5) rfl w.heap.size 0 rfl [.int .i64 op.c, .int .i64 op.a, .int .i64 op.b] _ ?_ Tryz.underlying36 rfl ?_ ?_
    · exact hHeld.1
    · exact hszo
    refine hK.out _ _ ?_ (fun hHeld => ?_)
    · exact hHeld
    clear hK K
    (try go_frame)
    refine rd1 6 (by rfl) (by kernel_rfl) (fun K hK => ?_)
    go_simp
    refine hK.out _ _ ?_ (fun hHeld => ?_)
    · exact ⟨range_later (below_alloc _ _) hHeld.1, World.there_alloc hHeld.2 _⟩
    clear hK K
    (try go_frame)
    refine rd1 7 (by rfl) (by kernel_rfl) (fun K hK => ?_)
    refine step_append_lies _ rfl (.tmp 35) (.tmp 37) 106 rfl 0 36 si (.agg #[.int .i64 0, .int .i64 0, .int .i64 0]) 3 24 Tryz.underlying106 HSI.out HS1.out HS2.out HS3.out rfl (by decide) (vo t) (Y.th t).ops.length (opcs (Y.th t).ops) rfl ?_ ⟨W0.heap.size, 0, none⟩ 1 1 [.int .i64 op.c, .int .i64 op.a, .int .i64 op.b] rfl rfl ?_ (by simp [Value.oneCell']) (by decide) (by unfold maxLen; omega) (by omega) (Nat.zero_le _) _ rfl ?_
    · exact HOW.out.alloc _
    · exact World.news_of_block (Row.new' (by simp))
    intro g gc w4 hown hgr hat hlt4
    have HO := hide hown
    have HG := hide hgr
    have HA := hide hat
    have hl4 := hlt4
    clear hown hgr hat hlt4
    refine hK.out _ _ ?_ (fun hHeld => ?_)
    · exact ⟨range_grown HG.out hHeld.1 hneB, (keepG9 HG.out ⟨hHeld.1 0 _ rfl, hHeld.2⟩ hneT hneB).2⟩
    clear hK K
    (try go_frame)
    iterate 2 (refine tk 10 (by rfl) (by kernel_rfl) (by exact fun _ _ _ h => h) (.inl ⟨by rfl, fun w hS => by (try dsimp only at hS); go_simp; (try with_reducible rfl)⟩) (by assumption) ?_; try go_frame)
    refine rd1 10 (by rfl) (by kernel_rfl) (fun K hK => ?_)
    rw [if_pos (by rfl)]
    refine wp_store_one _ _ _ rfl (L.bT t) 0 (.slice (some ⟨g, 0, none⟩) ((Y.th t).ops.length + 1) gc) rfl rfl rfl rfl hHeld.2 hsz ?_
    refine hK.out _ _ ?_ (fun hHeld => ?_)
    · exact ⟨range_set hHeld.1 (by simp; omega) _, there_set hHeld.2 _ rfl _⟩
    clear hK K
    (try go_frame)
    refine wpAnyH_done (by kernel_rfl) ?_ _
    have hBel := Below.next HB0.out (Below.drew (below_alloc W0 (.cells #[.int .i64 op.c, .int .i64 op.a, .int .i64 op.b] 36))) HB0.out.size
    have hr4 : Row w4 (L.bT t) 109 (dth (Y.th t) (L.bF t) L.n (vo t) (vp t)) := ((HH.out.th t ht).old hBel).of_block (HG.out.block _ (by simp; omega) hneT)
    have hr5 := hr4.set 0 (.slice (some ⟨g, 0, none⟩) ((Y.th t).ops.length + 1) gc)
    have x6 := hr5.cell_of (i := 6) rfl
    have x3 := hr5.cell_of (i := 3) rfl
    have x4 := hr5.cell_of (i := 4) rfl
    have y6 := hr5.frozen 6
    have y3 := hr5.frozen 3
    have y4 := hr5.frozen 4
    have hBG := hide (DR.begun HH.out ht hBel HG.out HA.out HO.out hl4 rfl)
    clear hr4 hr5 hHeld HG HA HO hBel
    generalize World.setCell w4 ⟨L.bT t, 0, none⟩ (.slice (some ⟨g, 0, none⟩) ((Y.th t).ops.length + 1) gc) = W5 at *
    go_wp2_with fail
    go_ret
    exact ⟨rfl, hBG.out⟩
  · rw [if_pos (by rfl)]
    refine wp_load_mid 36 (.tmp 5) rfl w.heap.size 0 rfl [.int .i64 op.c, .int .i64 op.a, .int .i64 op.b] _ ?_ Tryz.underlying36 rfl ?_ ?_
    · exact hHeld.1
    · exact hszo
    refine hK.out _ _ ?_ (fun hHeld => ?_)
    · exact hHeld
    clear hK K
    (try go_frame)
    refine wpAnyH_ready (rs := [4, 6]) (by kernel_rfl) (by simp) (rc (by rfl) (fun K hK => ?_) (rc (by rfl) (fun K hK => ?_) AllReadyH.nil))
    · rw [if_pos (by rfl)]
      refine wp_load_one _ _ rfl _ _ (vo t) rfl (by kernel_rfl) (by refine cell_later ?_ HCV.out; repeat (first | exact Below.refl _ _ | refine Below.drew ?_ | refine Below.alloc ?_ (by first | (simp; done) | (simp; omega)) _)) ?_
      refine hK.out _ _ ?_ (fun hHeld => ?_)
      · exact hHeld
      clear hK K
      (try go_frame)
      refine rd1 6 (by rfl) (by kernel_rfl) (fun K hK => ?_)
      go_simp
      refine hK.out _ _ ?_ (fun hHeld => ?_)
      · exact ⟨range_later (below_alloc _ _) hHeld.1, World.there_alloc hHeld.2 _⟩
      clear hK K
      (try go_frame)
      refine rd1 7 (by rfl) (by kernel_rfl) (fun K hK => ?_)
      refine step_append_lies _ rfl (.tmp 35) (.tmp 37) 106 rfl 0 36 si (.agg #[.int .i64 0, .int .i64 0, .int .i64 0]) 3 24 Tryz.underlying106 HSI.out HS1.out HS2.out HS3.out rfl (by decide) (vo t) (Y.th t).ops.length (opcs (Y.th t).ops) rfl ?_ ⟨W0.heap.size, 0, none⟩ 1 1 [.int .i64 op.c, .int .i64 op.a, .int .i64 op.b] rfl rfl ?_ (by simp [Value.oneCell']) (by decide) (by unfold maxLen; omega) (by omega) (Nat.zero_le _) _ rfl ?_
      · exact HOW.out.alloc _
      · exact World.news_of_block (Row.new' (by simp))
      intro g gc w4 hown hgr hat hlt4
      have HO := hide hown
      have HG := hide hgr
      have HA := hide hat
      have hl4 := hlt4
      clear hown hgr hat hlt4
      refine hK.out _ _ ?_ (fun hHeld => ?_)
      · exact ⟨range_grown HG.out hHeld.1 hneB, (keepG9 HG.out ⟨hHeld.1 0 _ rfl, hHeld.2⟩ hneT hneB).2⟩
      clear hK K
      (try go_frame)
      iterate 2 (refine tk 10 (by rfl) (by kernel_rfl) (by exact fun _ _ _ h => h) (.inl ⟨by rfl, fun w hS => by (try dsimp only at hS); go_simp; (try with_reducible rfl)⟩) (by assumption) ?_; try go_frame)
      refine rd1 10 (by rfl) (by kernel_rfl) (fun K hK => ?_)
      rw [if_pos (by rfl)]
      refine wp_store_one _ _ _ rfl (L.bT t) 0 (.slice (some ⟨g, 0, none⟩) ((Y.th t).ops.length + 1) gc) rfl rfl rfl rfl hHeld.2 hsz ?_
      refine hK.out _ _ ?_ (fun hHeld => ?_)
      · exact ⟨range_set hHeld.1 (by simp; omega) _, there_set hHeld.2 _ rfl _⟩
      clear hK K
      (try go_frame)
      refine wpAnyH_done (by kernel_rfl) ?_ _
      have hBel := Below.next HB0.out (Below.drew (below_alloc W0 (.cells #[.int .i64 op.c, .int .i64 op.a, .int .i64 op.b] 36))) HB0.out.size
      have hr4 : Row w4 (L.bT t) 109 (dth (Y.th t) (L.bF t) L.n (vo t) (vp t)) := ((HH.out.th t ht).old hBel).of_block (HG.out.block _ (by simp; omega) hneT)
      have hr5 := hr4.set 0 (.slice (some ⟨g, 0, none⟩) ((Y.th t).ops.length + 1) gc)
      have x6 := hr5.cell_of (i := 6) rfl
      have x3 := hr5.cell_of (i := 3) rfl
      have x4 := hr5.cell_of (i := 4) rfl
      have y6 := hr5.frozen 6
      have y3 := hr5.frozen 3
      have y4 := hr5.frozen 4
      have hBG := hide (DR.begun HH.out ht hBel HG.out HA.out HO.out hl4 rfl)
      clear hr4 hr5 hHeld HG HA HO hBel
      generalize World.setCell w4 ⟨L.bT t, 0, none⟩ (.slice (some ⟨g, 0, none⟩) ((Y.th t).ops.length + 1) gc) = W5 at *
      go_wp2_with fail
      go_ret
      exact ⟨rfl, hBG.out⟩
    · go_simp
      refine hK.out _ _ ?_ (fun hHeld => ?_)
      · exact ⟨range_later (below_alloc _ _) hHeld.1, World.there_alloc hHeld.2 _⟩
      clear hK K
      (try go_frame)
      refine rd1 4 (by rfl) (by kernel_rfl) (fun K hK => ?_)
      rw [if_pos (by rfl)]
      refine wp_load_one _ _ rfl _ _ (vo t) rfl (by kernel_rfl) (by refine cell_later ?_ HCV.out; repeat (first | exact Below.refl _ _ | refine Below.drew ?_ | refine Below.alloc ?_ (by first | (simp; done) | (simp; omega)) _)) ?_
      refine hK.out _ _ ?_ (fun hHeld => ?_)
      · exact hHeld
      clear hK K
      (try go_frame)
      refine rd1 7 (by rfl) (by kernel_rfl) (fun K hK => ?_)
      refine step_append_lies _ rfl (.tmp 35) (.tmp 37) 106 rfl 0 36 si (.agg #[.int .i64 0, .int .i64 0, .int .i64 0]) 3 24 Tryz.underlying106 HSI.out HS1.out HS2.out HS3.out rfl (by decide) (vo t) (Y.th t).ops.length (opcs (Y.th t).ops) rfl ?_ ⟨W0.heap.size, 0, none⟩ 1 1 [.int .i64 op.c, .int .i64 op.a, .int .i64 op.b] rfl rfl ?_ (by simp [Value.oneCell']) (by decide) (by unfold maxLen; omega) (by omega) (Nat.zero_le _) _ rfl ?_
      · exact HOW.out.alloc _
      · exact World.news_of_block (Row.new' (by simp))
      intro g gc w4 hown hgr hat hlt4
      have HO := hide hown
      have HG := hide hgr
      have HA := hide hat
      have hl4 := hlt4
      clear hown hgr hat hlt4
      refine hK.out _ _ ?_ (fun hHeld => ?_)
      · exact ⟨range_grown HG.out hHeld.1 hneB, (keepG9 HG.out ⟨hHeld.1 0 _ rfl, hHeld.2⟩ hneT hneB).2⟩
      clear hK K
      (try go_frame)
      iterate 2 (refine tk 10 (by rfl) (by kernel_rfl) (by exact fun _ _ _ h => h) (.inl ⟨by rfl, fun w hS => by (try dsimp only at hS); go_simp; (try with_reducible rfl)⟩) (by assumption) ?_; try go_frame)
      refine rd1 10 (by rfl) (by kernel_rfl) (fun K hK => ?_)
      rw [if_pos (by rfl)]
      refine wp_store_one _ _ _ rfl (L.bT t) 0 (.slice (some ⟨g, 0, none⟩) ((Y.th t).ops.length + 1) gc) rfl rfl rfl rfl hHeld.2 hsz ?_
      refine hK.out _ _ ?_ (fun hHeld => ?_)
      · exact ⟨range_set hHeld.1 (by simp; omega) _, there_set hHeld.2 _ rfl _⟩
      clear hK K
      (try go_frame)
      refine wpAnyH_done (by kernel_rfl) ?_ _
      have hBel := Below.next HB0.out (Below.drew (below_alloc W0 (.cells #[.int .i64 op.c, .int .i64 op.a, .int .i64 op.b] 36))) HB0.out.size
      have hr4 : Row w4 (L.bT t) 109 (dth (Y.th t) (L.bF t) L.n (vo t) (vp t)) := ((HH.out.th t ht).old hBel).of_block (HG.out.block _ (by simp; omega) hneT)
      have hr5 := hr4.set 0 (.slice (some ⟨g, 0, none⟩) ((Y.th t).ops.length + 1) gc)
      have x6 := hr5.cell_of (i := 6) rfl
      have x3 := hr5.cell_of (i := 3) rfl
      have x4 := hr5.cell_of (i := 4) rfl
      have y6 := hr5.frozen 6
      have y3 := hr5.frozen 3
      have y4 := hr5.frozen 4
      have hBG := hide (DR.begun HH.out ht hBel HG.out HA.out HO.out hl4 rfl)
      clear hr4 hr5 hHeld HG HA HO hBel
      generalize World.setCell w4 ⟨L.bT t, 0, none⟩ (.slice (some ⟨g, 0, none⟩) ((Y.th t).ops.length + 1) gc) = W5 at *
      go_wp2_with fail
      go_ret
      exact ⟨rfl, hBG.out⟩
end
end Go.Proofs.YtefjhnhdagolhaaGreat
