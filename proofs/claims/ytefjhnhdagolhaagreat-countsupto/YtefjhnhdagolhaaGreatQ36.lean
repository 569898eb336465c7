import Derived.Test.YtefjhnhdagolhaaGreatQ35
namespace Go.Proofs.YtefjhnhdagolhaaGreat
open Go.RowKit
open M (upd upd_same upd_other RSt RTh cnt)
attribute [local go_sem ↓] Go.wp_at_zero Go.wp_at_succ
section
variable {L : DL} {S : Nat → Prop} {Y : RSt} {w : World} {lab : Nat → Nat} {vo vp : Nat → Value} {vb : Value} {bv : Nat → Value} {t : Nat}
theorem half_other (n : Nat) (Y : RSt) (x : RTh) (h : x.part ≠ 6) : half n Y x = { x with left := x.left - 1 } := by unfold half; rw [if_neg h]
theorem half_six (n d : Nat) (Y : RSt) (t : Nat) (x' : RTh) (h : (Y.th t).part = 6) (hd : d = M.tw n - ((Y.th t).left - 1) - 1) (hx : x' = { Y.th t with left := (Y.th t).left - 1 }) :
    { x' with flipped := fun k => if k / 16 = d ∧ k < n then ((Y.set t x').th k).flips else x'.flipped k } = half n Y (Y.th t) := by
  subst hx hd
  unfold half
  rw [if_pos h]
  have : ∀ k, ((Y.set t { Y.th t with left := (Y.th t).left - 1 }).th k).flips = (Y.th k).flips := fun k => by
    unfold M.RSt.set upd
    dsimp only
    split
    · rename_i e; subst e; rfl
    · rfl
  simp only [this]
theorem len_le {n : Nat} {x : RTh} (p : Nat) (hn : n ≤ 64) (hb : x.backoff ≤ 64) (hp : p = 8 → x.pend.length ≤ 64) : x.len n p ≤ 1000 := by
  unfold RTh.len M.wds M.tw
  repeat (first | omega | split)
theorem TLeft.self (h : DR L S Y w lab vo vp vb bv) : TLeft L S Y lab vo vp vb bv w w := ⟨h, Fr.refl _ _, rfl⟩
structure StOk (L : DL) (Y : RSt) (t : Nat) : Prop where
  l1 : 1 ≤ (Y.th t).left
  l2 : (Y.th t).left ≤ (Y.th t).len L.n (Y.th t).part
  ov : OvOk L Y t
theorem OvOk.of_half (o : OvOk L Y t) : OvOk L (Y.set t (half L.n Y (Y.th t))) t := by
  have e : (Y.set t (half L.n Y (Y.th t))).th t = half L.n Y (Y.th t) := set_th _ _ _
  constructor
  · rw [e]; exact o.p1
  · rw [e]; exact o.p11
  · rw [e]; exact o.fl
  · rw [e]; exact o.en
  · rw [e]; exact o.bk
  · exact o.bs
  · rw [e]; exact o.pl
  · intro h7 k hk
    have h7' : (Y.th t).part = 7 := by rw [e] at h7; exact h7
    rw [e, half_other _ _ _ (by omega)]
    exact o.ck h7' k hk
set_option maxRecDepth 20000 in
set_option maxHeartbeats 4000000 in
theorem docStep_busy (h : DR L S Y w lab vo vp vb bv) (ht : t < L.n) (o : StOk L Y t) :
    Calls Tryz.prog 53 #[.pointer (some ⟨L.b, 0, none⟩), .int .i64 (t : Int)] w fun e w' => e = .returned (.tuple #[.int .i64 (endW (M.rstep L.n L.cap Y t).2), .int .i64 0]) ∧ DLeft L S w (M.rstep L.n L.cap Y t).1 w' := by
  have c7 : w.cell? ⟨L.b, 7, none⟩ = some (.slice (some ⟨L.g, 0, none⟩) L.n L.gc) := h.ocell rfl
  have hn := h.n64
  have hn1 := h.n1
  have cp := h.ptr t ht
  have t3 : w.cell? ⟨L.bT t, 3, none⟩ = some (.int .i64 ((Y.th t).part : Int)) := h.tcell ht rfl
  have t4 : w.cell? ⟨L.bT t, 4, none⟩ = some (.int .i64 ((Y.th t).left : Int)) := h.tcell ht rfl
  have f4 := (h.th t ht).frozen 4
  have ht0 : (0 : Int) ≤ (t : Int) := by omega
  have ht1 : (t : Int) < (L.n : Int) := by omega
  have ht2 : ¬ (L.n : Int) ≤ (t : Int) := by omega
  have hp0 : ¬ ((Y.th t).part : Int) = 0 := by have := o.ov.p1; omega
  have hl1 := o.l1
  have hlM : (Y.th t).left ≤ 1000000 := by
    have h2 := o.l2
    have h3 := len_le (n := L.n) (x := Y.th t) (Y.th t).part h.n64 (Nat.le_trans o.ov.bk h.c64) (fun q => o.ov.pl (by omega) (by omega))
    omega
  have H1 := hide (h.put ht 4 (.int .i64 (((Y.th t).left - 1 : Nat) : Int)) (x' := { Y.th t with left := (Y.th t).left - 1 }) rfl rfl rfl rfl)
  have HW := hide (show ((((Y.th t).left - 1 : Nat) : Int)) = ((Y.th t).left : Int) - 1 by omega)
  have HO := hide o
  clear h o
  rw [rstep_half]
  by_cases h6 : (Y.th t).part = 6
  · generalize hR : (if 0 < (Y.th t).left - 1 then (Y.set t (half L.n Y (Y.th t)), false) else M.over L.n L.cap Y t (half L.n Y (Y.th t))) = R
    have HR := hide hR
    clear hR
    have htw : M.tw L.n ≤ 4 := by unfold M.tw; omega
    have htl : (Y.th t).left ≤ M.tw L.n := by have := HO.out.l2; rw [h6] at this; simpa [RTh.len] using this
    obtain ⟨d, hd⟩ : ∃ d, d = M.tw L.n - ((Y.th t).left - 1) - 1 := ⟨_, rfl⟩
    have hd16 : 16 * d < L.n := by rw [hd]; unfold M.tw at htl ⊢; omega
    have HDI := hide (show (M.tw L.n : Int) - (((Y.th t).left : Int) - 1) - 1 = (d : Int) by omega)
    have q1 := H1.out.dr
    have HWd := hide (docWord (show DR L S _ _ lab vo vp vb bv from (TLeft.drew (TLeft.self q1)).dr) ht d hd16)
    have HX := hide (half_six L.n d Y t _ h6 hd rfl)
    have HT := hide (TLeft.drew (TLeft.self q1))
    have HC := hide (fun (W : World) (hW : W.cell? ⟨L.b, 1, none⟩ = some (.int .i64 (L.n : Int))) => docWords W hW hn)
    have HC1 := hide (show _ = some (Value.int .i64 (L.n : Int)) from q1.ocell (j := 1) rfl)
    have HC4 := hide (show (w.setCell ⟨L.bT t, 4, none⟩ (.int .i64 (((Y.th t).left - 1 : Nat) : Int))).cell? ⟨L.bT t, 4, none⟩ = some (Value.int .i64 ((((Y.th t).left - 1 : Nat) : Int))) from by rw [q1.tcell ht (j := 4) rfl, set_th])
    rw [← HDI.out] at HWd
    rw [h6] at t3
    rw [HW.out] at H1 HWd HT HC1 HC4
    clear q1 hd hd16 HDI
    generalize hgt : M.tw L.n = tw at *
    clear hgt
    go_enter Tryz.func53, Tryz.ntmps53
    go_upto_region 8 with fail
    generalize World.setCell w _ _ = W1 at *
    have c1 := HC1.out
    have c4 := HC4.out
    refine wp_region_held_drew (S := (fun w' => w'.cell? ⟨L.bT t, 4, none⟩ = some (.int .i64 (((Y.th t).left : Int) - 1)) ∧ w'.cell? ⟨L.b, 1, none⟩ = some (.int .i64 (L.n : Int)))) (by kernel_rfl) ?_ (fun hHeld => ?_)
    · exact ⟨c4, c1⟩
    refine wpAnyH_take (i := 0) (oi := ⟨some 42, .move (.tmp 0), 82, "steps.go:178", #[], none⟩) (v := ?v701) rfl (by kernel_rfl) (by kernel_rfl) (by kernel_rfl) (fun _ _ _ h => h) (Or.inl ⟨by rfl, ?hy701⟩) (by assumption) ?rest701
    case hy701 => (intro w hSw; (try dsimp only at hSw); go_simp; (try with_reducible rfl))
    (try go_frame)
    refine wpAnyH_take (i := 1) (oi := ⟨some 43, .move (.tmp 6), 107, "steps.go:178", #[], none⟩) (v := ?v702) rfl (by kernel_rfl) (by kernel_rfl) (by kernel_rfl) (fun _ _ _ h => h) (Or.inl ⟨by rfl, ?hy702⟩) (by assumption) ?rest702
    case hy702 => (intro w hSw; (try dsimp only at hSw); go_simp; (try with_reducible rfl))
    (try go_frame)
    refine wpAnyH_take (i := 2) (oi := ⟨some 44, .move (.tmp 0), 82, "steps.go:178", #[], none⟩) (v := ?v703) rfl (by kernel_rfl) (by kernel_rfl) (by kernel_rfl) (fun _ _ _ h => h) (Or.inl ⟨by rfl, ?hy703⟩) (by assumption) ?rest703
    case hy703 => (intro w hSw; (try dsimp only at hSw); go_simp; (try with_reducible rfl))
    (try go_frame)
    refine wpAnyH_take (i := 4) (oi := ⟨some 46, .move (.tmp 6), 107, "steps.go:178", #[], none⟩) (v := ?v704) rfl (by kernel_rfl) (by kernel_rfl) (by kernel_rfl) (fun _ _ _ h => h) (Or.inl ⟨by rfl, ?hy704⟩) (by assumption) ?rest704
    case hy704 => (intro w hSw; (try dsimp only at hSw); go_simp; (try with_reducible rfl))
    (try go_frame)
    refine wpAnyH_take (i := 5) (oi := ⟨some 47, .nilCheck (.tmp 46), 0, "steps.go:178", #[⟨4, .data⟩], none⟩) (v := ?v705) rfl (by kernel_rfl) (by kernel_rfl) (by kernel_rfl) (fun _ _ _ h => h) (Or.inl ⟨by rfl, ?hy705⟩) (by assumption) ?rest705
    case hy705 => (intro w hSw; (try dsimp only at hSw); go_simp; (try with_reducible rfl))
    (try go_frame)
    refine wpAnyH_take (i := 6) (oi := ⟨some 48, .fieldAddr 109 (.tmp 47) 4, 0, "steps.go:178", #[⟨5, .data⟩], none⟩) (v := ?v706) rfl (by kernel_rfl) (by kernel_rfl) (by kernel_rfl) (fun _ _ _ h => h) (Or.inl ⟨by rfl, ?hy706⟩) (by assumption) ?rest706
    case hy706 => (intro w hSw; (try dsimp only at hSw); go_simp; (try with_reducible rfl))
    (try go_frame)
    refine wpAnyH_take (i := 7) (oi := ⟨some 49, .load 3 (.tmp 48), 3, "steps.go:178", #[⟨6, .data⟩], none⟩) (v := ?v707) rfl (by kernel_rfl) (by kernel_rfl) (by kernel_rfl) (fun _ _ _ h => h) (Or.inl ⟨by rfl, ?hy707⟩) (by assumption) ?rest707
    case hy707 => (intro w hSw; (try dsimp only at hSw); go_simp; (try with_reducible rfl))
    (try go_frame)
    refine wpAnyH_ready (rs := [3]) (by kernel_rfl) (by simp) ?_
    refine AllReadyH.cons (o := ⟨some 45, .call ⟨.value (.func 86), #[.tmp 44], #[82]⟩, 3, "steps.go:178", #[⟨2, .data⟩], none⟩) (by rfl) (fun K hK => ?_) AllReadyH.nil
    go_simp
    refine (HC.out _ hHeld.2).mono ?_
    rintro e w2 ⟨rfl, rfl⟩
    go_wp2_with fail
    refine hK.out _ _ ?_ (fun hHeld => ?_)
    · exact hHeld
    clear hK K
    (try go_frame)
    refine wpAnyH_take (i := 8) (oi := ⟨some 50, .binOp .sub 3 (.tmp 45) (.tmp 49) 3, 3, "steps.go:178", #[⟨3, .data⟩, ⟨7, .data⟩], none⟩) (v := ?v708) rfl (by kernel_rfl) (by kernel_rfl) (by kernel_rfl) (fun _ _ _ h => h) (Or.inl ⟨by rfl, ?hy708⟩) (by assumption) ?rest708
    case hy708 => (intro w hSw; (try dsimp only at hSw); go_simp; (try with_reducible rfl))
    (try go_frame)
    refine wpAnyH_take (i := 9) (oi := ⟨some 51, .binOp .sub 3 (.tmp 50) (.const (.int .i64 1)) 3, 3, "steps.go:178", #[⟨8, .data⟩], none⟩) (v := ?v709) rfl (by kernel_rfl) (by kernel_rfl) (by kernel_rfl) (fun _ _ _ h => h) (Or.inl ⟨by rfl, ?hy709⟩) (by assumption) ?rest709
    case hy709 => (intro w hSw; (try dsimp only at hSw); go_simp; (try with_reducible rfl))
    (try go_frame)
    refine wpAnyH_ready (rs := [10]) (by kernel_rfl) (by simp) ?_
    refine AllReadyH.cons (o := ⟨some 52, .call ⟨.value (.func 85), #[.tmp 42, .tmp 43, .tmp 51], #[82, 107, 3]⟩, 0, "steps.go:178", #[⟨0, .data⟩, ⟨1, .data⟩, ⟨9, .data⟩, ⟨3, .chain⟩], none⟩) (by rfl) (fun K hK => ?_) AllReadyH.nil
    go_simp
    rw [wrapi ((tw : Int) - (((Y.th t).left : Int) - 1)) (by omega) (by omega), wrapi ((tw : Int) - (((Y.th t).left : Int) - 1) - 1) (by omega) (by omega)]
    with_reducible refine HWd.out.mono ?_
    rintro e w3 ⟨rfl, h3⟩
    have h4 : TLeft L S (Y.set t (half L.n Y (Y.th t))) lab vo vp vb bv w w3 := H1.out.next (HT.out.next (h3.cast (by rw [set_th, set_set, HX.out])))
    have k4 : w3.cell? ⟨L.bT t, 4, none⟩ = some (.int .i64 (((Y.th t).left : Int) - 1)) := by rw [h4.dr.tcell ht (j := 4) rfl, set_th, ← HW.out]; rfl
    have k1 : w3.cell? ⟨L.b, 1, none⟩ = some (.int .i64 (L.n : Int)) := h4.dr.ocell rfl
    have H4 := hide h4
    clear h3 h4
    go_wp2_with fail
    refine hK.out _ _ ?_ (fun hHeld => ?_)
    · exact ⟨k4, k1⟩
    clear hK K
    (try go_frame)
    refine wpAnyH_done (by kernel_rfl) ?_ _
    obtain ⟨e4, -⟩ := hHeld
    by_cases hl : 0 < (Y.th t).left - 1
    · have eR : R = (Y.set t (half L.n Y (Y.th t)), false) := by rw [← HR.out, if_pos hl]
      clear HR
      subst eR
      have hl' : (0 : Int) < ((Y.th t).left : Int) - 1 := by omega
      go_wp2_with fail
      exact bodyPost_ret (v := .tuple #[.int .i64 1, .int .i64 0]) (by simp [results, Tryz.results53, go_sem]) rfl ⟨rfl, H4.out.left⟩
    · have eR : R = M.over L.n L.cap Y t (half L.n Y (Y.th t)) := by rw [← HR.out, if_neg hl]
      clear HR
      subst eR
      have hl' : ((Y.th t).left : Int) - 1 = 0 := by omega
      have HV2 := docOver H4.out.dr ht HO.out.ov.of_half
      rw [set_th, M.over_set] at HV2
      have HV3 := hide HV2
      rw [hl'] at e4
      clear HV2 HO hl' hl1 hlM
      go_wp2_with fail
      refine HV3.out.mono ?_
      rintro e w5 ⟨rfl, h5⟩
      have H5 := hide (H4.out.then h5)
      clear h5
      go_wp2_with fail
      exact bodyPost_ret (v := .tuple #[.int .i64 (endW (M.over L.n L.cap Y t (half L.n Y (Y.th t))).2), .int .i64 0]) (by simp [results, Tryz.results53, go_sem]) rfl ⟨rfl, H5.out⟩
  · have hh := half_other L.n Y (Y.th t) h6
    have h6' : ¬ ((Y.th t).part : Int) = 6 := by omega
    rw [← hh] at H1
    clear hh
    by_cases hl : 0 < (Y.th t).left - 1
    · simp only [if_pos hl]
      have hl' : (0 : Int) < ((Y.th t).left : Int) - 1 := by omega
      rw [HW.out] at H1
      go_enter Tryz.func53, Tryz.ntmps53
      go_wp2_with fail
      exact bodyPost_ret (v := .tuple #[.int .i64 1, .int .i64 0]) (by simp [results, Tryz.results53, go_sem]) rfl ⟨rfl, H1.out.left⟩
    · have hl' : ((Y.th t).left : Int) - 1 = 0 := by omega
      simp only [if_neg hl]
      have HV := hide (docOver H1.out.dr ht HO.out.ov.of_half)
      have HV2 := HV.out
      rw [set_th, M.over_set] at HV2
      have HV3 := hide HV2
      clear HV HV2
      rw [HW.out, hl'] at H1 HV3
      have hl'' : ((Y.th t).left : Int) = 1 := by omega
      rw [hl''] at t4
      clear HO hl' hl'' hl1 hlM
      go_enter Tryz.func53, Tryz.ntmps53
      go_wp2_with fail
      refine HV3.out.mono ?_
      rintro e w3 ⟨rfl, h3⟩
      have H4 := hide (H1.out.then h3)
      clear h3
      go_wp2_with fail
      exact bodyPost_ret (v := .tuple #[.int .i64 (endW (M.over L.n L.cap Y t (half L.n Y (Y.th t))).2), .int .i64 0]) (by simp [results, Tryz.results53, go_sem]) rfl ⟨rfl, H4.out⟩
end
end Go.Proofs.YtefjhnhdagolhaaGreat
