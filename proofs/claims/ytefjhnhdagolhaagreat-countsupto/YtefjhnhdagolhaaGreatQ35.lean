import Derived.Test.YtefjhnhdagolhaaGreatQ34
namespace Go.Proofs.YtefjhnhdagolhaaGreat
open Go.RowKit
open M (upd upd_same upd_other RSt RTh cnt)
attribute [local go_sem ↓] Go.wp_at_zero Go.wp_at_succ
section
variable {L : DL} {S : Nat → Prop} {Y : RSt} {w : World} {lab : Nat → Nat} {vo vp : Nat → Value} {vb : Value} {bv : Nat → Value} {t : Nat}
theorem CkI.left {w' : World} {l : List Nat} {v : Value} (q : CkI L t (Y.th t) vo w w' l v) (h : DR L S Y w lab vo vp vb bv) (ht : t < L.n) : DLeft L S w (Y.set t { Y.th t with pend := l }) w' :=
  ⟨⟨_, _, _, _, _, q.dr h ht rfl rfl⟩, ⟨q.fr.os, q.fr.tape, q.fr.output, q.fr.size, fun k hk hS => q.fr.block k hk fun e => hS (by rw [show k = L.bT t from e]; exact (h.thL t ht).1)⟩⟩
set_option maxRecDepth 20000 in
set_option maxHeartbeats 4000000 in
theorem docOver_fail (h : DR L S Y w lab vo vp vb bv) (ht : t < L.n) (p : Nat) (hp : (Y.th t).part = p) (hpc : p = 7 ∨ p = 10) (hne : Y.bs.length ≠ (Y.th t).stamp) (hb : (Y.th t).backoff ≤ L.cap) :
    Calls Tryz.prog 87 #[.pointer (some ⟨L.b, 0, none⟩), .int .i64 (t : Int)] w fun e w' => e = .returned (.int .i64 1) ∧ DLeft L S w (Y.set t ((Y.th t).fail L.n L.cap)) w' := by
  obtain ⟨⟨a, c, ev⟩, hm⟩ := owns_form h.bat
  have hmx : maxLen = 9223372036854775807 := rfl
  have c7 : w.cell? ⟨L.b, 7, none⟩ = some (.slice (some ⟨L.g, 0, none⟩) L.n L.gc) := h.ocell rfl
  have c8 : w.cell? ⟨L.b, 8, none⟩ = some (.slice a Y.bs.length c) := by have : w.cell? ⟨L.b, 8, none⟩ = some vb := h.ocell rfl; rw [ev] at this; exact this
  have cp := h.ptr t ht
  have ht0 : (0 : Int) ≤ (t : Int) := by omega
  have ht1 : (t : Int) < (L.n : Int) := by omega
  have t3 : w.cell? ⟨L.bT t, 3, none⟩ = some (.int .i64 ((Y.th t).part : Int)) := h.tcell ht rfl
  have t7 : w.cell? ⟨L.bT t, 7, none⟩ = some (.int .i64 ((Y.th t).stamp : Int)) := h.tcell ht rfl
  rw [hp] at t3
  have hs : ((Y.bs.length : Int) == ((Y.th t).stamp : Int)) = false := by simp; omega
  have HE := hide (fun k => docFail (h.drewN k) ht hb)
  have HR := hide (fun k => TLeft.refl h k)
  clear h hb hne ev
  rcases hpc with rfl | rfl
  all_goals
    go_enter Tryz.func87, Tryz.ntmps87
    go_upto_region 2 with fail
    go_quiet (fail)
    go_wp2_with fail
    refine (HE.out nq).mono ?_
    rintro e w3 ⟨rfl, h3⟩
    have H4 := hide ((HR.out nq).next h3)
    clear h3
    go_wp2_with fail
    go_ret
    exact ⟨rfl, H4.out.left⟩
set_option maxRecDepth 20000 in
set_option maxHeartbeats 4000000 in
theorem docOver_7 (h : DR L S Y w lab vo vp vb bv) (ht : t < L.n) (hp : (Y.th t).part = 7) (hst : Y.bs.length = (Y.th t).stamp) (hc : ∀ k, k < L.n → cnt Y.bs k ≤ 1000000000 ∧ (Y.th t).flipped k ≤ 1000000000) :
    Calls Tryz.prog 87 #[.pointer (some ⟨L.b, 0, none⟩), .int .i64 (t : Int)] w fun e w' => e = .returned (.int .i64 1) ∧ DLeft L S w (Y.set t (RTh.enter L.n { Y.th t with pend := Y.pending L.n (Y.th t) } (if t ∈ Y.pending L.n (Y.th t) then 8 else 11))) w' := by
  obtain ⟨⟨a, c, ev⟩, hm⟩ := owns_form h.bat
  have hmx : maxLen = 9223372036854775807 := rfl
  have c7 : w.cell? ⟨L.b, 7, none⟩ = some (.slice (some ⟨L.g, 0, none⟩) L.n L.gc) := h.ocell rfl
  have c8 : w.cell? ⟨L.b, 8, none⟩ = some (.slice a Y.bs.length c) := by have : w.cell? ⟨L.b, 8, none⟩ = some vb := h.ocell rfl; rw [ev] at this; exact this
  have cp := h.ptr t ht
  have ht0 : (0 : Int) ≤ (t : Int) := by omega
  have ht1 : (t : Int) < (L.n : Int) := by omega
  have t3 : w.cell? ⟨L.bT t, 3, none⟩ = some (.int .i64 ((Y.th t).part : Int)) := h.tcell ht rfl
  have t7 : w.cell? ⟨L.bT t, 7, none⟩ = some (.int .i64 ((Y.th t).stamp : Int)) := h.tcell ht rfl
  rw [hp] at t3
  have hs : ((Y.bs.length : Int) == ((Y.th t).stamp : Int)) = true := by simp [hst]
  have HE := hide (fun k => docCheck (h.drewN k) ht hc)
  have HH := hide (fun k => h.drewN k)
  have HN := hide (Nat.le_trans (M.pending_len L.n Y (Y.th t)) h.n64)
  have HR := hide (fun k => TLeft.refl h k)
  have HLT := hide h.lt
  clear h hst ev
  go_enter Tryz.func87, Tryz.ntmps87
  go_upto_region 2 with fail
  go_quiet (fail)
  go_wp2_with fail
  refine (HE.out nq).mono ?_
  rintro e w3 ⟨rfl, v, hI⟩
  have hD := hI.dr (HH.out nq) ht rfl rfl
  have HL := hide (DLeft.next (HR.out nq).left (show DLeft L (Grow S w (w.drewN nq)) (w.drewN nq) _ w3 from
    CkI.left hI ((HH.out nq).stay (fun _ _ => rfl) (fun _ => .inl) (fun k hk => by
      rcases hk with hk | hk
      · exact HLT.out k hk
      · exact hk.2)) ht))
  have HD := hide hD
  clear hI hD HE
  have d3 : w3.cell? ⟨L.bT t, 3, none⟩ = some (.int .i64 7) := by have := HD.out.tcell ht (j := 3) rfl; rw [set_th] at this; rw [this, hp]; rfl
  clear hp
  by_cases hmem : t ∈ Y.pending L.n (Y.th t)
  · rw [show decide (t ∈ Y.pending L.n (Y.th t)) = true from decide_eq_true hmem]
    go_wp2_with fail
    refine (docEnter HD.out ht 8 (by decide) (by decide) (fun _ _ => by rw [set_th]; exact HN.out)).mono ?_
    rintro e w4 ⟨rfl, h4⟩
    have H4 := hide (h4.cast (by rw [set_th, set_set]))
    clear h4
    go_wp2_with fail
    go_ret
    refine ⟨rfl, ?_⟩
    exact HL.out.next H4.out.left
  · rw [show decide (t ∈ Y.pending L.n (Y.th t)) = false from decide_eq_false hmem]
    go_wp2_with fail
    refine (docEnter HD.out ht 11 (by decide) (by decide) (fun _ h => absurd h (by decide))).mono ?_
    rintro e w4 ⟨rfl, h4⟩
    have H4 := hide (h4.cast (by rw [set_th, set_set]))
    clear h4
    go_wp2_with fail
    go_ret
    refine ⟨rfl, ?_⟩
    exact HL.out.next H4.out.left
set_option maxRecDepth 20000 in
set_option maxHeartbeats 4000000 in
theorem docOver_10 (h : DR L S Y w lab vo vp vb bv) (ht : t < L.n) (hp : (Y.th t).part = 10) (hst : Y.bs.length = (Y.th t).stamp) (hN : Y.bs.length ≤ 1000000000) (hb : (Y.th t).backoff ≤ L.cap) :
    Calls Tryz.prog 87 #[.pointer (some ⟨L.b, 0, none⟩), .int .i64 (t : Int)] w fun e w' => e = .returned (.int .i64 1) ∧ DLeft L S w ⟨upd Y.th t (RTh.enter L.n { Y.th t with pend := [], backoff := (Y.th t).backoff / 2 } 11), Y.bs ++ [(Y.th t).pend]⟩ w' := by
  obtain ⟨si, hsi, hsz⟩ := Option.map_eq_some_iff.1 info_s22
  simp only [Prod.mk.injEq] at hsz
  obtain ⟨hs1, hs2, hs3⟩ := hsz
  have HSI := hide hsi
  have HS1 := hide hs1
  have HS2 := hide hs2
  have HS3 := hide hs3
  clear hsi hs1 hs2 hs3
  obtain ⟨⟨a, c, ev⟩, hm⟩ := owns_form h.bat
  have hmx : maxLen = 9223372036854775807 := rfl
  have c7 : w.cell? ⟨L.b, 7, none⟩ = some (.slice (some ⟨L.g, 0, none⟩) L.n L.gc) := h.ocell rfl
  have c8 : w.cell? ⟨L.b, 8, none⟩ = some (.slice a Y.bs.length c) := by have : w.cell? ⟨L.b, 8, none⟩ = some vb := h.ocell rfl; rw [ev] at this; exact this
  have cp := h.ptr t ht
  have ht0 : (0 : Int) ≤ (t : Int) := by omega
  have ht1 : (t : Int) < (L.n : Int) := by omega
  have t3 : w.cell? ⟨L.bT t, 3, none⟩ = some (.int .i64 ((Y.th t).part : Int)) := h.tcell ht rfl
  have t7 : w.cell? ⟨L.bT t, 7, none⟩ = some (.int .i64 ((Y.th t).stamp : Int)) := h.tcell ht rfl
  rw [hp] at t3
  have hs : ((Y.bs.length : Int) == ((Y.th t).stamp : Int)) = true := by simp [hst]
  have hcap := h.c64
  have HH := hide h
  have HEV := hide ev
  have HHP := hide hp
  clear h hst ev hp
  go_enter Tryz.func87, Tryz.ntmps87
  go_upto_region 2 with fail
  go_quiet (fail)
  generalize hW0 : w.drewN nq = W0 at *
  have q0 : DR L S Y W0 lab vo vp vb bv := by rw [← hW0]; exact HH.out.drewN nq
  have HQ := hide q0
  have hR0 := hide (show TLeft L S Y lab vo vp vb bv w W0 by rw [← hW0]; exact TLeft.refl HH.out nq)
  have u3 : W0.cell? ⟨L.bT t, 3, none⟩ = some (.int .i64 10) := by rw [← hW0]; exact t3
  have cv : W0.cell? ⟨L.b, 8, none⟩ = some vb := q0.ocell rfl
  have c9 : W0.cell? ⟨L.bT t, 9, none⟩ = some (vp t) := q0.tcell ht rfl
  have hth : W0.there L.b 8 1 := q0.obj.there (by simp [dob, ccs])
  have hneT : some (L.bT t) ≠ vb.ownBlock := fun e => by have h1 := (q0.baL _ e.symm).2; have h2 := (q0.thL t ht).2; rw [h2] at h1; omega
  have hneB : some L.b ≠ vb.ownBlock := fun e => by have h1 := (q0.baL _ e.symm).2; have h2 := q0.obL.2; rw [h2] at h1; omega
  have hbt := q0.ne ht
  obtain ⟨pa, pc, ep⟩ := (q0.pnd t ht).form
  have HEP := hide ep
  have HCV := hide cv
  have hsz : (Tryz.prog.info? 58).map (·.size) = some 1 := by kernel_rfl
  clear q0 cv ep hW0 c7 c8 cp t3 t7
  go_upto_region 21 with fail
  rw [HEP.out] at c9
  refine wp_region_held_drew (S := (fun w' => w'.cell? ⟨L.bT t, 9, none⟩ = some (.slice pa (Y.th t).pend.length pc) ∧ w'.there L.b 8 1)) (by kernel_rfl) ?_ (fun hHeld => ?_)
  · exact ⟨c9, hth⟩
  refine wpAnyH_take (i := 0) (oi := ⟨some 73, .move (.tmp 0), 82, "steps.go:211", #[], none⟩) (v := ?v689) rfl (by kernel_rfl) (by kernel_rfl) (by kernel_rfl) (fun _ _ _ h => h) (Or.inl ⟨by rfl, ?hy689⟩) (by assumption) ?rest689
  case hy689 => (intro w hSw; (try dsimp only at hSw); go_simp; (try with_reducible rfl))
  (try go_frame)
  refine wpAnyH_take (i := 1) (oi := ⟨some 74, .move (.tmp 0), 82, "steps.go:211", #[], none⟩) (v := ?v690) rfl (by kernel_rfl) (by kernel_rfl) (by kernel_rfl) (fun _ _ _ h => h) (Or.inl ⟨by rfl, ?hy690⟩) (by assumption) ?rest690
  case hy690 => (intro w hSw; (try dsimp only at hSw); go_simp; (try with_reducible rfl))
  (try go_frame)
  refine wpAnyH_take (i := 2) (oi := ⟨some 75, .nilCheck (.tmp 74), 0, "steps.go:211", #[⟨1, .data⟩], none⟩) (v := ?v691) rfl (by kernel_rfl) (by kernel_rfl) (by kernel_rfl) (fun _ _ _ h => h) (Or.inl ⟨by rfl, ?hy691⟩) (by assumption) ?rest691
  case hy691 => (intro w hSw; (try dsimp only at hSw); go_simp; (try with_reducible rfl))
  (try go_frame)
  refine wpAnyH_take (i := 3) (oi := ⟨some 76, .fieldAddr 105 (.tmp 75) 2, 0, "steps.go:211", #[⟨2, .data⟩], none⟩) (v := ?v692) rfl (by kernel_rfl) (by kernel_rfl) (by kernel_rfl) (fun _ _ _ h => h) (Or.inl ⟨by rfl, ?hy692⟩) (by assumption) ?rest692
  case hy692 => (intro w hSw; (try dsimp only at hSw); go_simp; (try with_reducible rfl))
  (try go_frame)
  refine wpAnyH_take (i := 5) (oi := ⟨some 78, .move (.tmp 5), 107, "steps.go:211", #[], none⟩) (v := ?v693) rfl (by kernel_rfl) (by kernel_rfl) (by kernel_rfl) (fun _ _ _ h => h) (Or.inl ⟨by rfl, ?hy693⟩) (by assumption) ?rest693
  case hy693 => (intro w hSw; (try dsimp only at hSw); go_simp; (try with_reducible rfl))
  (try go_frame)
  refine wpAnyH_take (i := 6) (oi := ⟨some 79, .nilCheck (.tmp 78), 0, "steps.go:211", #[⟨5, .data⟩], none⟩) (v := ?v694) rfl (by kernel_rfl) (by kernel_rfl) (by kernel_rfl) (fun _ _ _ h => h) (Or.inl ⟨by rfl, ?hy694⟩) (by assumption) ?rest694
  case hy694 => (intro w hSw; (try dsimp only at hSw); go_simp; (try with_reducible rfl))
  (try go_frame)
  refine wpAnyH_take (i := 7) (oi := ⟨some 80, .fieldAddr 109 (.tmp 79) 9, 0, "steps.go:211", #[⟨6, .data⟩], none⟩) (v := ?v695) rfl (by kernel_rfl) (by kernel_rfl) (by kernel_rfl) (fun _ _ _ h => h) (Or.inl ⟨by rfl, ?hy695⟩) (by assumption) ?rest695
  case hy695 => (intro w hSw; (try dsimp only at hSw); go_simp; (try with_reducible rfl))
  (try go_frame)
  refine wpAnyH_take (i := 8) (oi := ⟨some 81, .load 22 (.tmp 80), 22, "steps.go:211", #[⟨7, .data⟩], none⟩) (v := ?v696) rfl (by kernel_rfl) (by kernel_rfl) (by kernel_rfl) (fun _ _ _ h => h) (Or.inl ⟨by rfl, ?hy696⟩) (by assumption) ?rest696
  case hy696 => (intro w hSw; (try dsimp only at hSw); go_simp; (try with_reducible rfl))
  (try go_frame)
  refine wpAnyH_ready (rs := [4, 9]) (by kernel_rfl) (by simp) ?_
  refine AllReadyH.cons (o := ⟨some 77, .load 58 (.tmp 76), 58, "steps.go:211", #[⟨3, .data⟩], none⟩) (by rfl) (fun K hK => ?_) (AllReadyH.cons (o := ⟨some 82, .buildSlice 58 1 #[(0, .tmp 81)], 58, "steps.go:211", #[⟨8, .data⟩], none⟩) (by rfl) (fun K hK => ?_) AllReadyH.nil)
  · rw [if_pos (by rfl)]
    refine wp_load_one _ _ rfl _ _ vb rfl (by kernel_rfl) (by refine cell_later ?_ HCV.out; repeat (first | exact Below.refl _ _ | refine Below.drew ?_ | refine Below.alloc ?_ (by first | (simp; done) | (simp; omega)) _)) ?_
    refine hK.out _ _ ?_ (fun hHeld => ?_)
    · exact hHeld
    clear hK K
    (try go_frame)
    refine wpAnyH_ready (rs := [9]) (by kernel_rfl) (by simp) ?_
    refine AllReadyH.cons (o := ⟨some 82, .buildSlice 58 1 #[(0, .tmp 81)], 58, "steps.go:211", #[⟨8, .data⟩], none⟩) (by rfl) (fun K hK => ?_) AllReadyH.nil
    go_simp
    refine hK.out _ _ ?_ (fun hHeld => ?_)
    · exact ⟨cell_later (below_alloc _ _) hHeld.1, World.there_alloc hHeld.2 _⟩
    clear hK K
    (try go_frame)
    refine wpAnyH_ready (rs := [10]) (by kernel_rfl) (by simp) ?_
    refine AllReadyH.cons (o := ⟨some 83, .call ⟨.builtin .append, #[.tmp 77, .tmp 82], #[58, 58]⟩, 58, "steps.go:211", #[⟨4, .data⟩, ⟨9, .data⟩], none⟩) (by rfl) (fun K hK => ?_) AllReadyH.nil
    refine step_append_lies _ rfl (.tmp 77) (.tmp 82) 58 rfl 0 22 si (.slice none 0 0) 1 24 Tryz.underlying58 HSI.out HS1.out HS2.out HS3.out rfl (by decide) vb Y.bs.length ((List.range Y.bs.length).map bv) rfl ?_ ⟨W0.heap.size, 0, none⟩ 1 1 [.slice pa (Y.th t).pend.length pc] rfl rfl ?_ (by simp [Value.oneCell']) (by decide) (by unfold maxLen; omega) (by omega) (Nat.zero_le _) _ rfl ?_
    · exact HQ.out.bat.alloc _
    · exact World.news_of_block (Row.new' (by simp))
    intro g gc w4 hown hgr hat hlt4
    have HO := hide hown
    have HG := hide hgr
    have HA := hide hat
    have hl4 := hlt4
    clear hown hgr hat hlt4
    refine hK.out _ _ ?_ (fun hHeld => ?_)
    · exact keepG9 HG.out hHeld hneB hneT
    clear hK K
    (try go_frame)
    refine wpAnyH_take (i := 11) (oi := ⟨some 84, .nilCheck (.tmp 73), 0, "steps.go:211", #[⟨0, .data⟩, ⟨0, .phase⟩, ⟨1, .phase⟩, ⟨2, .phase⟩, ⟨3, .phase⟩, ⟨4, .phase⟩, ⟨5, .phase⟩, ⟨6, .phase⟩, ⟨7, .phase⟩, ⟨8, .phase⟩, ⟨9, .phase⟩, ⟨10, .phase⟩], none⟩) (v := ?v697) rfl (by kernel_rfl) (by kernel_rfl) (by kernel_rfl) (fun _ _ _ h => h) (Or.inl ⟨by rfl, ?hy697⟩) (by assumption) ?rest697
    case hy697 => (intro w hSw; (try dsimp only at hSw); go_simp; (try with_reducible rfl))
    (try go_frame)
    refine wpAnyH_take (i := 12) (oi := ⟨some 85, .fieldAddr 105 (.tmp 84) 2, 0, "steps.go:211", #[⟨11, .data⟩, ⟨0, .phase⟩, ⟨1, .phase⟩, ⟨2, .phase⟩, ⟨3, .phase⟩, ⟨4, .phase⟩, ⟨5, .phase⟩, ⟨6, .phase⟩, ⟨7, .phase⟩, ⟨8, .phase⟩, ⟨9, .phase⟩, ⟨10, .phase⟩], none⟩) (v := ?v698) rfl (by kernel_rfl) (by kernel_rfl) (by kernel_rfl) (fun _ _ _ h => h) (Or.inl ⟨by rfl, ?hy698⟩) (by assumption) ?rest698
    case hy698 => (intro w hSw; (try dsimp only at hSw); go_simp; (try with_reducible rfl))
    (try go_frame)
    refine wpAnyH_ready (rs := [13]) (by kernel_rfl) (by simp) ?_
    refine AllReadyH.cons (o := ⟨none, .store 58 (.tmp 85) (.tmp 83), 0, "steps.go:211", #[⟨12, .data⟩, ⟨10, .data⟩, ⟨10, .chain⟩, ⟨0, .phase⟩, ⟨1, .phase⟩, ⟨2, .phase⟩, ⟨3, .phase⟩, ⟨4, .phase⟩, ⟨5, .phase⟩, ⟨6, .phase⟩, ⟨7, .phase⟩, ⟨8, .phase⟩, ⟨9, .phase⟩, ⟨10, .phase⟩], none⟩) (by rfl) (fun K hK => ?_) AllReadyH.nil
    rw [if_pos (by rfl)]
    refine wp_store_one _ _ _ rfl L.b 8 (.slice (some ⟨g, 0, none⟩) (Y.bs.length + 1) gc) rfl rfl rfl rfl hHeld.2 hsz ?_
    refine hK.out _ _ ?_ (fun hHeld => ?_)
    · exact ⟨(World.cell?_setCell_far _ _ _ _ (by simp; omega)).trans hHeld.1, there_set hHeld.2 _ rfl _⟩
    clear hK K
    (try go_frame)
    refine wpAnyH_done (by kernel_rfl) ?_ _
    have hr4 : Row w4 (L.bT t) 109 (dth (Y.th t) (L.bF t) L.n (vo t) (vp t)) := (HQ.out.th t ht).of_block ((HG.out.block _ (by simp; exact Nat.lt_succ_of_lt (HQ.out.th t ht).lt) hneT).trans ((below_alloc _ _).block _ (HQ.out.th t ht).lt))
    have hr5 := hr4.setOther (a := ⟨L.b, 8, none⟩) (by simpa using hbt.symm) (.slice (some ⟨g, 0, none⟩) (Y.bs.length + 1) gc)
    have HR5 := hide hr5
    have x9 := hr5.cell_of (i := 9) rfl
    have x5 : _ = some (Value.int .i64 ((Y.th t).backoff : Int)) := hr5.cell_of (i := 5) rfl
    have x3 : _ = some (Value.int .i64 ((Y.th t).part : Int)) := hr5.cell_of (i := 3) rfl
    have y9 := hr5.frozen 9
    have y5 := hr5.frozen 5
    rw [HHP.out] at x3
    have hPUB := hide (DR.pub HQ.out ht (w2 := _) (Below.drew (below_alloc _ _)) HG.out HA.out (by rw [HEP.out]; exact HO.out) hl4 (x' := { Y.th t with pend := [], backoff := (Y.th t).backoff / 2 }) rfl rfl)
    clear hr4 hr5 hHeld HG HA HO
    generalize World.setCell w4 ⟨L.b, 8, none⟩ (.slice (some ⟨g, 0, none⟩) (Y.bs.length + 1) gc) = W5 at *
    obtain ⟨lab', vo', vp', vb', bv', hD⟩ := hPUB.out.doc
    have HD := hide hD
    clear hD
    go_wp2_with fail
    refine (docEnter HD.out ht 11 (by decide) (by decide) (fun _ h => absurd h (by decide))).mono ?_
    rintro e w6 ⟨rfl, h6⟩
    have H6 := hide (hR0.out.then (hPUB.out.next h6.left))
    clear h6
    go_wp2_with fail
    go_ret
    refine ⟨rfl, H6.out.cast ?_⟩
    simp [M.RSt.set, upd_same, updd]
  · go_simp
    refine hK.out _ _ ?_ (fun hHeld => ?_)
    · exact ⟨cell_later (below_alloc _ _) hHeld.1, World.there_alloc hHeld.2 _⟩
    clear hK K
    (try go_frame)
    refine wpAnyH_ready (rs := [4]) (by kernel_rfl) (by simp) ?_
    refine AllReadyH.cons (o := ⟨some 77, .load 58 (.tmp 76), 58, "steps.go:211", #[⟨3, .data⟩], none⟩) (by rfl) (fun K hK => ?_) AllReadyH.nil
    rw [if_pos (by rfl)]
    refine wp_load_one _ _ rfl _ _ vb rfl (by kernel_rfl) (by refine cell_later ?_ HCV.out; repeat (first | exact Below.refl _ _ | refine Below.drew ?_ | refine Below.alloc ?_ (by first | (simp; done) | (simp; omega)) _)) ?_
    refine hK.out _ _ ?_ (fun hHeld => ?_)
    · exact hHeld
    clear hK K
    (try go_frame)
    refine wpAnyH_ready (rs := [10]) (by kernel_rfl) (by simp) ?_
    refine AllReadyH.cons (o := ⟨some 83, .call ⟨.builtin .append, #[.tmp 77, .tmp 82], #[58, 58]⟩, 58, "steps.go:211", #[⟨4, .data⟩, ⟨9, .data⟩], none⟩) (by rfl) (fun K hK => ?_) AllReadyH.nil
    refine step_append_lies _ rfl (.tmp 77) (.tmp 82) 58 rfl 0 22 si (.slice none 0 0) 1 24 Tryz.underlying58 HSI.out HS1.out HS2.out HS3.out rfl (by decide) vb Y.bs.length ((List.range Y.bs.length).map bv) rfl ?_ ⟨W0.heap.size, 0, none⟩ 1 1 [.slice pa (Y.th t).pend.length pc] rfl rfl ?_ (by simp [Value.oneCell']) (by decide) (by unfold maxLen; omega) (by omega) (Nat.zero_le _) _ rfl ?_
    · exact HQ.out.bat.alloc _
    · exact World.news_of_block (Row.new' (by simp))
    intro g gc w4 hown hgr hat hlt4
    have HO := hide hown
    have HG := hide hgr
    have HA := hide hat
    have hl4 := hlt4
    clear hown hgr hat hlt4
    refine hK.out _ _ ?_ (fun hHeld => ?_)
    · exact keepG9 HG.out hHeld hneB hneT
    clear hK K
    (try go_frame)
    refine wpAnyH_take (i := 11) (oi := ⟨some 84, .nilCheck (.tmp 73), 0, "steps.go:211", #[⟨0, .data⟩, ⟨0, .phase⟩, ⟨1, .phase⟩, ⟨2, .phase⟩, ⟨3, .phase⟩, ⟨4, .phase⟩, ⟨5, .phase⟩, ⟨6, .phase⟩, ⟨7, .phase⟩, ⟨8, .phase⟩, ⟨9, .phase⟩, ⟨10, .phase⟩], none⟩) (v := ?v699) rfl (by kernel_rfl) (by kernel_rfl) (by kernel_rfl) (fun _ _ _ h => h) (Or.inl ⟨by rfl, ?hy699⟩) (by assumption) ?rest699
    case hy699 => (intro w hSw; (try dsimp only at hSw); go_simp; (try with_reducible rfl))
    (try go_frame)
    refine wpAnyH_take (i := 12) (oi := ⟨some 85, .fieldAddr 105 (.tmp 84) 2, 0, "steps.go:211", #[⟨11, .data⟩, ⟨0, .phase⟩, ⟨1, .phase⟩, ⟨2, .phase⟩, ⟨3, .phase⟩, ⟨4, .phase⟩, ⟨5, .phase⟩, ⟨6, .phase⟩, ⟨7, .phase⟩, ⟨8, .phase⟩, ⟨9, .phase⟩, ⟨10, .phase⟩], none⟩) (v := ?v700) rfl (by kernel_rfl) (by kernel_rfl) (by kernel_rfl) (fun _ _ _ h => h) (Or.inl ⟨by rfl, ?hy700⟩) (by assumption) ?rest700
    case hy700 => (intro w hSw; (try dsimp only at hSw); go_simp; (try with_reducible rfl))
    (try go_frame)
    refine wpAnyH_ready (rs := [13]) (by kernel_rfl) (by simp) ?_
    refine AllReadyH.cons (o := ⟨none, .store 58 (.tmp 85) (.tmp 83), 0, "steps.go:211", #[⟨12, .data⟩, ⟨10, .data⟩, ⟨10, .chain⟩, ⟨0, .phase⟩, ⟨1, .phase⟩, ⟨2, .phase⟩, ⟨3, .phase⟩, ⟨4, .phase⟩, ⟨5, .phase⟩, ⟨6, .phase⟩, ⟨7, .phase⟩, ⟨8, .phase⟩, ⟨9, .phase⟩, ⟨10, .phase⟩], none⟩) (by rfl) (fun K hK => ?_) AllReadyH.nil
    rw [if_pos (by rfl)]
    refine wp_store_one _ _ _ rfl L.b 8 (.slice (some ⟨g, 0, none⟩) (Y.bs.length + 1) gc) rfl rfl rfl rfl hHeld.2 hsz ?_
    refine hK.out _ _ ?_ (fun hHeld => ?_)
    · exact ⟨(World.cell?_setCell_far _ _ _ _ (by simp; omega)).trans hHeld.1, there_set hHeld.2 _ rfl _⟩
    clear hK K
    (try go_frame)
    refine wpAnyH_done (by kernel_rfl) ?_ _
    have hr4 : Row w4 (L.bT t) 109 (dth (Y.th t) (L.bF t) L.n (vo t) (vp t)) := (HQ.out.th t ht).of_block ((HG.out.block _ (by simp; exact Nat.lt_succ_of_lt (HQ.out.th t ht).lt) hneT).trans ((below_alloc _ _).block _ (HQ.out.th t ht).lt))
    have hr5 := hr4.setOther (a := ⟨L.b, 8, none⟩) (by simpa using hbt.symm) (.slice (some ⟨g, 0, none⟩) (Y.bs.length + 1) gc)
    have HR5 := hide hr5
    have x9 := hr5.cell_of (i := 9) rfl
    have x5 : _ = some (Value.int .i64 ((Y.th t).backoff : Int)) := hr5.cell_of (i := 5) rfl
    have x3 : _ = some (Value.int .i64 ((Y.th t).part : Int)) := hr5.cell_of (i := 3) rfl
    have y9 := hr5.frozen 9
    have y5 := hr5.frozen 5
    rw [HHP.out] at x3
    have hPUB := hide (DR.pub HQ.out ht (w2 := _) (Below.drew (below_alloc _ _)) HG.out HA.out (by rw [HEP.out]; exact HO.out) hl4 (x' := { Y.th t with pend := [], backoff := (Y.th t).backoff / 2 }) rfl rfl)
    clear hr4 hr5 hHeld HG HA HO
    generalize World.setCell w4 ⟨L.b, 8, none⟩ (.slice (some ⟨g, 0, none⟩) (Y.bs.length + 1) gc) = W5 at *
    obtain ⟨lab', vo', vp', vb', bv', hD⟩ := hPUB.out.doc
    have HD := hide hD
    clear hD
    go_wp2_with fail
    refine (docEnter HD.out ht 11 (by decide) (by decide) (fun _ h => absurd h (by decide))).mono ?_
    rintro e w6 ⟨rfl, h6⟩
    have H6 := hide (hR0.out.then (hPUB.out.next h6.left))
    clear h6
    go_wp2_with fail
    go_ret
    refine ⟨rfl, H6.out.cast ?_⟩
    simp [M.RSt.set, upd_same, updd]
end
end Go.Proofs.YtefjhnhdagolhaaGreat
namespace Go.Proofs.YtefjhnhdagolhaaGreat
open Go.RowKit
open M (upd upd_same upd_other RSt RTh cnt)
attribute [local go_sem ↓] Go.wp_at_zero Go.wp_at_succ
section
variable {L : DL} {S : Nat → Prop} {Y : RSt} {w : World} {lab : Nat → Nat} {vo vp : Nat → Value} {vb : Value} {bv : Nat → Value} {t : Nat}
structure OvOk (L : DL) (Y : RSt) (t : Nat) : Prop where
  p1 : 1 ≤ (Y.th t).part
  p11 : (Y.th t).part ≤ 11
  fl : (Y.th t).flips ≤ 1000000000
  en : (Y.th t).ended ≤ 1000000000
  bk : (Y.th t).backoff ≤ L.cap
  bs : Y.bs.length ≤ 1000000000
  pl : 8 ≤ (Y.th t).part → (Y.th t).part ≤ 10 → (Y.th t).pend.length ≤ 64
  ck : (Y.th t).part = 7 → ∀ k, k < L.n → cnt Y.bs k ≤ 1000000000 ∧ (Y.th t).flipped k ≤ 1000000000
def endW (b : Bool) : Int := if b = true then 2 else 1
theorem docOver (h : DR L S Y w lab vo vp vb bv) (ht : t < L.n) (o : OvOk L Y t) :
    Calls Tryz.prog 87 #[.pointer (some ⟨L.b, 0, none⟩), .int .i64 (t : Int)] w fun e w' => e = .returned (.int .i64 (endW (M.over L.n L.cap Y t (Y.th t)).2)) ∧ DLeft L S w (M.over L.n L.cap Y t (Y.th t)).1 w' := by
  rcases M.eleven o.p1 o.p11 with c | c | c | c | c | c | c | c | c | c | c
  · have e : M.over L.n L.cap Y t (Y.th t) = (Y.set t ((Y.th t).enter L.n (1 + 1)), false) := by unfold M.over; split <;> first | rfl | (exfalso; omega) | simp_all
    rw [e]; exact docOver_more h ht 1 c (by decide) (by omega)
  · have e : M.over L.n L.cap Y t (Y.th t) = (Y.set t (RTh.enter L.n { Y.th t with flips := (Y.th t).flips + 1, tries := 1 } 3), false) := by unfold M.over; split <;> first | rfl | (exfalso; omega) | simp_all
    rw [e]; exact docOver_2 h ht c o.fl
  · have e : M.over L.n L.cap Y t (Y.th t) = (Y.set t ((Y.th t).enter L.n (3 + 1)), false) := by unfold M.over; split <;> first | rfl | (exfalso; omega) | simp_all
    rw [e]; exact docOver_more h ht 3 c (by decide) (by omega)
  · have e : M.over L.n L.cap Y t (Y.th t) = (Y.set t (RTh.enter L.n { Y.th t with stamp := Y.bs.length } 5), false) := by unfold M.over; split <;> first | rfl | (exfalso; omega) | simp_all
    rw [e]; exact docOver_4 h ht c
  · have e : M.over L.n L.cap Y t (Y.th t) = (Y.set t ((Y.th t).enter L.n (5 + 1)), false) := by unfold M.over; split <;> first | rfl | (exfalso; omega) | simp_all
    rw [e]; exact docOver_more h ht 5 c (by decide) (by omega)
  · have e : M.over L.n L.cap Y t (Y.th t) = (Y.set t ((Y.th t).enter L.n (6 + 1)), false) := by unfold M.over; split <;> first | rfl | (exfalso; omega) | simp_all
    rw [e]; exact docOver_more h ht 6 c (by decide) (by omega)
  · by_cases q : Y.bs.length = (Y.th t).stamp
    · have e : M.over L.n L.cap Y t (Y.th t) = (Y.set t (RTh.enter L.n { Y.th t with pend := Y.pending L.n (Y.th t) } (if t ∈ Y.pending L.n (Y.th t) then 8 else 11)), false) := by unfold M.over; split <;> first | (simp only [if_pos q]; done) | (exfalso; omega) | simp_all
      rw [e]; exact docOver_7 h ht c q (o.ck c)
    · have e : M.over L.n L.cap Y t (Y.th t) = (Y.set t ((Y.th t).fail L.n L.cap), false) := by unfold M.over; split <;> first | (simp only [if_neg q]; done) | (exfalso; omega) | simp_all
      rw [e]; exact docOver_fail h ht 7 c (.inl rfl) q o.bk
  · have e : M.over L.n L.cap Y t (Y.th t) = (Y.set t ((Y.th t).enter L.n (8 + 1)), false) := by unfold M.over; split <;> first | rfl | (exfalso; omega) | simp_all
    rw [e]; exact docOver_more h ht 8 c (by decide) (fun _ => o.pl (by omega) (by omega))
  · have e : M.over L.n L.cap Y t (Y.th t) = (Y.set t ((Y.th t).enter L.n (9 + 1)), false) := by unfold M.over; split <;> first | rfl | (exfalso; omega) | simp_all
    rw [e]; exact docOver_more h ht 9 c (by decide) (fun _ => o.pl (by omega) (by omega))
  · by_cases q : Y.bs.length = (Y.th t).stamp
    · have e : M.over L.n L.cap Y t (Y.th t) = (⟨upd Y.th t (RTh.enter L.n { Y.th t with pend := [], backoff := (Y.th t).backoff / 2 } 11), Y.bs ++ [(Y.th t).pend]⟩, false) := by unfold M.over; split <;> first | (simp only [if_pos q]; done) | (exfalso; omega) | simp_all
      rw [e]; exact docOver_10 h ht c q o.bs o.bk
    · have e : M.over L.n L.cap Y t (Y.th t) = (Y.set t ((Y.th t).fail L.n L.cap), false) := by unfold M.over; split <;> first | (simp only [if_neg q]; done) | (exfalso; omega) | simp_all
      rw [e]; exact docOver_fail h ht 10 c (.inr rfl) q o.bk
  · have e : M.over L.n L.cap Y t (Y.th t) = (Y.set t { Y.th t with part := 0, ended := (Y.th t).ended + 1 }, true) := by unfold M.over; split <;> first | rfl | (exfalso; omega) | simp_all
    rw [e]; exact docOver_11 h ht c o.en
set_option maxHeartbeats 400000 in
theorem docStep_bad (h : DR L S Y w lab vo vp vb bv) (x : Int) (hx : ¬ (0 ≤ x ∧ x < L.n)) :
    Calls Tryz.prog 53 #[.pointer (some ⟨L.b, 0, none⟩), .int .i64 x] w fun e w' => e = .returned (.tuple #[.int .i64 0, .int .i64 3]) ∧ w' = w := by
  have c7 : w.cell? ⟨L.b, 7, none⟩ = some (.slice (some ⟨L.g, 0, none⟩) L.n L.gc) := h.ocell rfl
  have hn := h.n64
  clear h
  by_cases h0 : x < 0
  · go_enter Tryz.func53, Tryz.ntmps53
    go_wp2
    exact bodyPost_ret (v := .tuple #[.int .i64 0, .int .i64 3]) (by simp [results, Tryz.results53, go_sem]) rfl ⟨rfl, rfl⟩
  · have h1 : (L.n : Int) ≤ x := by omega
    clear hx
    go_enter Tryz.func53, Tryz.ntmps53
    go_wp2
    exact bodyPost_ret (v := .tuple #[.int .i64 0, .int .i64 3]) (by simp [results, Tryz.results53, go_sem]) rfl ⟨rfl, rfl⟩
set_option maxHeartbeats 400000 in
theorem docStep_idle (h : DR L S Y w lab vo vp vb bv) (ht : t < L.n) (hp : (Y.th t).part = 0) :
    Calls Tryz.prog 53 #[.pointer (some ⟨L.b, 0, none⟩), .int .i64 (t : Int)] w fun e w' => e = .returned (.tuple #[.int .i64 0, .int .i64 5]) ∧ w' = w := by
  have c7 : w.cell? ⟨L.b, 7, none⟩ = some (.slice (some ⟨L.g, 0, none⟩) L.n L.gc) := h.ocell rfl
  have hn := h.n64
  have cp := h.ptr t ht
  have t3 : w.cell? ⟨L.bT t, 3, none⟩ = some (.int .i64 ((Y.th t).part : Int)) := h.tcell ht rfl
  rw [hp] at t3
  have ht0 : (0 : Int) ≤ (t : Int) := by omega
  have ht1 : (t : Int) < (L.n : Int) := by omega
  have ht2 : ¬ (L.n : Int) ≤ (t : Int) := by omega
  clear h
  go_enter Tryz.func53, Tryz.ntmps53
  go_wp2
  exact bodyPost_ret (v := .tuple #[.int .i64 0, .int .i64 5]) (by simp [results, Tryz.results53, go_sem]) rfl ⟨rfl, rfl⟩
def half (n : Nat) (Y : RSt) (x : RTh) : RTh := { x with left := x.left - 1, flipped := if x.part = 6 then fun k => if k / 16 = M.tw n - (x.left - 1) - 1 ∧ k < n then (Y.th k).flips else x.flipped k else x.flipped }
theorem rstep_half (n cap : Nat) (Y : RSt) (t : Nat) : M.rstep n cap Y t = if 0 < (Y.th t).left - 1 then (Y.set t (half n Y (Y.th t)), false) else M.over n cap Y t (half n Y (Y.th t)) := rfl
end
end Go.Proofs.YtefjhnhdagolhaaGreat
