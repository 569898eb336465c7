import Derived.Test.YtefjhnhdagolhaaGreatQ29
import Derived.Test.YtefjhnhdagolhaaGreatQ30
namespace Go.Proofs.YtefjhnhdagolhaaGreat.tree
open Go.RowKit
open M (upd upd_same upd_other Op Ver ETh ESt wds statusAt valueAt)
attribute [local go_sem ↓] Go.wp_at_zero Go.wp_at_succ
section
variable {σ : Type} {R : SR σ} {L : Lt} {S : Nat → Prop} {E E' : ESt σ} {w : World} {t : Nat}
theorem RE.set_heard (h : RE R L S E w) (ht : t < L.n) {j : Nat} (hj : j < 3) (x : Int) : RE R L S { E with th := upd E.th t { E.th t with heard := upd (E.th t).heard j x } } (w.setCell ⟨L.g, t * 28 + 21 + j, none⟩ (.int .i64 x)) := by
  rcases (by omega : j = 0 ∨ j = 1 ∨ j = 2) with q | q | q <;> subst q
  · exact (h.cell1 ht 21 (by decide) (.int .i64 x) { E.th t with heard := upd (E.th t).heard 0 x } rfl rfl rfl rfl rfl (by intros; rfl)).1
  · exact (h.cell1 ht 22 (by decide) (.int .i64 x) { E.th t with heard := upd (E.th t).heard 1 x } rfl rfl rfl rfl rfl (by intros; rfl)).1
  · exact (h.cell1 ht 23 (by decide) (.int .i64 x) { E.th t with heard := upd (E.th t).heard 2 x } rfl rfl rfl rfl rfl (by intros; rfl)).1
def heard1 (E : ESt σ) (t : Nat) : ETh σ := { E.th t with heard := upd (E.th t).heard ((E.th t).past % 3) (E.ann ((E.th t).pend.getD ((E.th t).past / 3) 0) ((E.th t).past % 3)) }
def heard2 (P : M.Plain σ) (n : Nat) (E : ESt σ) (t : Nat) : ETh σ := if (E.th t).past % 3 = 2 then (heard1 E t).apply P n ((E.th t).pend.getD ((E.th t).past / 3) 0) else heard1 E t
def heard3 (P : M.Plain σ) (n : Nat) (E : ESt σ) (t : Nat) : ETh σ := if (E.th t).past + 1 = 3 * (E.th t).pend.length then (heard2 P n E t).close n else heard2 P n E t
theorem apply_same (P : M.Plain σ) (n k : Nat) (e : ETh σ) : (ETh.apply P n e k).past = e.past ∧ (ETh.apply P n e k).pend = e.pend ∧ (ETh.apply P n e k).stamp = e.stamp ∧ (ETh.apply P n e k).srec = e.srec ∧ (ETh.apply P n e k).frm = e.frm ∧ (e.now.isSome → (ETh.apply P n e k).now.isSome) := by
  unfold ETh.apply
  cases hq : e.now with
  | none => exact ⟨rfl, rfl, rfl, rfl, rfl, fun q => by cases q⟩
  | some v => exact ⟨rfl, rfl, rfl, rfl, rfl, fun _ => rfl⟩
theorem heard2_same (P : M.Plain σ) (n : Nat) (E : ESt σ) (t : Nat) : (heard2 P n E t).past = (E.th t).past ∧ (heard2 P n E t).pend = (E.th t).pend ∧ (heard2 P n E t).stamp = (E.th t).stamp ∧ (heard2 P n E t).srec = (E.th t).srec ∧ (heard2 P n E t).frm = (E.th t).frm ∧ ((E.th t).now.isSome → (heard2 P n E t).now.isSome) := by
  unfold heard2
  split
  · exact apply_same P n _ (heard1 E t)
  · exact ⟨rfl, rfl, rfl, rfl, rfl, fun q => q⟩
theorem heard3_past (P : M.Plain σ) (n : Nat) (E : ESt σ) (t : Nat) : (heard3 P n E t).past = (E.th t).past := by
  unfold heard3
  split
  · exact (heard2_same P n E t).1
  · exact (heard2_same P n E t).1
theorem RE.pendc (h : RE R L S E w) (ht : t < L.n) {e : ETh σ} (he : E.th t = e) (hne : e.pend ≠ []) : ∃ gp pc, w.cell? ⟨L.g, t * 28 + 20, none⟩ = some (.slice (some ⟨gp, 0, none⟩) e.pend.length pc) := by
  obtain ⟨cv, cf, pv, hc, hcv, hcf, hpd, -⟩ := h.cells ht he
  obtain ⟨x0, x1, rfl⟩ := list_cells hcv.1
  obtain ⟨y0, y1, rfl⟩ := list_cells hcf.1
  have := hc 20 _ (by decide) rfl
  rcases hpd with ⟨-, q⟩ | ⟨gp, pl, pc, -, q2, q3⟩
  · exact absurd q hne
  · obtain ⟨a, cap, e1, -, -, -⟩ := q3
    rw [q2] at e1
    injection e1 with e5 e6 e7
    have el : pl = e.pend.length := by rw [e6]; simp [ints]
    exact ⟨gp, pc, by rw [this, q2, el]⟩
set_option maxRecDepth 20000 in
set_option maxHeartbeats 4000000 in
theorem help_w {P : M.Plain σ} {fA : Nat} {rv : Value} (hA : ApOk R P L fA rv) (h : RE R L S E w) (ht : t < L.n) (hN : (E.th t).stamp ≤ 1000000000) (hr : (E.th t).srec < 129) {v f : Ver σ} (hv : (E.th t).now = some v) (hf : (E.th t).frm = some f) (hsz : R.sz v.st ≤ 1000000000000)
    (hp : (E.th t).past < 3 * (E.th t).pend.length) (hl : (E.th t).pend.length ≤ 64) (hk : (E.th t).pend.getD ((E.th t).past / 3) 0 < L.n) :
    Calls Tryz.prog 344 #[.pointer (some ⟨L.g, t * 28, none⟩)] w fun e w' => e = .returned (.tuple #[]) ∧ Left R L S w { E with th := upd E.th t ((heard3 P L.n E t).pass (3 * (E.th t).pend.length) 9) } w' := by
  obtain ⟨cv, cf, pv, hc, hcv, hcf, hpd, -⟩ := h.cells ht rfl
  obtain ⟨x0, x1, rfl⟩ := list_cells hcv.1
  obtain ⟨y0, y1, rfl⟩ := list_cells hcf.1
  have hn := h.ok.n64
  have c0 : w.cell? ⟨L.g, t * 28, none⟩ = some (.pointer (some ⟨L.bS, 0, none⟩)) := hc 0 _ (by decide) rfl
  have c4 := hc 4 _ (by decide) rfl
  have cpv := hc 20 _ (by decide) rfl
  have s3 : w.cell? ⟨L.bS, 3, none⟩ = some (.slice (some ⟨L.bAn, 0, none⟩) L.n L.n) := h.sh.cell_of rfl
  have hp0 : (E.th t).pend ≠ [] := by intro q; rw [q] at hp; simp at hp
  obtain ⟨i, hi⟩ : ∃ i, i = (E.th t).past / 3 := ⟨_, rfl⟩
  obtain ⟨j, hj⟩ : ∃ j, j = (E.th t).past % 3 := ⟨_, rfl⟩
  obtain ⟨k, hkk⟩ : ∃ k, k = (E.th t).pend.getD ((E.th t).past / 3) 0 := ⟨_, rfl⟩
  rw [← hkk] at hk
  have hil : i < (E.th t).pend.length := by omega
  have hj3 : j < 3 := by omega
  obtain ⟨gp, pc, rfl, cpk⟩ : ∃ gp pc, pv = .slice (some ⟨gp, 0, none⟩) (E.th t).pend.length pc ∧ w.cell? ⟨gp, i, none⟩ = some (.int .i64 (k : Int)) := by
    rcases hpd with ⟨-, q⟩ | ⟨gp, pl, pc, -, q2, q3⟩
    · exact absurd q hp0
    · obtain ⟨a, cap, e1, -, -, e4⟩ := q3
      rw [q2] at e1
      injection e1 with e5 e6 e7
      have el : pl = (E.th t).pend.length := by rw [e6]; simp [ints]
      refine ⟨gp, pc, by rw [q2, el], ?_⟩
      rcases e4 with e4 | ⟨g', off, e8, e9⟩
      · have : (ints ((E.th t).pend.map Int.ofNat)).length = 0 := by rw [e4]; rfl
        simp [ints] at this
        exact absurd this hp0
      · rw [e8] at e5
        injection e5 with e5
        injection e5 with e10 e11
        subst e10
        subst e11
        have := e9 i (.int .i64 (k : Int)) (by
          rw [getElem?_ints, List.getElem?_map, List.getElem?_eq_getElem hil, hkk, ← hi, List.getD_eq_getElem?_getD, List.getElem?_eq_getElem hil]
          rfl)
        rwa [Nat.zero_add] at this
  have hdiv : ((E.th t).past : Int) / 3 = (i : Int) := by omega
  have hmod : ((E.th t).past : Int) % 3 = (j : Int) := by omega
  have hil' : (i : Int) < ((E.th t).pend.length : Int) := by omega
  have hkn' : (k : Int) < (L.n : Int) := by omega
  have hj3' : (j : Int) < 3 := by omega
  have a0 : w.cell? ⟨L.bAn, k * 3 + j, none⟩ = some (.int .i64 (E.ann k j)) := h.an.cell hk hj3
  have th : w.there L.g (t * 28 + 21 + j) 1 := by obtain ⟨T, q, -⟩ := h.th; have := q.there (Nat.lt_of_lt_of_le ht h.ok.gn) (show 21 + j < 28 by omega); rwa [← Nat.add_assoc] at this
  obtain ⟨nSg, -, nAg, -⟩ := h.th_ne
  have HE := hide (show heard1 E t = { E.th t with heard := upd (E.th t).heard j (E.ann k j) } by unfold heard1; rw [← hi, ← hj] at *; rw [hkk, ← hi])
  have HH := hide h
  have HC := hide (And.intro hv (And.intro hf hp0))
  have HI := hide (And.intro hi (And.intro hj hkk))
  clear h hc hcv hcf hpd hv hf hp0 hi hj hkk
  go_enter Tryz.func344, Tryz.ntmps344
  go_upto_region 0 with fail
  go_quiet (fail)
  rw [hmod]
  generalize hW0 : World.drewN w nq = W0
  obtain ⟨d0, d3, da, dth, r0, k0, d4, dpv⟩ : W0.cell? ⟨L.g, t * 28, none⟩ = some (.pointer (some ⟨L.bS, 0, none⟩)) ∧ W0.cell? ⟨L.bS, 3, none⟩ = some (.slice (some ⟨L.bAn, 0, none⟩) L.n L.n) ∧ W0.cell? ⟨L.bAn, k * 3 + j, none⟩ = some (.int .i64 (E.ann k j)) ∧ W0.there L.g (t * 28 + 21 + j) 1 ∧ RE R L S E W0 ∧ Fr L.own w W0 ∧ W0.cell? ⟨L.g, t * 28 + 4, none⟩ = some (.int .i64 ((E.th t).past : Int)) ∧ W0.cell? ⟨L.g, t * 28 + 20, none⟩ = some (.slice (some ⟨gp, 0, none⟩) (E.th t).pend.length pc) := by
    rw [← hW0]
    exact ⟨c0, s3, a0, th, HH.out.drewN nq, (Fr.refl _ w).drewN nq, c4, cpv⟩
  have H1 := hide (r0.drew.set_heard ht hj3 (E.ann k j))
  have K0 := hide k0
  clear hW0 r0 k0 c0 s3 a0 th c4 cpv cpk hdiv hmod hil hil'
  go_upto_region 1 with fail
  refine wp_region_held_drew (S := (fun w' => w'.cell? ⟨L.g, t * 28, none⟩ = some (.pointer (some ⟨L.bS, 0, none⟩)) ∧ w'.cell? ⟨L.g, t * 28 + 4, none⟩ = some (.int .i64 ((E.th t).past : Int)) ∧ w'.cell? ⟨L.g, t * 28 + 20, none⟩ = some (.slice (some ⟨gp, 0, none⟩) (E.th t).pend.length pc) ∧ w'.cell? ⟨L.bS, 3, none⟩ = some (.slice (some ⟨L.bAn, 0, none⟩) L.n L.n) ∧ w'.cell? ⟨L.bAn, k * 3 + j, none⟩ = some (.int .i64 (E.ann k j)) ∧ w'.there (L.g) (t * 28 + 21 + j) 1)) (by kernel_rfl) ?_ (fun hHeld => ?_)
  · exact ⟨d0, d4, dpv, d3, da, dth⟩
  refine tk1 0 ⟨some 21, .move (.tmp 0), 436, "attempt.go:52", #[], none⟩ _ ?_
  (try go_frame)
  refine tk1 1 ⟨some 22, .move (.tmp 3), 3, "attempt.go:52", #[], none⟩ _ ?_
  (try go_frame)
  refine tk1 2 ⟨some 23, .move (.tmp 0), 436, "attempt.go:52", #[], none⟩ _ ?_
  (try go_frame)
  refine tk1 3 ⟨some 24, .nilCheck (.tmp 23), 0, "attempt.go:52", #[⟨2, .data⟩], none⟩ _ ?_
  (try go_frame)
  refine tk1 4 ⟨some 25, .fieldAddr 273 (.tmp 24) 0, 0, "attempt.go:52", #[⟨3, .data⟩], none⟩ _ ?_
  (try go_frame)
  refine tk1 5 ⟨some 26, .load 261 (.tmp 25), 261, "attempt.go:52", #[⟨4, .data⟩], none⟩ _ ?_
  (try go_frame)
  refine tk1 6 ⟨some 27, .nilCheck (.tmp 26), 0, "attempt.go:52", #[⟨5, .data⟩], none⟩ _ ?_
  (try go_frame)
  refine tk1 7 ⟨some 28, .fieldAddr 336 (.tmp 27) 3, 0, "attempt.go:52", #[⟨6, .data⟩], none⟩ _ ?_
  (try go_frame)
  refine tk1 8 ⟨some 29, .load 289 (.tmp 28), 289, "attempt.go:52", #[⟨7, .data⟩], none⟩ _ ?_
  (try go_frame)
  refine tk1 9 ⟨some 30, .move (.tmp 2), 3, "attempt.go:52", #[], none⟩ _ ?_
  (try go_frame)
  refine tk1 10 ⟨some 31, .move (.tmp 3), 3, "attempt.go:52", #[], none⟩ _ ?_
  (try go_frame)
  refine tk1 11 ⟨some 32, .indexAddr 289 (.tmp 29) (.tmp 30), 0, "attempt.go:52", #[⟨8, .data⟩, ⟨9, .data⟩], none⟩ _ ?_
  (try go_frame)
  refine tk1 12 ⟨some 33, .indexAddr 388 (.tmp 32) (.tmp 31), 0, "attempt.go:52", #[⟨11, .data⟩, ⟨10, .data⟩], none⟩ _ ?_
  (try go_frame)
  refine tk1 14 ⟨some 35, .nilCheck (.tmp 21), 0, "attempt.go:52", #[⟨0, .data⟩], none⟩ _ ?_
  (try go_frame)
  refine tk1 15 ⟨some 36, .fieldAddr 273 (.tmp 35) 15, 0, "attempt.go:52", #[⟨14, .data⟩], none⟩ _ ?_
  (try go_frame)
  refine wpAnyH_ready (rs := [13]) (by kernel_rfl) (by simp) ?_
  refine AllReadyH.cons (o := ⟨some 34, .call ⟨.value (.func 225), #[.tmp 33], #[387]⟩, 3, "attempt.go:52", #[⟨12, .data⟩], none⟩) (by rfl) (fun K hK => ?_) AllReadyH.nil
  go_simp
  refine (wordRead L.bAn (k * 3 + j) _ _ hHeld.2.2.2.2.1).mono ?_
  rintro e w3 ⟨rfl, rfl⟩
  go_wp2_with fail
  refine hK.out _ _ ?_ (fun hHeld => ?_)
  · exact hHeld
  clear hK K
  (try go_frame)
  refine tk1 16 ⟨some 37, .indexAddr 221 (.tmp 36) (.tmp 22), 0, "attempt.go:52", #[⟨15, .data⟩, ⟨1, .data⟩, ⟨0, .phase⟩, ⟨1, .phase⟩, ⟨2, .phase⟩, ⟨3, .phase⟩, ⟨4, .phase⟩, ⟨5, .phase⟩, ⟨6, .phase⟩, ⟨7, .phase⟩, ⟨8, .phase⟩, ⟨9, .phase⟩, ⟨10, .phase⟩, ⟨11, .phase⟩, ⟨12, .phase⟩, ⟨13, .phase⟩], none⟩ _ ?_
  (try go_frame)
  refine wpAnyH_ready (rs := [17]) (by kernel_rfl) (by simp) ?_
  refine AllReadyH.cons (o := ⟨none, .store 3 (.tmp 37) (.tmp 34), 0, "attempt.go:52", #[⟨16, .data⟩, ⟨13, .data⟩, ⟨13, .chain⟩, ⟨0, .phase⟩, ⟨1, .phase⟩, ⟨2, .phase⟩, ⟨3, .phase⟩, ⟨4, .phase⟩, ⟨5, .phase⟩, ⟨6, .phase⟩, ⟨7, .phase⟩, ⟨8, .phase⟩, ⟨9, .phase⟩, ⟨10, .phase⟩, ⟨11, .phase⟩, ⟨12, .phase⟩, ⟨13, .phase⟩], none⟩) (by rfl) (fun K hK => ?_) AllReadyH.nil
  rw [if_pos (by rfl)]
  refine wp_store_one _ _ _ rfl L.g (t * 28 + 21 + j) (.int .i64 (E.ann k j)) rfl rfl rfl rfl hHeld.2.2.2.2.2 (by kernel_rfl) ?_
  refine hK.out _ _ ?_ (fun hHeld => ?_)
  · exact ⟨cell_kept hHeld.1 (by first | exact .inr (by dsimp only; omega) | exact .inl (by assumption) | exact .inl (Ne.symm (by assumption))), cell_kept hHeld.2.1 (by first | exact .inr (by dsimp only; omega) | exact .inl (by assumption) | exact .inl (Ne.symm (by assumption))), cell_kept hHeld.2.2.1 (by first | exact .inr (by dsimp only; omega) | exact .inl (by assumption) | exact .inl (Ne.symm (by assumption))), cell_kept hHeld.2.2.2.1 (by first | exact .inr (by dsimp only; omega) | exact .inl (by assumption) | exact .inl (Ne.symm (by assumption))), cell_kept hHeld.2.2.2.2.1 (by first | exact .inr (by dsimp only; omega) | exact .inl (by assumption) | exact .inl (Ne.symm (by assumption))), there_set hHeld.2.2.2.2.2 _ rfl _⟩
  clear hK K
  (try go_frame)
  refine wpAnyH_done (by kernel_rfl) ?_ _
  have f4 := hHeld.2.1
  have fpv := hHeld.2.2.1
  clear hHeld
  generalize hW2 : World.setCell _ _ _ = W2
  have hL2 : Left R L S w { E with th := upd E.th t (heard1 E t) } W2 := by
    rw [← hW2, HE.out]
    exact Left.of H1.out (K0.out.drew.trans (Fr.set _ own_g _)) rfl
  have g4 : W2.cell? ⟨L.g, t * 28 + 4, none⟩ = some (.int .i64 ((E.th t).past : Int)) := by rw [← hW2]; exact f4
  have gpv : W2.cell? ⟨L.g, t * 28 + 20, none⟩ = some (.slice (some ⟨gp, 0, none⟩) (E.th t).pend.length pc) := by rw [← hW2]; exact fpv
  have HL2 := hide hL2
  clear hW2 hL2 f4 fpv d0 d3 da dth d4 dpv
  by_cases hj2 : j = 2
  · have q1 : (2 : Int) ≤ (j : Int) := by omega
    have q2 : (j : Int) ≤ 2 := by omega
    have HJ := hide (show heard2 P L.n E t = ETh.apply P L.n (heard1 E t) k by unfold heard2; rw [if_pos (by rw [← HI.out.2.1]; exact hj2), ← HI.out.2.2])
    clear hj2
    go_wp2_with fail
    refine (apply_w hA HL2.out.re ht hk (v := v) (f := f) (by simp only [upd_same]; exact HC.out.1) (by simp only [upd_same]; exact HC.out.2.1) hsz).mono ?_
    rintro e w3 ⟨rfl, L3⟩
    have HL3 := hide (show Left R L S w { E with th := upd E.th t (heard2 P L.n E t) } w3 from (HL2.out.next L3).cast (by rw [HJ.out]; simp only [upd_upd, upd_same]))
    clear L3
    obtain ⟨y1, y2, y3, y4, y5, y6⟩ := heard2_same P L.n E t
    obtain ⟨cv7, cf7, pv7, hc7, -, -, -, -⟩ := HL3.out.re.cells ht (upd_same _ _ _)
    have z4 := hc7 4 _ (by decide) rfl
    rw [y1] at z4
    obtain ⟨gp7, pc7, zpv⟩ := HL3.out.re.pendc ht (upd_same _ _ _) (by rw [y2]; exact HC.out.2.2)
    rw [y2] at zpv
    have HY := hide (And.intro y1 (And.intro y2 (And.intro y3 (And.intro y4 (And.intro y5 y6)))))
    clear hc7 y1 y2 y3 y4 y5 y6 g4 gpv
    by_cases hlast : (E.th t).past + 1 = 3 * (E.th t).pend.length
    · have l1 : ((E.th t).past : Int) ≤ 3 * ((E.th t).pend.length : Int) - 1 := by omega
      have l2 : 3 * ((E.th t).pend.length : Int) - 1 ≤ ((E.th t).past : Int) := by omega
      have HLA := hide (show heard3 P L.n E t = (heard2 P L.n E t).close L.n by unfold heard3; rw [if_pos hlast])
      clear hlast
      obtain ⟨v7, hv7⟩ := Option.isSome_iff_exists.1 (HY.out.2.2.2.2.2 (by rw [HC.out.1]; rfl))
      have HV7 := hide hv7
      clear hv7
      go_wp2_with fail
      refine (close_w HL3.out.re ht (by simp only [upd_same]; rw [HY.out.2.2.1]; exact hN) (by simp only [upd_same]; rw [HY.out.2.2.2.1]; exact hr) (v := v7) (f := f) (by simp only [upd_same]; exact HV7.out) (by simp only [upd_same]; rw [HY.out.2.2.2.2.1]; exact HC.out.2.1) (by simp only [upd_same]; rw [HY.out.2.1]; exact HC.out.2.2)).mono ?_
      rintro e w5 ⟨rfl, L5⟩
      have HL5 := hide (show Left R L S w { E with th := upd E.th t (heard3 P L.n E t) } w5 from (HL3.out.next L5).cast (by rw [HLA.out]; simp only [upd_upd, upd_same]))
      have hps := pass_w HL5.out.re ht (3 * (E.th t).pend.length) 9 (by omega) (by simp only [upd_same]; rw [heard3_past]; omega)
      rw [show ((3 * (E.th t).pend.length : Nat) : Int) = 3 * ((E.th t).pend.length : Int) by omega] at hps
      have HPS := hide hps
      clear hps L5
      go_wp2_with fail
      refine HPS.out.mono ?_
      rintro e w6 ⟨rfl, r6, k6⟩
      have HR := hide (And.intro r6 k6)
      clear r6 k6
      go_wp2
      refine bodyPost_end (v := .tuple #[]) (by simp [results, Tryz.results344, go_sem]) rfl ⟨rfl, HL5.out.next (Left.of (HR.out.1.cast ?_) HR.out.2 rfl)⟩
      simp only [upd_upd, upd_same]
    · have l1 : ¬ ((E.th t).past : Int) = 3 * ((E.th t).pend.length : Int) - 1 := by omega
      have HLA := hide (show heard3 P L.n E t = heard2 P L.n E t by unfold heard3; rw [if_neg hlast])
      clear hlast
      have HL5 := hide (show Left R L S w { E with th := upd E.th t (heard3 P L.n E t) } w3 from HL3.out.cast (by rw [HLA.out]))
      have hps := pass_w HL5.out.re ht (3 * (E.th t).pend.length) 9 (by omega) (by simp only [upd_same]; rw [heard3_past]; omega)
      rw [show ((3 * (E.th t).pend.length : Nat) : Int) = 3 * ((E.th t).pend.length : Int) by omega] at hps
      have HPS := hide hps
      clear hps
      go_wp2_with fail
      refine HPS.out.mono ?_
      rintro e w6 ⟨rfl, r6, k6⟩
      have HR := hide (And.intro r6 k6)
      clear r6 k6
      go_wp2
      refine bodyPost_end (v := .tuple #[]) (by simp [results, Tryz.results344, go_sem]) rfl ⟨rfl, HL5.out.next (Left.of (HR.out.1.cast ?_) HR.out.2 rfl)⟩
      simp only [upd_upd, upd_same]
  · have q1 : ¬ (j : Int) = 2 := by omega
    have HJ := hide (show heard2 P L.n E t = heard1 E t by unfold heard2; rw [if_neg (by rw [← HI.out.2.1]; exact hj2)])
    clear hj2
    have HL3 := hide (show Left R L S w { E with th := upd E.th t (heard2 P L.n E t) } W2 from HL2.out.cast (by rw [HJ.out]))
    obtain ⟨y1, y2, y3, y4, y5, y6⟩ := heard2_same P L.n E t
    obtain ⟨cv7, cf7, pv7, hc7, -, -, -, -⟩ := HL3.out.re.cells ht (upd_same _ _ _)
    have z4 := hc7 4 _ (by decide) rfl
    rw [y1] at z4
    obtain ⟨gp7, pc7, zpv⟩ := HL3.out.re.pendc ht (upd_same _ _ _) (by rw [y2]; exact HC.out.2.2)
    rw [y2] at zpv
    have HY := hide (And.intro y1 (And.intro y2 (And.intro y3 (And.intro y4 (And.intro y5 y6)))))
    clear hc7 y1 y2 y3 y4 y5 y6 g4 gpv
    by_cases hlast : (E.th t).past + 1 = 3 * (E.th t).pend.length
    · have l1 : ((E.th t).past : Int) ≤ 3 * ((E.th t).pend.length : Int) - 1 := by omega
      have l2 : 3 * ((E.th t).pend.length : Int) - 1 ≤ ((E.th t).past : Int) := by omega
      have HLA := hide (show heard3 P L.n E t = (heard2 P L.n E t).close L.n by unfold heard3; rw [if_pos hlast])
      clear hlast
      obtain ⟨v7, hv7⟩ := Option.isSome_iff_exists.1 (HY.out.2.2.2.2.2 (by rw [HC.out.1]; rfl))
      have HV7 := hide hv7
      clear hv7
      go_wp2_with fail
      refine (close_w HL3.out.re ht (by simp only [upd_same]; rw [HY.out.2.2.1]; exact hN) (by simp only [upd_same]; rw [HY.out.2.2.2.1]; exact hr) (v := v7) (f := f) (by simp only [upd_same]; exact HV7.out) (by simp only [upd_same]; rw [HY.out.2.2.2.2.1]; exact HC.out.2.1) (by simp only [upd_same]; rw [HY.out.2.1]; exact HC.out.2.2)).mono ?_
      rintro e w5 ⟨rfl, L5⟩
      have HL5 := hide (show Left R L S w { E with th := upd E.th t (heard3 P L.n E t) } w5 from (HL3.out.next L5).cast (by rw [HLA.out]; simp only [upd_upd, upd_same]))
      have hps := pass_w HL5.out.re ht (3 * (E.th t).pend.length) 9 (by omega) (by simp only [upd_same]; rw [heard3_past]; omega)
      rw [show ((3 * (E.th t).pend.length : Nat) : Int) = 3 * ((E.th t).pend.length : Int) by omega] at hps
      have HPS := hide hps
      clear hps L5
      go_wp2_with fail
      refine HPS.out.mono ?_
      rintro e w6 ⟨rfl, r6, k6⟩
      have HR := hide (And.intro r6 k6)
      clear r6 k6
      go_wp2
      refine bodyPost_end (v := .tuple #[]) (by simp [results, Tryz.results344, go_sem]) rfl ⟨rfl, HL5.out.next (Left.of (HR.out.1.cast ?_) HR.out.2 rfl)⟩
      simp only [upd_upd, upd_same]
    · have l1 : ¬ ((E.th t).past : Int) = 3 * ((E.th t).pend.length : Int) - 1 := by omega
      have HLA := hide (show heard3 P L.n E t = heard2 P L.n E t by unfold heard3; rw [if_neg hlast])
      clear hlast
      have HL5 := hide (show Left R L S w { E with th := upd E.th t (heard3 P L.n E t) } W2 from HL3.out.cast (by rw [HLA.out]))
      have hps := pass_w HL5.out.re ht (3 * (E.th t).pend.length) 9 (by omega) (by simp only [upd_same]; rw [heard3_past]; omega)
      rw [show ((3 * (E.th t).pend.length : Nat) : Int) = 3 * ((E.th t).pend.length : Int) by omega] at hps
      have HPS := hide hps
      clear hps
      go_wp2_with fail
      refine HPS.out.mono ?_
      rintro e w6 ⟨rfl, r6, k6⟩
      have HR := hide (And.intro r6 k6)
      clear r6 k6
      go_wp2
      refine bodyPost_end (v := .tuple #[]) (by simp [results, Tryz.results344, go_sem]) rfl ⟨rfl, HL5.out.next (Left.of (HR.out.1.cast ?_) HR.out.2 rfl)⟩
      simp only [upd_upd, upd_same]
end
end Go.Proofs.YtefjhnhdagolhaaGreat.tree
