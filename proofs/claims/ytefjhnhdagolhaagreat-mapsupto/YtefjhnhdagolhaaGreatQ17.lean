import Derived.Test.YtefjhnhdagolhaaGreatQ16
namespace Go.Proofs.YtefjhnhdagolhaaGreat.tree
open Go.RowKit
open M (upd upd_same upd_other Op Ver ETh ESt tw wds statusAt valueAt)
attribute [local go_sem ↓] Go.wp_at_zero Go.wp_at_succ
section
variable {σ : Type} {R : SR σ} {L : Lt} {S : Nat → Prop} {E E' : ESt σ} {w : World} {t : Nat}
theorem own_an : L.own L.bAn := .inr (.inr (.inl rfl))
theorem own_tg : L.own L.bTg := .inr (.inl rfl)
theorem own_bS : L.own L.bS := .inl rfl
theorem own_gG (ht : t < L.n) : L.own (L.gG t) := .inr (.inr (.inr (.inr (.inr (.inr ⟨t, ht, .inr rfl⟩)))))
theorem own_gD (ht : t < L.n) : L.own (L.gD t) := .inr (.inr (.inr (.inr (.inr (.inr ⟨t, ht, .inl rfl⟩)))))
theorem own_bW {r : Nat} (hr : r < 2 * L.n + 1) : L.own (L.bW r) := .inr (.inr (.inr (.inr (.inl ⟨r, hr, rfl⟩))))
theorem own_bP : L.own L.bP := .inr (.inr (.inr (.inl rfl)))
theorem RE.th_ne (h : RE R L S E w) : L.bS ≠ L.g ∧ L.bP ≠ L.g ∧ L.bAn ≠ L.g ∧ L.bTg ≠ L.g ∧ L.bS ≠ L.bAn ∧ L.bS ≠ L.bTg ∧ L.bS ≠ L.bP := by
  obtain ⟨T, q, -⟩ := h.th
  obtain ⟨sp, q2, -⟩ := h.po
  exact ⟨Row.apart h.sh q (by decide), Row.apart q2 q (by decide), Row.apart h.an q (by decide), Row.apart h.tg q (by decide), Row.apart h.sh h.an (by decide), Row.apart h.sh h.tg (by decide), Row.apart h.sh q2 (by decide)⟩
theorem there_cell {b o : Nat} (h : w.there b o 1) : (∃ u, w.cell? ⟨b, o, none⟩ = some u) ∧ w.frozen? ⟨b, o, none⟩ = false := by
  have := h 0 (by decide)
  exact ⟨Option.isSome_iff_exists.1 this.1, this.2⟩
set_option maxRecDepth 20000 in
set_option maxHeartbeats 2000000 in
theorem announce_w (h : RE R L S E w) (ht : t < L.n) (hp : (E.th t).past < 3) :
    Calls Tryz.prog 337 #[.pointer (some ⟨L.g, t * 28, none⟩)] w fun e w' => e = .returned (.tuple #[]) ∧ RE R L S { E with ann := upd E.ann t (upd (E.ann t) (E.th t).past ((E.th t).op.w (E.th t).past)), th := upd E.th t ((E.th t).pass 3 2) } w' ∧ Fr L.own w w' := by
  obtain ⟨cv, cf, pv, hc, -, -, -, -⟩ := h.cells ht rfl
  have hn := h.ok.n64
  have c0 : w.cell? ⟨L.g, t * 28, none⟩ = some (.pointer (some ⟨L.bS, 0, none⟩)) := hc 0 _ (by decide) rfl
  have c1 := hc 1 _ (by decide) rfl
  have c4 := hc 4 _ (by decide) rfl
  have co : w.cell? ⟨L.g, t * 28 + 5 + (E.th t).past, none⟩ = some (.int .i64 ((E.th t).op.w (E.th t).past)) := by
    rcases (by omega : (E.th t).past = 0 ∨ (E.th t).past = 1 ∨ (E.th t).past = 2) with q | q | q <;> rw [q]
    · exact hc 5 _ (by decide) rfl
    · exact hc 6 _ (by decide) rfl
    · exact hc 7 _ (by decide) rfl
  have s3 : w.cell? ⟨L.bS, 3, none⟩ = some (.slice (some ⟨L.bAn, 0, none⟩) L.n L.n) := h.sh.cell_of rfl
  have th : w.there L.bAn (t * 3 + (E.th t).past) 1 := h.an.there ht hp
  obtain ⟨-, -, nAg, -, nSA, -, -⟩ := h.th_ne
  have ht' : (t : Int) < (L.n : Int) := by omega
  have hp' : ((E.th t).past : Int) < 3 := by omega
  obtain ⟨y, hy⟩ : ∃ y, y = (E.th t).op.w (E.th t).past := ⟨_, rfl⟩
  rw [← hy] at co ⊢
  have h1 := h.set_ann t (E.th t).past hp y
  have H1 := hide h1
  clear h hc h1 hy
  go_enter Tryz.func337, Tryz.ntmps337
  go_wp2
  refine wp_region_held_drew (S := (fun w' => w'.cell? ⟨L.g, t * 28, none⟩ = some (.pointer (some ⟨L.bS, 0, none⟩)) ∧ w'.cell? ⟨L.g, t * 28 + 1, none⟩ = some (.int .i64 (t : Int)) ∧ w'.cell? ⟨L.g, t * 28 + 4, none⟩ = some (.int .i64 ((E.th t).past : Int)) ∧ w'.cell? ⟨L.g, t * 28 + 5 + (E.th t).past, none⟩ = some (.int .i64 y) ∧ w'.cell? ⟨L.bS, 3, none⟩ = some (.slice (some ⟨L.bAn, 0, none⟩) L.n L.n) ∧ w'.there (L.bAn) (t * 3 + (E.th t).past) 1)) (by kernel_rfl) ?_ (fun hHeld => ?_)
  · exact ⟨c0, c1, c4, co, s3, th⟩
  refine tk1 0 ⟨some 2, .move (.tmp 0), 436, "thread.go:113", #[], none⟩ _ ?_
  (try go_frame)
  refine tk1 1 ⟨some 3, .nilCheck (.tmp 2), 0, "thread.go:113", #[⟨0, .data⟩], none⟩ _ ?_
  (try go_frame)
  refine tk1 2 ⟨some 4, .fieldAddr 273 (.tmp 3) 0, 0, "thread.go:113", #[⟨1, .data⟩], none⟩ _ ?_
  (try go_frame)
  refine tk1 3 ⟨some 5, .load 261 (.tmp 4), 261, "thread.go:113", #[⟨2, .data⟩], none⟩ _ ?_
  (try go_frame)
  refine tk1 4 ⟨some 6, .nilCheck (.tmp 5), 0, "thread.go:113", #[⟨3, .data⟩], none⟩ _ ?_
  (try go_frame)
  refine tk1 5 ⟨some 7, .fieldAddr 336 (.tmp 6) 3, 0, "thread.go:113", #[⟨4, .data⟩], none⟩ _ ?_
  (try go_frame)
  refine tk1 6 ⟨some 8, .load 289 (.tmp 7), 289, "thread.go:113", #[⟨5, .data⟩], none⟩ _ ?_
  (try go_frame)
  refine tk1 7 ⟨some 9, .move (.tmp 0), 436, "thread.go:113", #[], none⟩ _ ?_
  (try go_frame)
  refine tk1 8 ⟨some 10, .nilCheck (.tmp 9), 0, "thread.go:113", #[⟨7, .data⟩], none⟩ _ ?_
  (try go_frame)
  refine tk1 9 ⟨some 11, .fieldAddr 273 (.tmp 10) 1, 0, "thread.go:113", #[⟨8, .data⟩], none⟩ _ ?_
  (try go_frame)
  refine tk1 10 ⟨some 12, .load 3 (.tmp 11), 3, "thread.go:113", #[⟨9, .data⟩], none⟩ _ ?_
  (try go_frame)
  refine tk1 11 ⟨some 13, .move (.tmp 0), 436, "thread.go:113", #[], none⟩ _ ?_
  (try go_frame)
  refine tk1 12 ⟨some 14, .nilCheck (.tmp 13), 0, "thread.go:113", #[⟨11, .data⟩], none⟩ _ ?_
  (try go_frame)
  refine tk1 13 ⟨some 15, .fieldAddr 273 (.tmp 14) 4, 0, "thread.go:113", #[⟨12, .data⟩], none⟩ _ ?_
  (try go_frame)
  refine tk1 14 ⟨some 16, .load 3 (.tmp 15), 3, "thread.go:113", #[⟨13, .data⟩], none⟩ _ ?_
  (try go_frame)
  refine tk1 15 ⟨some 17, .indexAddr 289 (.tmp 8) (.tmp 12), 0, "thread.go:113", #[⟨6, .data⟩, ⟨10, .data⟩], none⟩ _ ?_
  (try go_frame)
  refine tk1 16 ⟨some 18, .indexAddr 388 (.tmp 17) (.tmp 16), 0, "thread.go:113", #[⟨15, .data⟩, ⟨14, .data⟩], none⟩ _ ?_
  (try go_frame)
  refine tk1 17 ⟨some 19, .move (.tmp 0), 436, "thread.go:113", #[], none⟩ _ ?_
  (try go_frame)
  refine tk1 18 ⟨some 20, .move (.tmp 0), 436, "thread.go:113", #[], none⟩ _ ?_
  (try go_frame)
  refine tk1 19 ⟨some 21, .nilCheck (.tmp 20), 0, "thread.go:113", #[⟨18, .data⟩], none⟩ _ ?_
  (try go_frame)
  refine tk1 20 ⟨some 22, .fieldAddr 273 (.tmp 21) 4, 0, "thread.go:113", #[⟨19, .data⟩], none⟩ _ ?_
  (try go_frame)
  refine tk1 21 ⟨some 23, .load 3 (.tmp 22), 3, "thread.go:113", #[⟨20, .data⟩], none⟩ _ ?_
  (try go_frame)
  refine tk1 22 ⟨some 24, .nilCheck (.tmp 19), 0, "thread.go:113", #[⟨17, .data⟩], none⟩ _ ?_
  (try go_frame)
  refine tk1 23 ⟨some 25, .fieldAddr 273 (.tmp 24) 5, 0, "thread.go:113", #[⟨22, .data⟩], none⟩ _ ?_
  (try go_frame)
  refine tk1 24 ⟨some 26, .indexAddr 221 (.tmp 25) (.tmp 23), 0, "thread.go:113", #[⟨23, .data⟩, ⟨21, .data⟩], none⟩ _ ?_
  (try go_frame)
  refine tk1 25 ⟨some 27, .load 3 (.tmp 26), 3, "thread.go:113", #[⟨24, .data⟩], none⟩ _ ?_
  (try go_frame)
  refine wpAnyH_ready (rs := [26]) (by kernel_rfl) (by simp) ?_
  refine AllReadyH.cons (o := ⟨some 28, .call ⟨.value (.func 219), #[.tmp 18, .tmp 27], #[387, 3]⟩, 0, "thread.go:113", #[⟨16, .data⟩, ⟨25, .data⟩], none⟩) (by rfl) (fun K hK => ?_) AllReadyH.nil
  go_simp
  obtain ⟨⟨u, hu⟩, hz⟩ := there_cell hHeld.2.2.2.2.2
  refine (wordWrite L.bAn (t * 3 + (E.th t).past) u y _ hu hz).mono ?_
  rintro e w3 ⟨rfl, rfl⟩
  go_wp2_with fail
  refine hK.out _ _ ?_ (fun hHeld => ?_)
  · exact ⟨cell_kept hHeld.1 (by first | exact .inr (by dsimp only; omega) | exact .inl (by assumption) | exact .inl (Ne.symm (by assumption))), cell_kept hHeld.2.1 (by first | exact .inr (by dsimp only; omega) | exact .inl (by assumption) | exact .inl (Ne.symm (by assumption))), cell_kept hHeld.2.2.1 (by first | exact .inr (by dsimp only; omega) | exact .inl (by assumption) | exact .inl (Ne.symm (by assumption))), cell_kept hHeld.2.2.2.1 (by first | exact .inr (by dsimp only; omega) | exact .inl (by assumption) | exact .inl (Ne.symm (by assumption))), cell_kept hHeld.2.2.2.2.1 (by first | exact .inr (by dsimp only; omega) | exact .inl (by assumption) | exact .inl (Ne.symm (by assumption))), there_set hHeld.2.2.2.2.2 _ rfl _⟩
  clear hK K
  (try go_frame)
  refine wpAnyH_done (by kernel_rfl) ?_ _
  clear hHeld hu hz
  go_wp2_with fail
  refine (pass_w (t := t) H1.out.drew ht 3 2 (by decide) (by show (E.th t).past ≤ _; omega)).mono ?_
  rintro e w4 ⟨rfl, r4, k4⟩
  have HR := hide (And.intro r4 k4)
  clear r4 k4
  go_wp2
  exact bodyPost_end (v := .tuple #[]) (by simp [results, Tryz.results337, go_sem]) rfl ⟨rfl, HR.out.1, ((Fr.set w own_an _).drew).trans HR.out.2⟩
theorem bit_le (t : Nat) : 2 ^ (t % 16) ≤ 32768 := Nat.le_trans (Nat.pow_le_pow_right (by decide) (show t % 16 ≤ 15 by omega)) (by decide)
set_option maxRecDepth 20000 in
set_option maxHeartbeats 2000000 in
theorem flip_w (h : RE R L S E w) (ht : t < L.n) (h0 : 0 ≤ E.togs (t / 16)) (h1 : E.togs (t / 16) < 65536) :
    Calls Tryz.prog 338 #[.pointer (some ⟨L.g, t * 28, none⟩)] w fun e w' => e = .returned (.tuple #[]) ∧ RE R L S { E with togs := upd E.togs (t / 16) (E.togs (t / 16) + (if (E.th t).toggle = true then -(2 ^ (t % 16)) else 2 ^ (t % 16))), th := upd E.th t (ETh.approach { E.th t with toggle := !(E.th t).toggle }) } w' ∧ Fr L.own w w' := by
  obtain ⟨cv, cf, pv, hc, -, -, -, hf⟩ := h.cells ht rfl
  have hn := h.ok.n64
  have c0 : w.cell? ⟨L.g, t * 28, none⟩ = some (.pointer (some ⟨L.bS, 0, none⟩)) := hc 0 _ (by decide) rfl
  have c1 := hc 1 _ (by decide) rfl
  have c8 := hc 8 _ (by decide) rfl
  have f8 := hf (t * 28 + 8)
  have s2 : w.cell? ⟨L.bS, 2, none⟩ = some (.slice (some ⟨L.bTg, 0, none⟩) (M.tw L.n) (M.tw L.n)) := h.sh.cell_of rfl
  have hqt : t / 16 < M.tw L.n := by unfold M.tw; omega
  have htw : M.tw L.n ≤ 4 := by unfold M.tw; omega
  have a0 : w.cell? ⟨L.bTg, t / 16, none⟩ = some (.int .i64 (E.togs (t / 16))) := h.tg.cell hqt
  have fa := h.tg.frozen (t / 16)
  obtain ⟨-, -, -, nTg, -, nST, -⟩ := h.th_ne
  obtain ⟨r1, k1⟩ := h.cell1 ht 8 (by decide) (.bool (!(E.th t).toggle)) { E.th t with toggle := !(E.th t).toggle } rfl rfl rfl rfl rfl (by intros; rfl)
  have hbl := bit_le t
  rw [show ((2 : Int) ^ (t % 16)) = ((2 ^ (t % 16) : Nat) : Int) by push_cast; rfl]
  obtain ⟨m, hm⟩ : ∃ m, m = 2 ^ (t % 16) := ⟨_, rfl⟩
  rw [← hm] at hbl ⊢
  obtain ⟨q, hq⟩ : ∃ q, q = t / 16 := ⟨_, rfl⟩
  rw [← hq] at hqt a0 fa h0 h1 ⊢
  have hq' : (q : Int) < (M.tw L.n : Int) := by omega
  have HA := hide (And.intro hq hm)
  have H1 := hide r1
  have K1 := hide k1
  clear h hc hf r1 k1 hq hm
  cases htg : (E.th t).toggle
  · rw [htg] at c8 H1 K1
    go_enter Tryz.func338, Tryz.ntmps338
    go_wp2_with fail
    refine (toggleAt_of t q m _ (by omega) HA.out.1 HA.out.2).mono ?_
    rintro e w2 ⟨rfl, kk, rfl⟩
    go_wp2_with fail
    have b0 : ((w.drewN kk).setCell ⟨L.g, t * 28 + 8, none⟩ (.bool true)).cell? ⟨L.bTg, q, none⟩ = some (.int .i64 (E.togs q)) := cell_kept a0 (.inl (by exact nTg))
    refine (int64Add L.bTg q (E.togs q) (m : Int) _ b0 (frozen_kept fa) (by omega) (by omega)).mono ?_
    rintro e w3 ⟨rfl, rfl⟩
    have H2 := hide ((H1.out.drewN kk).set_tog q (E.togs q + (m : Int)))
    go_wp2_with fail
    refine (approach_w H2.out ht).mono ?_
    rintro e w4 ⟨rfl, r4, k4⟩
    have HR := hide (And.intro r4 k4)
    clear r4 k4
    go_wp2
    refine bodyPost_end (v := .tuple #[]) (by simp [results, Tryz.results338, go_sem]) rfl ⟨rfl, HR.out.1.cast ?_, (((K1.out.drewN kk)).trans (Fr.set _ own_tg _)).trans HR.out.2⟩
    simp [upd_upd, upd_same]
  · rw [htg] at c8 H1 K1
    go_enter Tryz.func338, Tryz.ntmps338
    go_wp2_with fail
    refine (toggleAt_of t q m _ (by omega) HA.out.1 HA.out.2).mono ?_
    rintro e w2 ⟨rfl, kk, rfl⟩
    go_wp2_with fail
    have b0 : ((w.drewN kk).setCell ⟨L.g, t * 28 + 8, none⟩ (.bool false)).cell? ⟨L.bTg, q, none⟩ = some (.int .i64 (E.togs q)) := cell_kept a0 (.inl (by exact nTg))
    refine (int64Add L.bTg q (E.togs q) (-(m : Int)) _ b0 (frozen_kept fa) (by omega) (by omega)).mono ?_
    rintro e w3 ⟨rfl, rfl⟩
    have H2 := hide ((H1.out.drewN kk).set_tog q (E.togs q + -(m : Int)))
    go_wp2_with fail
    refine (approach_w H2.out ht).mono ?_
    rintro e w4 ⟨rfl, r4, k4⟩
    have HR := hide (And.intro r4 k4)
    clear r4 k4
    go_wp2
    refine bodyPost_end (v := .tuple #[]) (by simp [results, Tryz.results338, go_sem]) rfl ⟨rfl, HR.out.1.cast ?_, (((K1.out.drewN kk)).trans (Fr.set _ own_tg _)).trans HR.out.2⟩
    simp [upd_upd, upd_same]
end
end Go.Proofs.YtefjhnhdagolhaaGreat.tree
namespace Go.Proofs.YtefjhnhdagolhaaGreat.tree
open Go.RowKit
open M (upd upd_same upd_other Op Ver ETh ESt wds statusAt valueAt)
attribute [local go_sem ↓] Go.wp_at_zero Go.wp_at_succ
section
variable {σ : Type} {R : SR σ} {L : Lt} {S : Nat → Prop} {E E' : ESt σ} {w : World} {t : Nat}
set_option maxRecDepth 20000 in
set_option maxHeartbeats 2000000 in
theorem scan_w (h : RE R L S E w) (ht : t < L.n) (hp : (E.th t).past < M.tw L.n) :
    Calls Tryz.prog 342 #[.pointer (some ⟨L.g, t * 28, none⟩)] w fun e w' => e = .returned (.tuple #[]) ∧ RE R L S { E with th := upd E.th t (ETh.pass { E.th t with tg := upd (E.th t).tg (E.th t).past (E.togs (E.th t).past) } (M.tw L.n) 7) } w' ∧ Fr L.own w w' := by
  obtain ⟨cv, cf, pv, hc, hcv, hcf, -, -⟩ := h.cells ht rfl
  obtain ⟨x0, x1, rfl⟩ := list_cells hcv.1
  obtain ⟨y0, y1, rfl⟩ := list_cells hcf.1
  have hn := h.ok.n64
  have htw : M.tw L.n ≤ 4 := by unfold M.tw; omega
  have c0 : w.cell? ⟨L.g, t * 28, none⟩ = some (.pointer (some ⟨L.bS, 0, none⟩)) := hc 0 _ (by decide) rfl
  have c4 := hc 4 _ (by decide) rfl
  have cg := hc 19 _ (by decide) rfl
  have s2 : w.cell? ⟨L.bS, 2, none⟩ = some (.slice (some ⟨L.bTg, 0, none⟩) (M.tw L.n) (M.tw L.n)) := h.sh.cell_of rfl
  have a0 : w.cell? ⟨L.bTg, (E.th t).past, none⟩ = some (.int .i64 (E.togs (E.th t).past)) := h.tg.cell hp
  have th : w.there (L.gG t) (E.th t).past 1 := (h.gg t ht).there hp
  have nSG : L.bS ≠ L.gG t := Row.apart h.sh (h.gg t ht) (by decide)
  have nTG : L.bTg ≠ L.gG t := Row.apart h.tg (h.gg t ht) (by decide)
  have ngG : L.g ≠ L.gG t := by obtain ⟨T, q, -⟩ := h.th; exact Row.apart q (h.gg t ht) (by decide)
  have hp' : ((E.th t).past : Int) < (M.tw L.n : Int) := by omega
  have H1 := hide (h.set_read t ht (E.th t).past (E.togs (E.th t).past))
  clear h hc hcv hcf
  go_enter Tryz.func342, Tryz.ntmps342
  go_wp2
  refine wp_region_held_drew (S := (fun w' => w'.cell? ⟨L.g, t * 28, none⟩ = some (.pointer (some ⟨L.bS, 0, none⟩)) ∧ w'.cell? ⟨L.g, t * 28 + 4, none⟩ = some (.int .i64 ((E.th t).past : Int)) ∧ w'.cell? ⟨L.g, t * 28 + 19, none⟩ = some (.slice (some ⟨L.gG t, 0, none⟩) (M.tw L.n) (M.tw L.n)) ∧ w'.cell? ⟨L.bS, 2, none⟩ = some (.slice (some ⟨L.bTg, 0, none⟩) (M.tw L.n) (M.tw L.n)) ∧ w'.cell? ⟨L.bTg, (E.th t).past, none⟩ = some (.int .i64 (E.togs (E.th t).past)) ∧ w'.there (L.gG t) ((E.th t).past) 1)) (by kernel_rfl) ?_ (fun hHeld => ?_)
  · exact ⟨c0, c4, cg, s2, a0, th⟩
  refine tk1 0 ⟨some 2, .move (.tmp 0), 436, "attempt.go:20", #[], none⟩ _ ?_
  (try go_frame)
  refine tk1 1 ⟨some 3, .nilCheck (.tmp 2), 0, "attempt.go:20", #[⟨0, .data⟩], none⟩ _ ?_
  (try go_frame)
  refine tk1 2 ⟨some 4, .fieldAddr 273 (.tmp 3) 13, 0, "attempt.go:20", #[⟨1, .data⟩], none⟩ _ ?_
  (try go_frame)
  refine tk1 3 ⟨some 5, .load 22 (.tmp 4), 22, "attempt.go:20", #[⟨2, .data⟩], none⟩ _ ?_
  (try go_frame)
  refine tk1 4 ⟨some 6, .move (.tmp 0), 436, "attempt.go:20", #[], none⟩ _ ?_
  (try go_frame)
  refine tk1 5 ⟨some 7, .nilCheck (.tmp 6), 0, "attempt.go:20", #[⟨4, .data⟩], none⟩ _ ?_
  (try go_frame)
  refine tk1 6 ⟨some 8, .fieldAddr 273 (.tmp 7) 4, 0, "attempt.go:20", #[⟨5, .data⟩], none⟩ _ ?_
  (try go_frame)
  refine tk1 7 ⟨some 9, .load 3 (.tmp 8), 3, "attempt.go:20", #[⟨6, .data⟩], none⟩ _ ?_
  (try go_frame)
  refine tk1 8 ⟨some 10, .move (.tmp 0), 436, "attempt.go:20", #[], none⟩ _ ?_
  (try go_frame)
  refine tk1 9 ⟨some 11, .nilCheck (.tmp 10), 0, "attempt.go:20", #[⟨8, .data⟩], none⟩ _ ?_
  (try go_frame)
  refine tk1 10 ⟨some 12, .fieldAddr 273 (.tmp 11) 0, 0, "attempt.go:20", #[⟨9, .data⟩], none⟩ _ ?_
  (try go_frame)
  refine tk1 11 ⟨some 13, .load 261 (.tmp 12), 261, "attempt.go:20", #[⟨10, .data⟩], none⟩ _ ?_
  (try go_frame)
  refine tk1 12 ⟨some 14, .nilCheck (.tmp 13), 0, "attempt.go:20", #[⟨11, .data⟩], none⟩ _ ?_
  (try go_frame)
  refine tk1 13 ⟨some 15, .fieldAddr 336 (.tmp 14) 2, 0, "attempt.go:20", #[⟨12, .data⟩], none⟩ _ ?_
  (try go_frame)
  refine tk1 14 ⟨some 16, .load 288 (.tmp 15), 288, "attempt.go:20", #[⟨13, .data⟩], none⟩ _ ?_
  (try go_frame)
  refine tk1 15 ⟨some 17, .move (.tmp 0), 436, "attempt.go:20", #[], none⟩ _ ?_
  (try go_frame)
  refine tk1 16 ⟨some 18, .nilCheck (.tmp 17), 0, "attempt.go:20", #[⟨15, .data⟩], none⟩ _ ?_
  (try go_frame)
  refine tk1 17 ⟨some 19, .fieldAddr 273 (.tmp 18) 4, 0, "attempt.go:20", #[⟨16, .data⟩], none⟩ _ ?_
  (try go_frame)
  refine tk1 18 ⟨some 20, .load 3 (.tmp 19), 3, "attempt.go:20", #[⟨17, .data⟩], none⟩ _ ?_
  (try go_frame)
  refine tk1 19 ⟨some 21, .indexAddr 288 (.tmp 16) (.tmp 20), 0, "attempt.go:20", #[⟨14, .data⟩, ⟨18, .data⟩], none⟩ _ ?_
  (try go_frame)
  refine wpAnyH_ready (rs := [20]) (by kernel_rfl) (by simp) ?_
  refine AllReadyH.cons (o := ⟨some 22, .call ⟨.value (.func 225), #[.tmp 21], #[387]⟩, 3, "attempt.go:20", #[⟨19, .data⟩], none⟩) (by rfl) (fun K hK => ?_) AllReadyH.nil
  go_simp
  refine (wordRead L.bTg (E.th t).past _ _ hHeld.2.2.2.2.1).mono ?_
  rintro e w3 ⟨rfl, rfl⟩
  go_wp2_with fail
  refine hK.out _ _ ?_ (fun hHeld => ?_)
  · exact hHeld
  clear hK K
  (try go_frame)
  refine tk1 21 ⟨some 23, .indexAddr 22 (.tmp 5) (.tmp 9), 0, "attempt.go:20", #[⟨3, .data⟩, ⟨7, .data⟩, ⟨0, .phase⟩, ⟨1, .phase⟩, ⟨2, .phase⟩, ⟨3, .phase⟩, ⟨4, .phase⟩, ⟨5, .phase⟩, ⟨6, .phase⟩, ⟨7, .phase⟩, ⟨8, .phase⟩, ⟨9, .phase⟩, ⟨10, .phase⟩, ⟨11, .phase⟩, ⟨12, .phase⟩, ⟨13, .phase⟩, ⟨14, .phase⟩, ⟨15, .phase⟩, ⟨16, .phase⟩, ⟨17, .phase⟩, ⟨18, .phase⟩, ⟨19, .phase⟩, ⟨20, .phase⟩], none⟩ _ ?_
  (try go_frame)
  refine wpAnyH_ready (rs := [22]) (by kernel_rfl) (by simp) ?_
  refine AllReadyH.cons (o := ⟨none, .store 3 (.tmp 23) (.tmp 22), 0, "attempt.go:20", #[⟨21, .data⟩, ⟨20, .data⟩, ⟨20, .chain⟩, ⟨0, .phase⟩, ⟨1, .phase⟩, ⟨2, .phase⟩, ⟨3, .phase⟩, ⟨4, .phase⟩, ⟨5, .phase⟩, ⟨6, .phase⟩, ⟨7, .phase⟩, ⟨8, .phase⟩, ⟨9, .phase⟩, ⟨10, .phase⟩, ⟨11, .phase⟩, ⟨12, .phase⟩, ⟨13, .phase⟩, ⟨14, .phase⟩, ⟨15, .phase⟩, ⟨16, .phase⟩, ⟨17, .phase⟩, ⟨18, .phase⟩, ⟨19, .phase⟩, ⟨20, .phase⟩], none⟩) (by rfl) (fun K hK => ?_) AllReadyH.nil
  rw [if_pos (by rfl)]
  refine wp_store_one _ _ _ rfl (L.gG t) (E.th t).past (.int .i64 (E.togs (E.th t).past)) rfl rfl rfl rfl hHeld.2.2.2.2.2 (by kernel_rfl) ?_
  refine hK.out _ _ ?_ (fun hHeld => ?_)
  · exact ⟨cell_kept hHeld.1 (by first | exact .inr (by dsimp only; omega) | exact .inl (by assumption) | exact .inl (Ne.symm (by assumption))), cell_kept hHeld.2.1 (by first | exact .inr (by dsimp only; omega) | exact .inl (by assumption) | exact .inl (Ne.symm (by assumption))), cell_kept hHeld.2.2.1 (by first | exact .inr (by dsimp only; omega) | exact .inl (by assumption) | exact .inl (Ne.symm (by assumption))), cell_kept hHeld.2.2.2.1 (by first | exact .inr (by dsimp only; omega) | exact .inl (by assumption) | exact .inl (Ne.symm (by assumption))), cell_kept hHeld.2.2.2.2.1 (by first | exact .inr (by dsimp only; omega) | exact .inl (by assumption) | exact .inl (Ne.symm (by assumption))), there_set hHeld.2.2.2.2.2 _ rfl _⟩
  clear hK K
  (try go_frame)
  refine wpAnyH_done (by kernel_rfl) ?_ _
  have cg' := hHeld.2.2.1
  clear hHeld
  go_wp2_with fail
  refine (pass_w (t := t) (H1.out.drew) ht (M.tw L.n) 7 (by omega) (by simp only [upd_same]; omega)).mono ?_
  rintro e w4 ⟨rfl, r4, k4⟩
  have HR := hide (And.intro r4 k4)
  clear r4 k4
  go_wp2
  refine bodyPost_end (v := .tuple #[]) (by simp [results, Tryz.results342, go_sem]) rfl ⟨rfl, HR.out.1.cast ?_, ((Fr.set w (own_gG ht) _).drew).trans HR.out.2⟩
  simp only [upd_upd, upd_same]
end
end Go.Proofs.YtefjhnhdagolhaaGreat.tree
namespace Go.Proofs.YtefjhnhdagolhaaGreat.tree
open Go.RowKit
open M (upd upd_same upd_other Op Ver ETh ESt wds statusAt valueAt)
attribute [local go_sem ↓] Go.wp_at_zero Go.wp_at_succ
section
variable {σ : Type} {R : SR σ} {L : Lt} {S : Nat → Prop} {E E' : ESt σ} {w : World} {t : Nat}
set_option maxRecDepth 20000 in
set_option maxHeartbeats 2000000 in
theorem publish_hit (h : RE R L S E w) (ht : t < L.n) (hN : E.pst ≤ 1000000000) (hs : E.pst = (E.th t).stamp) (hr : E.prec = (E.th t).srec) (hr1 : (E.th t).srec < 129) (hsp : (E.th t).spare < 129) (hb : (E.th t).backoff ≤ 64) :
    Calls Tryz.prog 346 #[.pointer (some ⟨L.g, t * 28, none⟩)] w fun e w' => e = .returned (.tuple #[]) ∧ RE R L S { E with pst := (E.th t).stamp + 1, prec := (E.th t).spare, th := upd E.th t (ETh.enter { E.th t with spare := (E.th t).kept, kept := (E.th t).spare, backoff := (E.th t).backoff / 2 } 11) } w' ∧ Fr L.own w w' := by
  obtain ⟨cv, cf, pv, hc, -, -, -, hf⟩ := h.cells ht rfl
  have c0 : w.cell? ⟨L.g, t * 28, none⟩ = some (.pointer (some ⟨L.bS, 0, none⟩)) := hc 0 _ (by decide) rfl
  have c11 := hc 11 _ (by decide) rfl
  have c12 := hc 12 _ (by decide) rfl
  have c13 := hc 13 _ (by decide) rfl
  have s5 : w.cell? ⟨L.bS, 5, none⟩ = some (.int .i64 (((E.th t).stamp : Int) * 129 + ((E.th t).srec : Int))) := by
    have : w.cell? ⟨L.bS, 5, none⟩ = some (.int .i64 ((E.pst : Int) * 129 + (E.prec : Int))) := h.sh.cell_of rfl
    rw [this, hs, hr]
  have f5 := h.sh.frozen 5
  obtain ⟨nSg, -⟩ := h.th_ne
  have h1 := h.set_pub ((E.th t).stamp + 1) (E.th t).spare
  rw [show (((E.th t).stamp + 1 : Nat) : Int) = ((E.th t).stamp : Int) + 1 by omega] at h1
  have hN' : (E.th t).stamp ≤ 1000000000 := by omega
  have H1 := hide h1
  have HS := hide (And.intro s5 f5)
  clear h hc hf h1 hs hr s5 f5
  go_enter Tryz.func346, Tryz.ntmps346
  go_wp2
  refine wp_region_held_drew (S := (fun w' => w'.cell? ⟨L.g, t * 28, none⟩ = some (.pointer (some ⟨L.bS, 0, none⟩)) ∧ w'.cell? ⟨L.g, t * 28 + 11, none⟩ = some (.int .i64 ((E.th t).spare : Int)) ∧ w'.cell? ⟨L.g, t * 28 + 13, none⟩ = some (.int .i64 (((E.th t).stamp : Int) * 129 + ((E.th t).srec : Int))))) (by kernel_rfl) ?_ (fun hHeld => ?_)
  · exact ⟨c0, c11, c13⟩
  refine tk1 0 ⟨some 2, .move (.tmp 0), 436, "attempt.go:82", #[], none⟩ _ ?_
  (try go_frame)
  refine tk1 1 ⟨some 3, .nilCheck (.tmp 2), 0, "attempt.go:82", #[⟨0, .data⟩], none⟩ _ ?_
  (try go_frame)
  refine tk1 2 ⟨some 4, .fieldAddr 273 (.tmp 3) 0, 0, "attempt.go:82", #[⟨1, .data⟩], none⟩ _ ?_
  (try go_frame)
  refine tk1 3 ⟨some 5, .load 261 (.tmp 4), 261, "attempt.go:82", #[⟨2, .data⟩], none⟩ _ ?_
  (try go_frame)
  refine tk1 4 ⟨some 6, .nilCheck (.tmp 5), 0, "attempt.go:82", #[⟨3, .data⟩], none⟩ _ ?_
  (try go_frame)
  refine tk1 5 ⟨some 7, .fieldAddr 336 (.tmp 6) 5, 0, "attempt.go:82", #[⟨4, .data⟩], none⟩ _ ?_
  (try go_frame)
  refine tk1 6 ⟨some 8, .move (.tmp 0), 436, "attempt.go:82", #[], none⟩ _ ?_
  (try go_frame)
  refine tk1 7 ⟨some 9, .nilCheck (.tmp 8), 0, "attempt.go:82", #[⟨6, .data⟩], none⟩ _ ?_
  (try go_frame)
  refine tk1 8 ⟨some 10, .fieldAddr 273 (.tmp 9) 11, 0, "attempt.go:82", #[⟨7, .data⟩], none⟩ _ ?_
  (try go_frame)
  refine tk1 9 ⟨some 11, .load 222 (.tmp 10), 222, "attempt.go:82", #[⟨8, .data⟩], none⟩ _ ?_
  (try go_frame)
  refine tk1 10 ⟨some 12, .move (.tmp 0), 436, "attempt.go:82", #[], none⟩ _ ?_
  (try go_frame)
  refine tk1 11 ⟨some 13, .nilCheck (.tmp 12), 0, "attempt.go:82", #[⟨10, .data⟩], none⟩ _ ?_
  (try go_frame)
  refine tk1 12 ⟨some 14, .fieldAddr 273 (.tmp 13) 11, 0, "attempt.go:82", #[⟨11, .data⟩], none⟩ _ ?_
  (try go_frame)
  refine tk1 13 ⟨some 15, .load 222 (.tmp 14), 222, "attempt.go:82", #[⟨12, .data⟩], none⟩ _ ?_
  (try go_frame)
  refine tk1 14 ⟨some 16, .move (.tmp 0), 436, "attempt.go:82", #[], none⟩ _ ?_
  (try go_frame)
  refine tk1 15 ⟨some 17, .nilCheck (.tmp 16), 0, "attempt.go:82", #[⟨14, .data⟩], none⟩ _ ?_
  (try go_frame)
  refine tk1 16 ⟨some 18, .fieldAddr 273 (.tmp 17) 9, 0, "attempt.go:82", #[⟨15, .data⟩], none⟩ _ ?_
  (try go_frame)
  refine tk1 17 ⟨some 19, .load 3 (.tmp 18), 3, "attempt.go:82", #[⟨16, .data⟩], none⟩ _ ?_
  (try go_frame)
  refine wpAnyH_ready (rs := [18]) (by kernel_rfl) (by simp) ?_
  refine AllReadyH.cons (o := ⟨some 20, .call ⟨.value (.func 234), #[.tmp 15, .tmp 19], #[222, 3]⟩, 222, "attempt.go:82", #[⟨13, .data⟩, ⟨17, .data⟩], none⟩) (by rfl) (fun K hK => ?_) AllReadyH.nil
  go_simp
  refine (pubNext (E.th t).stamp (E.th t).srec _ _ rfl hr1 (E.th t).spare hsp (by omega)).mono ?_
  rintro e w3 ⟨rfl, rfl⟩
  go_wp2_with fail
  refine hK.out _ _ ?_ (fun hHeld => ?_)
  · exact hHeld
  clear hK K
  (try go_frame)
  refine wpAnyH_ready (rs := [19]) (by kernel_rfl) (by simp) ?_
  refine AllReadyH.cons (o := ⟨some 21, .call ⟨.value (.func 233), #[.tmp 7, .tmp 11, .tmp 20], #[294, 222, 222]⟩, 4, "attempt.go:82", #[⟨5, .data⟩, ⟨9, .data⟩, ⟨18, .data⟩, ⟨18, .chain⟩], none⟩) (by rfl) (fun K hK => ?_) AllReadyH.nil
  go_simp
  refine (pubReplace_hit L.bS 5 _ _ w.drew HS.out.1 HS.out.2).mono ?_
  rintro e w3 ⟨rfl, rfl⟩
  go_wp2_with fail
  refine hK.out _ _ ?_ (fun hHeld => ?_)
  · exact ⟨cell_kept hHeld.1 (by first | exact .inr (by dsimp only; omega) | exact .inl (by assumption) | exact .inl (Ne.symm (by assumption))), cell_kept hHeld.2.1 (by first | exact .inr (by dsimp only; omega) | exact .inl (by assumption) | exact .inl (Ne.symm (by assumption))), cell_kept hHeld.2.2 (by first | exact .inr (by dsimp only; omega) | exact .inl (by assumption) | exact .inl (Ne.symm (by assumption)))⟩
  clear hK K
  (try go_frame)
  refine tk1 20 ⟨some 22, .unOp .not 4 (.tmp 21), 4, "attempt.go:82", #[⟨19, .data⟩], none⟩ _ ?_
  (try go_frame)
  refine wpAnyH_done (by kernel_rfl) ?_ _
  clear hHeld c0 c11 c12 c13
  have r1 := H1.out.drew
  generalize hW1 : World.drew _ = W1 at r1
  obtain ⟨cv, cf, pv, hc, -, -, -, hf⟩ := r1.cells ht rfl
  have c11 := hc 11 _ (by decide) rfl
  have c12 := hc 12 _ (by decide) rfl
  have f11 := hf (t * 28 + 11)
  have f12 := hf (t * 28 + 12)
  have hk1 : Fr L.own w W1 := by rw [← hW1]; exact (Fr.set w own_bS _).drew
  dsimp only at c11 c12
  obtain ⟨r2, k2⟩ := r1.cell1 ht 11 (by decide) (.int .i64 ((E.th t).kept : Int)) { E.th t with spare := (E.th t).kept } rfl rfl rfl rfl rfl (by intros; rfl)
  obtain ⟨r3, k3⟩ := r2.cell1 ht 12 (by decide) (.int .i64 ((E.th t).spare : Int)) { E.th t with spare := (E.th t).kept, kept := (E.th t).spare } (by simp [upd_same]) (by simp [upd_same]) (by simp [upd_same]) (by simp [upd_same]) (by simp [upd_same]) (by intros; simp only [upd_same]; rfl)
  have H3 := hide r3
  have K3 := hide ((hk1.trans k2).trans k3)
  clear r1 r2 r3 k2 k3 hc hf hk1
  clear hW1
  go_wp2
  go_region
  go_wp2_with fail
  refine (succeed_w H3.out.drew ht (by simp only [upd_same]; exact hb)).mono ?_
  rintro e w4 ⟨rfl, r4, k4⟩
  have HR := hide (And.intro r4 k4)
  clear r4 k4
  go_wp2
  refine bodyPost_end (v := .tuple #[]) (by simp [results, Tryz.results346, go_sem]) rfl ⟨rfl, HR.out.1.cast ?_, K3.out.drew.trans HR.out.2⟩
  simp only [upd_upd, upd_same]
set_option maxRecDepth 20000 in
set_option maxHeartbeats 2000000 in
theorem publish_miss (h : RE R L S E w) (ht : t < L.n) (hN : (E.th t).stamp ≤ 1000000000) (hp : E.prec < 129) (hne : ¬ (E.pst = (E.th t).stamp ∧ E.prec = (E.th t).srec)) (hr1 : (E.th t).srec < 129) (hsp : (E.th t).spare < 129) (hb : (E.th t).backoff ≤ L.cap) :
    Calls Tryz.prog 346 #[.pointer (some ⟨L.g, t * 28, none⟩)] w fun e w' => e = .returned (.tuple #[]) ∧ RE R L S { E with th := upd E.th t ((E.th t).fail L.cap) } w' ∧ Fr L.own w w' := by
  obtain ⟨cv, cf, pv, hc, -, -, -, hf⟩ := h.cells ht rfl
  have c0 : w.cell? ⟨L.g, t * 28, none⟩ = some (.pointer (some ⟨L.bS, 0, none⟩)) := hc 0 _ (by decide) rfl
  have c11 := hc 11 _ (by decide) rfl
  have c13 := hc 13 _ (by decide) rfl
  have s5 : w.cell? ⟨L.bS, 5, none⟩ = some (.int .i64 ((E.pst : Int) * 129 + (E.prec : Int))) := h.sh.cell_of rfl
  have f5 := h.sh.frozen 5
  have hne' := hide (show ¬ ((E.pst : Int) * 129 + (E.prec : Int) = ((E.th t).stamp : Int) * 129 + ((E.th t).srec : Int)) by intro q; exact hne ⟨by omega, by omega⟩)
  have HS := hide (And.intro s5 f5)
  have HH := hide h
  clear h hc hf s5 f5 hne
  go_enter Tryz.func346, Tryz.ntmps346
  go_wp2
  refine wp_region_held_drew (S := (fun w' => w'.cell? ⟨L.g, t * 28, none⟩ = some (.pointer (some ⟨L.bS, 0, none⟩)) ∧ w'.cell? ⟨L.g, t * 28 + 11, none⟩ = some (.int .i64 ((E.th t).spare : Int)) ∧ w'.cell? ⟨L.g, t * 28 + 13, none⟩ = some (.int .i64 (((E.th t).stamp : Int) * 129 + ((E.th t).srec : Int))))) (by kernel_rfl) ?_ (fun hHeld => ?_)
  · exact ⟨c0, c11, c13⟩
  refine tk1 0 ⟨some 2, .move (.tmp 0), 436, "attempt.go:82", #[], none⟩ _ ?_
  (try go_frame)
  refine tk1 1 ⟨some 3, .nilCheck (.tmp 2), 0, "attempt.go:82", #[⟨0, .data⟩], none⟩ _ ?_
  (try go_frame)
  refine tk1 2 ⟨some 4, .fieldAddr 273 (.tmp 3) 0, 0, "attempt.go:82", #[⟨1, .data⟩], none⟩ _ ?_
  (try go_frame)
  refine tk1 3 ⟨some 5, .load 261 (.tmp 4), 261, "attempt.go:82", #[⟨2, .data⟩], none⟩ _ ?_
  (try go_frame)
  refine tk1 4 ⟨some 6, .nilCheck (.tmp 5), 0, "attempt.go:82", #[⟨3, .data⟩], none⟩ _ ?_
  (try go_frame)
  refine tk1 5 ⟨some 7, .fieldAddr 336 (.tmp 6) 5, 0, "attempt.go:82", #[⟨4, .data⟩], none⟩ _ ?_
  (try go_frame)
  refine tk1 6 ⟨some 8, .move (.tmp 0), 436, "attempt.go:82", #[], none⟩ _ ?_
  (try go_frame)
  refine tk1 7 ⟨some 9, .nilCheck (.tmp 8), 0, "attempt.go:82", #[⟨6, .data⟩], none⟩ _ ?_
  (try go_frame)
  refine tk1 8 ⟨some 10, .fieldAddr 273 (.tmp 9) 11, 0, "attempt.go:82", #[⟨7, .data⟩], none⟩ _ ?_
  (try go_frame)
  refine tk1 9 ⟨some 11, .load 222 (.tmp 10), 222, "attempt.go:82", #[⟨8, .data⟩], none⟩ _ ?_
  (try go_frame)
  refine tk1 10 ⟨some 12, .move (.tmp 0), 436, "attempt.go:82", #[], none⟩ _ ?_
  (try go_frame)
  refine tk1 11 ⟨some 13, .nilCheck (.tmp 12), 0, "attempt.go:82", #[⟨10, .data⟩], none⟩ _ ?_
  (try go_frame)
  refine tk1 12 ⟨some 14, .fieldAddr 273 (.tmp 13) 11, 0, "attempt.go:82", #[⟨11, .data⟩], none⟩ _ ?_
  (try go_frame)
  refine tk1 13 ⟨some 15, .load 222 (.tmp 14), 222, "attempt.go:82", #[⟨12, .data⟩], none⟩ _ ?_
  (try go_frame)
  refine tk1 14 ⟨some 16, .move (.tmp 0), 436, "attempt.go:82", #[], none⟩ _ ?_
  (try go_frame)
  refine tk1 15 ⟨some 17, .nilCheck (.tmp 16), 0, "attempt.go:82", #[⟨14, .data⟩], none⟩ _ ?_
  (try go_frame)
  refine tk1 16 ⟨some 18, .fieldAddr 273 (.tmp 17) 9, 0, "attempt.go:82", #[⟨15, .data⟩], none⟩ _ ?_
  (try go_frame)
  refine tk1 17 ⟨some 19, .load 3 (.tmp 18), 3, "attempt.go:82", #[⟨16, .data⟩], none⟩ _ ?_
  (try go_frame)
  refine wpAnyH_ready (rs := [18]) (by kernel_rfl) (by simp) ?_
  refine AllReadyH.cons (o := ⟨some 20, .call ⟨.value (.func 234), #[.tmp 15, .tmp 19], #[222, 3]⟩, 222, "attempt.go:82", #[⟨13, .data⟩, ⟨17, .data⟩], none⟩) (by rfl) (fun K hK => ?_) AllReadyH.nil
  go_simp
  refine (pubNext (E.th t).stamp (E.th t).srec _ _ rfl hr1 (E.th t).spare hsp (by omega)).mono ?_
  rintro e w3 ⟨rfl, rfl⟩
  go_wp2_with fail
  refine hK.out _ _ ?_ (fun hHeld => ?_)
  · exact hHeld
  clear hK K
  (try go_frame)
  refine wpAnyH_ready (rs := [19]) (by kernel_rfl) (by simp) ?_
  refine AllReadyH.cons (o := ⟨some 21, .call ⟨.value (.func 233), #[.tmp 7, .tmp 11, .tmp 20], #[294, 222, 222]⟩, 4, "attempt.go:82", #[⟨5, .data⟩, ⟨9, .data⟩, ⟨18, .data⟩, ⟨18, .chain⟩], none⟩) (by rfl) (fun K hK => ?_) AllReadyH.nil
  go_simp
  refine (pubReplace_miss L.bS 5 _ _ _ w.drew HS.out.1 HS.out.2 hne'.out).mono ?_
  rintro e w3 ⟨rfl, rfl⟩
  go_wp2_with fail
  refine hK.out _ _ ?_ (fun hHeld => ?_)
  · exact hHeld
  clear hK K
  (try go_frame)
  refine tk1 20 ⟨some 22, .unOp .not 4 (.tmp 21), 4, "attempt.go:82", #[⟨19, .data⟩], none⟩ _ ?_
  (try go_frame)
  refine wpAnyH_done (by kernel_rfl) ?_ _
  clear hHeld c0 c11 c13
  go_wp2_with fail
  refine (fail_w HH.out.drew ht hb).mono ?_
  rintro e w4 ⟨rfl, r4, k4⟩
  have HR := hide (And.intro r4 k4)
  clear r4 k4
  go_wp2
  exact bodyPost_ret (v := .tuple #[]) (by simp [results, Tryz.results346, go_sem]) rfl ⟨rfl, HR.out.1, ((Fr.refl L.own w).drew).trans HR.out.2⟩
end
end Go.Proofs.YtefjhnhdagolhaaGreat.tree
