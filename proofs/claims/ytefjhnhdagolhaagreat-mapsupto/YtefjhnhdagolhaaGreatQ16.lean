import Derived.Test.YtefjhnhdagolhaaGreatQ15
import Derived.Test.YtefjhnhdagolhaaGreatQ11
namespace Go.Proofs.YtefjhnhdagolhaaGreat.tree
open Go.RowKit
open M (upd upd_same upd_other Op Ver ETh ESt tw wds)
attribute [local go_sem ↓] Go.wp_at_zero Go.wp_at_succ
section
variable {σ : Type} {R : SR σ} {L : Lt} {S : Nat → Prop} {E E' : ESt σ} {w : World} {t : Nat}
set_option maxHeartbeats 1000000 in
theorem fail_w (h : RE R L S E w) (ht : t < L.n) (hb : (E.th t).backoff ≤ L.cap) :
    Calls Tryz.prog 353 #[.pointer (some ⟨L.g, t * 28, none⟩)] w fun e w' => e = .returned (.tuple #[]) ∧ RE R L S { E with th := upd E.th t ((E.th t).fail L.cap) } w' ∧ Fr L.own w w' := by
  obtain ⟨cv, cf, pv, hc, -, -, -, hf⟩ := h.cells ht rfl
  have c2 := hc 2 _ (by decide) rfl
  have c9 := hc 9 _ (by decide) rfl
  have c10 := hc 10 _ (by decide) rfl
  have f9 := hf (t * 28 + 9)
  have f10 := hf (t * 28 + 10)
  have hcap := h.ok.c64
  obtain ⟨h1, k1⟩ := h.cell1 ht 9 (by decide) (.int .i64 ((min (2 * (E.th t).backoff + 1) L.cap : Nat) : Int)) { E.th t with backoff := min (2 * (E.th t).backoff + 1) L.cap } rfl rfl rfl rfl rfl (by intros; rfl)
  have HH := hide h1
  have HK := hide k1
  have hmin := hide (show (if (L.cap : Int) < 2 * ((E.th t).backoff : Int) + 1 then (L.cap : Int) else 2 * ((E.th t).backoff : Int) + 1) = ((min (2 * (E.th t).backoff + 1) L.cap : Nat) : Int) by split <;> omega)
  clear h hc hf h1 k1
  go_enter Tryz.func353, Tryz.ntmps353
  go_wp2
  go_region
  rw [hmin.out]
  generalize hW1 : World.drew _ = W1
  have hr1 : RE R L S { E with th := upd E.th t { E.th t with backoff := min (2 * (E.th t).backoff + 1) L.cap } } W1 := by rw [← hW1]; exact HH.out.drew
  have hk1 : Fr L.own w W1 := by rw [← hW1]; exact HK.out.drew
  clear hW1
  obtain ⟨cv1, cf1, pv1, hc1, -, -, -, hf1⟩ := hr1.cells ht (upd_same _ _ _)
  have d10 := hc1 10 _ (by decide) rfl
  have g10 := hf1 (t * 28 + 10)
  have HR1 := hide hr1
  have HK1 := hide hk1
  clear hr1 hk1 hc1 hf1 c10 f10
  by_cases ha : (E.th t).again = true
  · have hfl := hide (show (E.th t).fail L.cap = ETh.enter { E.th t with backoff := min (2 * (E.th t).backoff + 1) L.cap } 11 by unfold ETh.fail; rw [if_pos ha])
    go_wp2_with fail
    refine (enter_w HR1.out ht 11).mono ?_
    rintro e w1 ⟨rfl, r1, k2⟩
    have HR := hide (And.intro r1 k2)
    clear r1 k2
    go_wp2
    refine bodyPost_ret (v := .tuple #[]) (by simp [results, Tryz.results353, go_sem]) rfl ⟨rfl, HR.out.1.cast ?_, HK1.out.trans HR.out.2⟩
    rw [hfl.out]
    simp only [upd_upd, upd_same]
  · have ha' : (E.th t).again = false := by simpa using ha
    have hfl := hide (show (E.th t).fail L.cap = ETh.approach { E.th t with backoff := min (2 * (E.th t).backoff + 1) L.cap, again := true } by unfold ETh.fail; rw [if_neg ha])
    obtain ⟨h2, k2⟩ := HR1.out.cell1 ht 10 (by decide) (.bool true) { E.th t with backoff := min (2 * (E.th t).backoff + 1) L.cap, again := true } (by simp [upd_same]) (by simp [upd_same]) (by simp [upd_same]) (by simp [upd_same]) (by simp [upd_same]) (by intros; simp only [upd_same]; rfl)
    have HR2 := hide h2
    have HK2 := hide k2
    clear h2 k2
    go_wp2_with fail
    refine (approach_w HR2.out ht).mono ?_
    rintro e w1 ⟨rfl, r1, k3⟩
    have HR := hide (And.intro r1 k3)
    clear r1 k3
    go_wp2
    refine bodyPost_end (v := .tuple #[]) (by simp [results, Tryz.results353, go_sem]) rfl ⟨rfl, HR.out.1.cast ?_, (HK1.out.trans HK2.out).trans HR.out.2⟩
    rw [hfl.out]
    simp only [upd_upd, upd_same]
set_option maxHeartbeats 1000000 in
theorem succeed_w (h : RE R L S E w) (ht : t < L.n) (hb : (E.th t).backoff ≤ 64) :
    Calls Tryz.prog 358 #[.pointer (some ⟨L.g, t * 28, none⟩)] w fun e w' => e = .returned (.tuple #[]) ∧ RE R L S { E with th := upd E.th t (ETh.enter { E.th t with backoff := (E.th t).backoff / 2 } 11) } w' ∧ Fr L.own w w' := by
  obtain ⟨cv, cf, pv, hc, -, -, -, hf⟩ := h.cells ht rfl
  have c9 := hc 9 _ (by decide) rfl
  have f9 := hf (t * 28 + 9)
  obtain ⟨h1, k1⟩ := h.cell1 ht 9 (by decide) (.int .i64 (((E.th t).backoff : Int) / 2)) { E.th t with backoff := (E.th t).backoff / 2 } rfl rfl rfl rfl rfl (by intros; rfl)
  have HH := hide h1
  have HK := hide k1
  clear h hc hf h1 k1
  go_enter Tryz.func358, Tryz.ntmps358
  go_wp2_with fail
  refine (enter_w HH.out ht 11).mono ?_
  rintro e w1 ⟨rfl, r1, k2⟩
  have HR := hide (And.intro r1 k2)
  clear r1 k2
  go_wp2
  refine bodyPost_end (v := .tuple #[]) (by simp [results, Tryz.results358, go_sem]) rfl ⟨rfl, HR.out.1.cast ?_, HK.out.trans HR.out.2⟩
  simp only [upd_upd, upd_same]
set_option maxHeartbeats 1000000 in
theorem look_w (h : RE R L S E w) (ht : t < L.n) :
    Calls Tryz.prog 340 #[.pointer (some ⟨L.g, t * 28, none⟩)] w fun e w' => e = .returned (.tuple #[]) ∧ RE R L S { E with th := upd E.th t (ETh.enter { E.th t with stamp := E.pst, srec := E.prec } 5) } w' ∧ Fr L.own w w' := by
  obtain ⟨cv, cf, pv, hc, -, -, -, hf⟩ := h.cells ht rfl
  have c0 : w.cell? ⟨L.g, t * 28, none⟩ = some (.pointer (some ⟨L.bS, 0, none⟩)) := hc 0 _ (by decide) rfl
  have c13 := hc 13 _ (by decide) rfl
  have f13 := hf (t * 28 + 13)
  have s5 : w.cell? ⟨L.bS, 5, none⟩ = some _ := h.sh.cell_of rfl
  obtain ⟨h1, k1⟩ := h.cell1 ht 13 (by decide) (.int .i64 ((E.pst : Int) * 129 + (E.prec : Int))) { E.th t with stamp := E.pst, srec := E.prec } rfl rfl rfl rfl rfl (by intros; rfl)
  have HH := hide h1
  have HK := hide k1
  have HS := hide s5
  clear h hc hf h1 k1 s5
  go_enter Tryz.func340, Tryz.ntmps340
  go_wp2_with fail
  refine (pubRead L.bS 5 _ _ HS.out).mono ?_
  rintro e w1 ⟨rfl, rfl⟩
  go_wp2_with fail
  refine (enter_w HH.out ht 5).mono ?_
  rintro e w1 ⟨rfl, r1, k2⟩
  have HR := hide (And.intro r1 k2)
  clear r1 k2
  go_wp2
  refine bodyPost_end (v := .tuple #[]) (by simp [results, Tryz.results340, go_sem]) rfl ⟨rfl, HR.out.1.cast ?_, HK.out.trans HR.out.2⟩
  simp only [upd_upd, upd_same]
set_option maxHeartbeats 1000000 in
theorem find_w (h : RE R L S E w) (ht : t < L.n) (hp : E.prec < 2 * L.n + 1) (hN : E.pst ≤ 1000000000000) :
    Calls Tryz.prog 347 #[.pointer (some ⟨L.g, t * 28, none⟩)] w fun e w' => e = .returned (.tuple #[]) ∧ RE R L S { E with th := upd E.th t (ETh.enter { E.th t with found := E.prec } 12) } w' ∧ Fr L.own w w' := by
  obtain ⟨cv, cf, pv, hc, hcv, hcf, -, hf⟩ := h.cells ht rfl
  obtain ⟨c0, c1, rfl⟩ := list_cells hcv.1
  obtain ⟨d0, d1, rfl⟩ := list_cells hcf.1
  have hn := h.ok.n64
  have c0 : w.cell? ⟨L.g, t * 28, none⟩ = some (.pointer (some ⟨L.bS, 0, none⟩)) := hc 0 _ (by decide) rfl
  have c22 := hc 24 _ (by decide) rfl
  have f22 := hf (t * 28 + 24)
  have s5 : w.cell? ⟨L.bS, 5, none⟩ = some _ := h.sh.cell_of rfl
  obtain ⟨h1, k1⟩ := h.cell1 ht 24 (by decide) (.int .i64 (E.prec : Int)) { E.th t with found := E.prec } rfl rfl rfl rfl rfl (by intros; rfl)
  have HH := hide h1
  have HK := hide k1
  have HS := hide s5
  have hm := hide (show ((E.pst : Int) * 129 + (E.prec : Int)) % 129 = (E.prec : Int) by omega)
  clear h hc hf h1 k1 s5 hcv hcf
  go_enter Tryz.func347, Tryz.ntmps347
  go_wp2_with fail
  refine (pubRead L.bS 5 _ _ HS.out).mono ?_
  rintro e w1 ⟨rfl, rfl⟩
  go_wp2_with fail
  refine (pubRecord _ _ (by omega) (by omega)).mono ?_
  rintro e w1 ⟨rfl, rfl⟩
  rw [hm.out]
  go_wp2_with fail
  refine (enter_w HH.out ht 12).mono ?_
  rintro e w1 ⟨rfl, r1, k2⟩
  have HR := hide (And.intro r1 k2)
  clear r1 k2
  go_wp2
  refine bodyPost_end (v := .tuple #[]) (by simp [results, Tryz.results347, go_sem]) rfl ⟨rfl, HR.out.1.cast ?_, HK.out.trans HR.out.2⟩
  simp only [upd_upd, upd_same]
end
end Go.Proofs.YtefjhnhdagolhaaGreat.tree
namespace Go.Proofs.YtefjhnhdagolhaaGreat.tree
open Go.RowKit
open M (upd upd_same upd_other Op Ver ETh ESt tw wds statusAt valueAt)
attribute [local go_sem ↓] Go.wp_at_zero Go.wp_at_succ
section
variable {σ : Type} {R : SR σ} {L : Lt} {S : Nat → Prop} {E E' : ESt σ} {w : World} {t : Nat}
theorem RE.recd (h : RE R L S E w) {r : Nat} (hr : r < 2 * L.n + 1) : w.cell? ⟨L.bP, r * 2, none⟩ = some (.slice (some ⟨L.bW r, 0, none⟩) (wds L.n) (wds L.n)) := by
  obtain ⟨sp, h1, -⟩ := h.po
  have := h1.cell hr (show 0 < 2 by decide)
  simpa using this
set_option maxRecDepth 20000 in
set_option maxHeartbeats 2000000 in
theorem takeStatus_w (h : RE R L S E w) (ht : t < L.n) (hr : (E.th t).found < 2 * L.n + 1) :
    Calls Tryz.prog 348 #[.pointer (some ⟨L.g, t * 28, none⟩)] w fun e w' => e = .returned (.tuple #[]) ∧ Left R L S w { E with th := upd E.th t (ETh.enter { E.th t with sta := E.rw (E.th t).found (statusAt L.n t) } 13) } w' := by
  obtain ⟨cv, cf, pv, hc, hcv, hcf, -, hf⟩ := h.cells ht rfl
  obtain ⟨c0, c1, rfl⟩ := list_cells hcv.1
  obtain ⟨d0, d1, rfl⟩ := list_cells hcf.1
  have hn := h.ok.n64
  have hn1 := h.ok.n1
  have c0 : w.cell? ⟨L.g, t * 28, none⟩ = some (.pointer (some ⟨L.bS, 0, none⟩)) := hc 0 _ (by decide) rfl
  have c1 := hc 1 _ (by decide) rfl
  have cfd := hc 24 _ (by decide) rfl
  have th : w.there L.g (t * 28 + 25) 1 := by obtain ⟨T, q, -⟩ := h.th; exact q.there (Nat.lt_of_lt_of_le ht h.ok.gn) (by decide)
  have s0 : w.cell? ⟨L.bS, 0, none⟩ = some (.int .i64 (L.n : Int)) := h.sh.cell_of rfl
  have s4 : w.cell? ⟨L.bS, 4, none⟩ = some (.slice (some ⟨L.bP, 0, none⟩) (2 * L.n + 1) (2 * L.n + 1)) := h.sh.cell_of rfl
  have p0 := h.recd hr
  have hsa : statusAt L.n t < wds L.n := by unfold statusAt wds; omega
  have hwd : wds L.n ≤ 200 := by unfold wds M.tw; omega
  have q0 : w.cell? ⟨L.bW (E.th t).found, statusAt L.n t, none⟩ = some (.int .i64 (E.rw (E.th t).found (statusAt L.n t))) := (h.rw _ hr).cell hsa
  generalize hk : statusAt L.n t = k at *
  have hr' : ((E.th t).found : Int) < 2 * (L.n : Int) + 1 := by omega
  have hk' : (k : Int) < (wds L.n : Int) := by omega
  have hSg : L.bS ≠ L.g := by obtain ⟨T, q, -⟩ := h.th; exact Row.apart h.sh q (by decide)
  have hPg : L.bP ≠ L.g := by obtain ⟨T, q, -⟩ := h.th; obtain ⟨sp, q2, -⟩ := h.po; exact Row.apart q2 q (by decide)
  have hWg : L.bW (E.th t).found ≠ L.g := by obtain ⟨T, q, -⟩ := h.th; exact Row.apart (h.rw _ hr) q (by decide)
  have HH := hide h
  clear h hc hf hcv hcf
  go_enter Tryz.func348, Tryz.ntmps348
  go_wp2
  refine wp_region_held_drew (S := (fun w' => w'.cell? ⟨L.g, t * 28, none⟩ = some (.pointer (some ⟨L.bS, 0, none⟩)) ∧ w'.cell? ⟨L.g, t * 28 + 1, none⟩ = some (.int .i64 (t : Int)) ∧ w'.cell? ⟨L.g, t * 28 + 24, none⟩ = some (.int .i64 ((E.th t).found : Int)) ∧ w'.cell? ⟨L.bS, 0, none⟩ = some (.int .i64 (L.n : Int)) ∧ w'.cell? ⟨L.bS, 4, none⟩ = some (.slice (some ⟨L.bP, 0, none⟩) (2 * L.n + 1) (2 * L.n + 1)) ∧ w'.cell? ⟨L.bP, (E.th t).found * 2, none⟩ = some (.slice (some ⟨L.bW (E.th t).found, 0, none⟩) (wds L.n) (wds L.n)) ∧ w'.cell? ⟨L.bW (E.th t).found, k, none⟩ = some (.int .i64 (E.rw (E.th t).found k)) ∧ w'.there (L.g) (t * 28 + 25) 1)) (by kernel_rfl) ?_ (fun hHeld => ?_)
  · exact ⟨c0, c1, cfd, s0, s4, p0, q0, th⟩
  refine tk1 0 ⟨some 2, .move (.tmp 0), 436, "thread.go:160", #[], none⟩ _ ?_
  (try go_frame)
  refine tk1 1 ⟨some 3, .move (.tmp 0), 436, "thread.go:160", #[], none⟩ _ ?_
  (try go_frame)
  refine tk1 2 ⟨some 4, .nilCheck (.tmp 3), 0, "thread.go:160", #[⟨1, .data⟩], none⟩ _ ?_
  (try go_frame)
  refine tk1 3 ⟨some 5, .fieldAddr 273 (.tmp 4) 0, 0, "thread.go:160", #[⟨2, .data⟩], none⟩ _ ?_
  (try go_frame)
  refine tk1 4 ⟨some 6, .load 261 (.tmp 5), 261, "thread.go:160", #[⟨3, .data⟩], none⟩ _ ?_
  (try go_frame)
  refine tk1 5 ⟨some 7, .nilCheck (.tmp 6), 0, "thread.go:160", #[⟨4, .data⟩], none⟩ _ ?_
  (try go_frame)
  refine tk1 6 ⟨some 8, .fieldAddr 336 (.tmp 7) 4, 0, "thread.go:160", #[⟨5, .data⟩], none⟩ _ ?_
  (try go_frame)
  refine tk1 7 ⟨some 9, .load 334 (.tmp 8), 334, "thread.go:160", #[⟨6, .data⟩], none⟩ _ ?_
  (try go_frame)
  refine tk1 8 ⟨some 10, .move (.tmp 0), 436, "thread.go:160", #[], none⟩ _ ?_
  (try go_frame)
  refine tk1 9 ⟨some 11, .nilCheck (.tmp 10), 0, "thread.go:160", #[⟨8, .data⟩], none⟩ _ ?_
  (try go_frame)
  refine tk1 10 ⟨some 12, .fieldAddr 273 (.tmp 11) 16, 0, "thread.go:160", #[⟨9, .data⟩], none⟩ _ ?_
  (try go_frame)
  refine tk1 11 ⟨some 13, .load 3 (.tmp 12), 3, "thread.go:160", #[⟨10, .data⟩], none⟩ _ ?_
  (try go_frame)
  refine tk1 12 ⟨some 14, .indexAddr 334 (.tmp 9) (.tmp 13), 0, "thread.go:160", #[⟨7, .data⟩, ⟨11, .data⟩], none⟩ _ ?_
  (try go_frame)
  refine tk1 13 ⟨some 15, .fieldAddr 344 (.tmp 14) 0, 0, "thread.go:160", #[⟨12, .data⟩], none⟩ _ ?_
  (try go_frame)
  refine tk1 14 ⟨some 16, .load 288 (.tmp 15), 288, "thread.go:160", #[⟨13, .data⟩], none⟩ _ ?_
  (try go_frame)
  refine tk1 15 ⟨some 17, .move (.tmp 0), 436, "thread.go:160", #[], none⟩ _ ?_
  (try go_frame)
  refine tk1 16 ⟨some 18, .nilCheck (.tmp 17), 0, "thread.go:160", #[⟨15, .data⟩], none⟩ _ ?_
  (try go_frame)
  refine tk1 17 ⟨some 19, .fieldAddr 273 (.tmp 18) 0, 0, "thread.go:160", #[⟨16, .data⟩], none⟩ _ ?_
  (try go_frame)
  refine tk1 18 ⟨some 20, .load 261 (.tmp 19), 261, "thread.go:160", #[⟨17, .data⟩], none⟩ _ ?_
  (try go_frame)
  refine tk1 19 ⟨some 21, .nilCheck (.tmp 20), 0, "thread.go:160", #[⟨18, .data⟩], none⟩ _ ?_
  (try go_frame)
  refine tk1 20 ⟨some 22, .fieldAddr 336 (.tmp 21) 0, 0, "thread.go:160", #[⟨19, .data⟩], none⟩ _ ?_
  (try go_frame)
  refine tk1 21 ⟨some 23, .load 287 (.tmp 22), 287, "thread.go:160", #[⟨20, .data⟩], none⟩ _ ?_
  (try go_frame)
  refine tk1 22 ⟨some 24, .move (.tmp 0), 436, "thread.go:160", #[], none⟩ _ ?_
  (try go_frame)
  refine tk1 23 ⟨some 25, .nilCheck (.tmp 24), 0, "thread.go:160", #[⟨22, .data⟩], none⟩ _ ?_
  (try go_frame)
  refine tk1 24 ⟨some 26, .fieldAddr 273 (.tmp 25) 1, 0, "thread.go:160", #[⟨23, .data⟩], none⟩ _ ?_
  (try go_frame)
  refine tk1 25 ⟨some 27, .load 3 (.tmp 26), 3, "thread.go:160", #[⟨24, .data⟩], none⟩ _ ?_
  (try go_frame)
  refine wpAnyH_ready (rs := [26]) (by kernel_rfl) (by simp) ?_
  refine AllReadyH.cons (o := ⟨some 28, .call ⟨.value (.func 236), #[.tmp 23, .tmp 27], #[287, 3]⟩, 3, "thread.go:160", #[⟨21, .data⟩, ⟨25, .data⟩], none⟩) (by rfl) (fun K hK => ?_) AllReadyH.nil
  go_simp
  refine (statusAt_any L.n t _ hn1 hn ht).mono ?_
  rintro e w2 ⟨rfl, hb2⟩
  rw [hk]
  go_wp2_with fail
  refine hK.out _ _ ?_ (fun hHeld => ?_)
  · exact ⟨cell_later hb2 hHeld.1, cell_later hb2 hHeld.2.1, cell_later hb2 hHeld.2.2.1, cell_later hb2 hHeld.2.2.2.1, cell_later hb2 hHeld.2.2.2.2.1, cell_later hb2 hHeld.2.2.2.2.2.1, cell_later hb2 hHeld.2.2.2.2.2.2.1, there_later hb2 hHeld.2.2.2.2.2.2.2⟩
  clear hK K
  (try go_frame)
  refine tk1 27 ⟨some 29, .indexAddr 288 (.tmp 16) (.tmp 28), 0, "thread.go:160", #[⟨14, .data⟩, ⟨26, .data⟩], none⟩ _ ?_
  (try go_frame)
  refine wpAnyH_ready (rs := [28]) (by kernel_rfl) (by simp) ?_
  refine AllReadyH.cons (o := ⟨some 30, .call ⟨.value (.func 225), #[.tmp 29], #[387]⟩, 3, "thread.go:160", #[⟨27, .data⟩, ⟨26, .chain⟩], none⟩) (by rfl) (fun K hK => ?_) AllReadyH.nil
  go_simp
  refine (wordRead (L.bW (E.th t).found) k _ _ hHeld.2.2.2.2.2.2.1).mono ?_
  rintro e w3 ⟨rfl, rfl⟩
  go_wp2_with fail
  refine hK.out _ _ ?_ (fun hHeld => ?_)
  · exact hHeld
  clear hK K
  (try go_frame)
  refine tk1 29 ⟨some 31, .nilCheck (.tmp 2), 0, "thread.go:160", #[⟨0, .data⟩, ⟨0, .phase⟩, ⟨1, .phase⟩, ⟨2, .phase⟩, ⟨3, .phase⟩, ⟨4, .phase⟩, ⟨5, .phase⟩, ⟨6, .phase⟩, ⟨7, .phase⟩, ⟨8, .phase⟩, ⟨9, .phase⟩, ⟨10, .phase⟩, ⟨11, .phase⟩, ⟨12, .phase⟩, ⟨13, .phase⟩, ⟨14, .phase⟩, ⟨15, .phase⟩, ⟨16, .phase⟩, ⟨17, .phase⟩, ⟨18, .phase⟩, ⟨19, .phase⟩, ⟨20, .phase⟩, ⟨21, .phase⟩, ⟨22, .phase⟩, ⟨23, .phase⟩, ⟨24, .phase⟩, ⟨25, .phase⟩, ⟨26, .phase⟩, ⟨27, .phase⟩, ⟨28, .phase⟩], none⟩ _ ?_
  (try go_frame)
  refine tk1 30 ⟨some 32, .fieldAddr 273 (.tmp 31) 17, 0, "thread.go:160", #[⟨29, .data⟩, ⟨0, .phase⟩, ⟨1, .phase⟩, ⟨2, .phase⟩, ⟨3, .phase⟩, ⟨4, .phase⟩, ⟨5, .phase⟩, ⟨6, .phase⟩, ⟨7, .phase⟩, ⟨8, .phase⟩, ⟨9, .phase⟩, ⟨10, .phase⟩, ⟨11, .phase⟩, ⟨12, .phase⟩, ⟨13, .phase⟩, ⟨14, .phase⟩, ⟨15, .phase⟩, ⟨16, .phase⟩, ⟨17, .phase⟩, ⟨18, .phase⟩, ⟨19, .phase⟩, ⟨20, .phase⟩, ⟨21, .phase⟩, ⟨22, .phase⟩, ⟨23, .phase⟩, ⟨24, .phase⟩, ⟨25, .phase⟩, ⟨26, .phase⟩, ⟨27, .phase⟩, ⟨28, .phase⟩], none⟩ _ ?_
  (try go_frame)
  refine tk1 31 ⟨some 33, .fieldAddr 94 (.tmp 32) 0, 0, "thread.go:160", #[⟨30, .data⟩, ⟨0, .phase⟩, ⟨1, .phase⟩, ⟨2, .phase⟩, ⟨3, .phase⟩, ⟨4, .phase⟩, ⟨5, .phase⟩, ⟨6, .phase⟩, ⟨7, .phase⟩, ⟨8, .phase⟩, ⟨9, .phase⟩, ⟨10, .phase⟩, ⟨11, .phase⟩, ⟨12, .phase⟩, ⟨13, .phase⟩, ⟨14, .phase⟩, ⟨15, .phase⟩, ⟨16, .phase⟩, ⟨17, .phase⟩, ⟨18, .phase⟩, ⟨19, .phase⟩, ⟨20, .phase⟩, ⟨21, .phase⟩, ⟨22, .phase⟩, ⟨23, .phase⟩, ⟨24, .phase⟩, ⟨25, .phase⟩, ⟨26, .phase⟩, ⟨27, .phase⟩, ⟨28, .phase⟩], none⟩ _ ?_
  (try go_frame)
  refine wpAnyH_ready (rs := [32]) (by kernel_rfl) (by simp) ?_
  refine AllReadyH.cons (o := ⟨none, .store 3 (.tmp 33) (.tmp 30), 0, "thread.go:160", #[⟨31, .data⟩, ⟨28, .data⟩, ⟨28, .chain⟩, ⟨0, .phase⟩, ⟨1, .phase⟩, ⟨2, .phase⟩, ⟨3, .phase⟩, ⟨4, .phase⟩, ⟨5, .phase⟩, ⟨6, .phase⟩, ⟨7, .phase⟩, ⟨8, .phase⟩, ⟨9, .phase⟩, ⟨10, .phase⟩, ⟨11, .phase⟩, ⟨12, .phase⟩, ⟨13, .phase⟩, ⟨14, .phase⟩, ⟨15, .phase⟩, ⟨16, .phase⟩, ⟨17, .phase⟩, ⟨18, .phase⟩, ⟨19, .phase⟩, ⟨20, .phase⟩, ⟨21, .phase⟩, ⟨22, .phase⟩, ⟨23, .phase⟩, ⟨24, .phase⟩, ⟨25, .phase⟩, ⟨26, .phase⟩, ⟨27, .phase⟩, ⟨28, .phase⟩], none⟩) (by rfl) (fun K hK => ?_) AllReadyH.nil
  rw [if_pos (by rfl)]
  refine wp_store_one _ _ _ rfl L.g (t * 28 + 25) (.int .i64 (E.rw (E.th t).found k)) rfl rfl rfl rfl hHeld.2.2.2.2.2.2.2 (by kernel_rfl) ?_
  refine hK.out _ _ ?_ (fun hHeld => ?_)
  · exact ⟨cell_kept hHeld.1 (by first | exact .inr (by dsimp only; omega) | exact .inl (by assumption) | exact .inl (Ne.symm (by assumption))), cell_kept hHeld.2.1 (by first | exact .inr (by dsimp only; omega) | exact .inl (by assumption) | exact .inl (Ne.symm (by assumption))), cell_kept hHeld.2.2.1 (by first | exact .inr (by dsimp only; omega) | exact .inl (by assumption) | exact .inl (Ne.symm (by assumption))), cell_kept hHeld.2.2.2.1 (by first | exact .inr (by dsimp only; omega) | exact .inl (by assumption) | exact .inl (Ne.symm (by assumption))), cell_kept hHeld.2.2.2.2.1 (by first | exact .inr (by dsimp only; omega) | exact .inl (by assumption) | exact .inl (Ne.symm (by assumption))), cell_kept hHeld.2.2.2.2.2.1 (by first | exact .inr (by dsimp only; omega) | exact .inl (by assumption) | exact .inl (Ne.symm (by assumption))), cell_kept hHeld.2.2.2.2.2.2.1 (by first | exact .inr (by dsimp only; omega) | exact .inl (by assumption) | exact .inl (Ne.symm (by assumption))), there_set hHeld.2.2.2.2.2.2.2 _ rfl _⟩
  clear hK K
  (try go_frame)
  refine wpAnyH_done (by kernel_rfl) ?_ _
  have hb3 := Below.undrew hb2
  have r3 := HH.out.below hb3
  obtain ⟨h1, k1⟩ := r3.cell1 ht 25 (by decide) (.int .i64 (E.rw (E.th t).found k)) { E.th t with sta := E.rw (E.th t).found k } rfl rfl rfl rfl rfl (by intros; rfl)
  have HL := hide (Left.below HH.out hb3)
  have H1 := hide h1
  have K1 := hide k1
  clear h1 k1 r3 hHeld hb2 hb3
  go_wp2_with fail
  refine (enter_w H1.out ht 13).mono ?_
  rintro e w4 ⟨rfl, r4, k4⟩
  have HR := hide (And.intro r4 k4)
  clear r4 k4
  go_wp2
  refine bodyPost_end (v := .tuple #[]) (by simp [results, Tryz.results348, go_sem]) rfl ⟨rfl, HL.out.next (Left.of (HR.out.1.cast ?_) (K1.out.trans HR.out.2) rfl)⟩
  simp only [upd_upd, upd_same]
set_option maxRecDepth 20000 in
set_option maxHeartbeats 2000000 in
theorem takeValue_w (h : RE R L S E w) (ht : t < L.n) (hr : (E.th t).found < 2 * L.n + 1) :
    Calls Tryz.prog 349 #[.pointer (some ⟨L.g, t * 28, none⟩)] w fun e w' => e = .returned (.tuple #[]) ∧ Left R L S w { E with th := upd E.th t (ETh.enter { E.th t with val := E.rw (E.th t).found (valueAt L.n t), ended := true } 0) } w' := by
  obtain ⟨cv, cf, pv, hc, hcv, hcf, -, hf⟩ := h.cells ht rfl
  obtain ⟨c0, c1, rfl⟩ := list_cells hcv.1
  obtain ⟨d0, d1, rfl⟩ := list_cells hcf.1
  have hn := h.ok.n64
  have hn1 := h.ok.n1
  have c0 : w.cell? ⟨L.g, t * 28, none⟩ = some (.pointer (some ⟨L.bS, 0, none⟩)) := hc 0 _ (by decide) rfl
  have c1 := hc 1 _ (by decide) rfl
  have cfd := hc 24 _ (by decide) rfl
  have th : w.there L.g (t * 28 + 26) 1 := by obtain ⟨T, q, -⟩ := h.th; exact q.there (Nat.lt_of_lt_of_le ht h.ok.gn) (by decide)
  have s0 : w.cell? ⟨L.bS, 0, none⟩ = some (.int .i64 (L.n : Int)) := h.sh.cell_of rfl
  have s4 : w.cell? ⟨L.bS, 4, none⟩ = some (.slice (some ⟨L.bP, 0, none⟩) (2 * L.n + 1) (2 * L.n + 1)) := h.sh.cell_of rfl
  have p0 := h.recd hr
  have hsa : valueAt L.n t < wds L.n := by unfold valueAt wds; omega
  have hwd : wds L.n ≤ 200 := by unfold wds M.tw; omega
  have q0 : w.cell? ⟨L.bW (E.th t).found, valueAt L.n t, none⟩ = some (.int .i64 (E.rw (E.th t).found (valueAt L.n t))) := (h.rw _ hr).cell hsa
  generalize hk : valueAt L.n t = k at *
  have hr' : ((E.th t).found : Int) < 2 * (L.n : Int) + 1 := by omega
  have hk' : (k : Int) < (wds L.n : Int) := by omega
  have hSg : L.bS ≠ L.g := by obtain ⟨T, q, -⟩ := h.th; exact Row.apart h.sh q (by decide)
  have hPg : L.bP ≠ L.g := by obtain ⟨T, q, -⟩ := h.th; obtain ⟨sp, q2, -⟩ := h.po; exact Row.apart q2 q (by decide)
  have hWg : L.bW (E.th t).found ≠ L.g := by obtain ⟨T, q, -⟩ := h.th; exact Row.apart (h.rw _ hr) q (by decide)
  have HH := hide h
  clear h hc hf hcv hcf
  go_enter Tryz.func349, Tryz.ntmps349
  go_wp2
  refine wp_region_held_drew (S := (fun w' => w'.cell? ⟨L.g, t * 28, none⟩ = some (.pointer (some ⟨L.bS, 0, none⟩)) ∧ w'.cell? ⟨L.g, t * 28 + 1, none⟩ = some (.int .i64 (t : Int)) ∧ w'.cell? ⟨L.g, t * 28 + 24, none⟩ = some (.int .i64 ((E.th t).found : Int)) ∧ w'.cell? ⟨L.bS, 0, none⟩ = some (.int .i64 (L.n : Int)) ∧ w'.cell? ⟨L.bS, 4, none⟩ = some (.slice (some ⟨L.bP, 0, none⟩) (2 * L.n + 1) (2 * L.n + 1)) ∧ w'.cell? ⟨L.bP, (E.th t).found * 2, none⟩ = some (.slice (some ⟨L.bW (E.th t).found, 0, none⟩) (wds L.n) (wds L.n)) ∧ w'.cell? ⟨L.bW (E.th t).found, k, none⟩ = some (.int .i64 (E.rw (E.th t).found k)) ∧ w'.there (L.g) (t * 28 + 26) 1)) (by kernel_rfl) ?_ (fun hHeld => ?_)
  · exact ⟨c0, c1, cfd, s0, s4, p0, q0, th⟩
  refine tk1 0 ⟨some 2, .move (.tmp 0), 436, "thread.go:165", #[], none⟩ _ ?_
  (try go_frame)
  refine tk1 1 ⟨some 3, .move (.tmp 0), 436, "thread.go:165", #[], none⟩ _ ?_
  (try go_frame)
  refine tk1 2 ⟨some 4, .nilCheck (.tmp 3), 0, "thread.go:165", #[⟨1, .data⟩], none⟩ _ ?_
  (try go_frame)
  refine tk1 3 ⟨some 5, .fieldAddr 273 (.tmp 4) 0, 0, "thread.go:165", #[⟨2, .data⟩], none⟩ _ ?_
  (try go_frame)
  refine tk1 4 ⟨some 6, .load 261 (.tmp 5), 261, "thread.go:165", #[⟨3, .data⟩], none⟩ _ ?_
  (try go_frame)
  refine tk1 5 ⟨some 7, .nilCheck (.tmp 6), 0, "thread.go:165", #[⟨4, .data⟩], none⟩ _ ?_
  (try go_frame)
  refine tk1 6 ⟨some 8, .fieldAddr 336 (.tmp 7) 4, 0, "thread.go:165", #[⟨5, .data⟩], none⟩ _ ?_
  (try go_frame)
  refine tk1 7 ⟨some 9, .load 334 (.tmp 8), 334, "thread.go:165", #[⟨6, .data⟩], none⟩ _ ?_
  (try go_frame)
  refine tk1 8 ⟨some 10, .move (.tmp 0), 436, "thread.go:165", #[], none⟩ _ ?_
  (try go_frame)
  refine tk1 9 ⟨some 11, .nilCheck (.tmp 10), 0, "thread.go:165", #[⟨8, .data⟩], none⟩ _ ?_
  (try go_frame)
  refine tk1 10 ⟨some 12, .fieldAddr 273 (.tmp 11) 16, 0, "thread.go:165", #[⟨9, .data⟩], none⟩ _ ?_
  (try go_frame)
  refine tk1 11 ⟨some 13, .load 3 (.tmp 12), 3, "thread.go:165", #[⟨10, .data⟩], none⟩ _ ?_
  (try go_frame)
  refine tk1 12 ⟨some 14, .indexAddr 334 (.tmp 9) (.tmp 13), 0, "thread.go:165", #[⟨7, .data⟩, ⟨11, .data⟩], none⟩ _ ?_
  (try go_frame)
  refine tk1 13 ⟨some 15, .fieldAddr 344 (.tmp 14) 0, 0, "thread.go:165", #[⟨12, .data⟩], none⟩ _ ?_
  (try go_frame)
  refine tk1 14 ⟨some 16, .load 288 (.tmp 15), 288, "thread.go:165", #[⟨13, .data⟩], none⟩ _ ?_
  (try go_frame)
  refine tk1 15 ⟨some 17, .move (.tmp 0), 436, "thread.go:165", #[], none⟩ _ ?_
  (try go_frame)
  refine tk1 16 ⟨some 18, .nilCheck (.tmp 17), 0, "thread.go:165", #[⟨15, .data⟩], none⟩ _ ?_
  (try go_frame)
  refine tk1 17 ⟨some 19, .fieldAddr 273 (.tmp 18) 0, 0, "thread.go:165", #[⟨16, .data⟩], none⟩ _ ?_
  (try go_frame)
  refine tk1 18 ⟨some 20, .load 261 (.tmp 19), 261, "thread.go:165", #[⟨17, .data⟩], none⟩ _ ?_
  (try go_frame)
  refine tk1 19 ⟨some 21, .nilCheck (.tmp 20), 0, "thread.go:165", #[⟨18, .data⟩], none⟩ _ ?_
  (try go_frame)
  refine tk1 20 ⟨some 22, .fieldAddr 336 (.tmp 21) 0, 0, "thread.go:165", #[⟨19, .data⟩], none⟩ _ ?_
  (try go_frame)
  refine tk1 21 ⟨some 23, .load 287 (.tmp 22), 287, "thread.go:165", #[⟨20, .data⟩], none⟩ _ ?_
  (try go_frame)
  refine tk1 22 ⟨some 24, .move (.tmp 0), 436, "thread.go:165", #[], none⟩ _ ?_
  (try go_frame)
  refine tk1 23 ⟨some 25, .nilCheck (.tmp 24), 0, "thread.go:165", #[⟨22, .data⟩], none⟩ _ ?_
  (try go_frame)
  refine tk1 24 ⟨some 26, .fieldAddr 273 (.tmp 25) 1, 0, "thread.go:165", #[⟨23, .data⟩], none⟩ _ ?_
  (try go_frame)
  refine tk1 25 ⟨some 27, .load 3 (.tmp 26), 3, "thread.go:165", #[⟨24, .data⟩], none⟩ _ ?_
  (try go_frame)
  refine wpAnyH_ready (rs := [26]) (by kernel_rfl) (by simp) ?_
  refine AllReadyH.cons (o := ⟨some 28, .call ⟨.value (.func 237), #[.tmp 23, .tmp 27], #[287, 3]⟩, 3, "thread.go:165", #[⟨21, .data⟩, ⟨25, .data⟩], none⟩) (by rfl) (fun K hK => ?_) AllReadyH.nil
  go_simp
  refine (valueAt_any L.n t _ hn1 hn ht).mono ?_
  rintro e w2 ⟨rfl, hb2⟩
  rw [hk]
  go_wp2_with fail
  refine hK.out _ _ ?_ (fun hHeld => ?_)
  · exact ⟨cell_later hb2 hHeld.1, cell_later hb2 hHeld.2.1, cell_later hb2 hHeld.2.2.1, cell_later hb2 hHeld.2.2.2.1, cell_later hb2 hHeld.2.2.2.2.1, cell_later hb2 hHeld.2.2.2.2.2.1, cell_later hb2 hHeld.2.2.2.2.2.2.1, there_later hb2 hHeld.2.2.2.2.2.2.2⟩
  clear hK K
  (try go_frame)
  refine tk1 27 ⟨some 29, .indexAddr 288 (.tmp 16) (.tmp 28), 0, "thread.go:165", #[⟨14, .data⟩, ⟨26, .data⟩], none⟩ _ ?_
  (try go_frame)
  refine wpAnyH_ready (rs := [28]) (by kernel_rfl) (by simp) ?_
  refine AllReadyH.cons (o := ⟨some 30, .call ⟨.value (.func 225), #[.tmp 29], #[387]⟩, 3, "thread.go:165", #[⟨27, .data⟩, ⟨26, .chain⟩], none⟩) (by rfl) (fun K hK => ?_) AllReadyH.nil
  go_simp
  refine (wordRead (L.bW (E.th t).found) k _ _ hHeld.2.2.2.2.2.2.1).mono ?_
  rintro e w3 ⟨rfl, rfl⟩
  go_wp2_with fail
  refine hK.out _ _ ?_ (fun hHeld => ?_)
  · exact hHeld
  clear hK K
  (try go_frame)
  refine tk1 29 ⟨some 31, .nilCheck (.tmp 2), 0, "thread.go:165", #[⟨0, .data⟩, ⟨0, .phase⟩, ⟨1, .phase⟩, ⟨2, .phase⟩, ⟨3, .phase⟩, ⟨4, .phase⟩, ⟨5, .phase⟩, ⟨6, .phase⟩, ⟨7, .phase⟩, ⟨8, .phase⟩, ⟨9, .phase⟩, ⟨10, .phase⟩, ⟨11, .phase⟩, ⟨12, .phase⟩, ⟨13, .phase⟩, ⟨14, .phase⟩, ⟨15, .phase⟩, ⟨16, .phase⟩, ⟨17, .phase⟩, ⟨18, .phase⟩, ⟨19, .phase⟩, ⟨20, .phase⟩, ⟨21, .phase⟩, ⟨22, .phase⟩, ⟨23, .phase⟩, ⟨24, .phase⟩, ⟨25, .phase⟩, ⟨26, .phase⟩, ⟨27, .phase⟩, ⟨28, .phase⟩], none⟩ _ ?_
  (try go_frame)
  refine tk1 30 ⟨some 32, .fieldAddr 273 (.tmp 31) 17, 0, "thread.go:165", #[⟨29, .data⟩, ⟨0, .phase⟩, ⟨1, .phase⟩, ⟨2, .phase⟩, ⟨3, .phase⟩, ⟨4, .phase⟩, ⟨5, .phase⟩, ⟨6, .phase⟩, ⟨7, .phase⟩, ⟨8, .phase⟩, ⟨9, .phase⟩, ⟨10, .phase⟩, ⟨11, .phase⟩, ⟨12, .phase⟩, ⟨13, .phase⟩, ⟨14, .phase⟩, ⟨15, .phase⟩, ⟨16, .phase⟩, ⟨17, .phase⟩, ⟨18, .phase⟩, ⟨19, .phase⟩, ⟨20, .phase⟩, ⟨21, .phase⟩, ⟨22, .phase⟩, ⟨23, .phase⟩, ⟨24, .phase⟩, ⟨25, .phase⟩, ⟨26, .phase⟩, ⟨27, .phase⟩, ⟨28, .phase⟩], none⟩ _ ?_
  (try go_frame)
  refine tk1 31 ⟨some 33, .fieldAddr 94 (.tmp 32) 1, 0, "thread.go:165", #[⟨30, .data⟩, ⟨0, .phase⟩, ⟨1, .phase⟩, ⟨2, .phase⟩, ⟨3, .phase⟩, ⟨4, .phase⟩, ⟨5, .phase⟩, ⟨6, .phase⟩, ⟨7, .phase⟩, ⟨8, .phase⟩, ⟨9, .phase⟩, ⟨10, .phase⟩, ⟨11, .phase⟩, ⟨12, .phase⟩, ⟨13, .phase⟩, ⟨14, .phase⟩, ⟨15, .phase⟩, ⟨16, .phase⟩, ⟨17, .phase⟩, ⟨18, .phase⟩, ⟨19, .phase⟩, ⟨20, .phase⟩, ⟨21, .phase⟩, ⟨22, .phase⟩, ⟨23, .phase⟩, ⟨24, .phase⟩, ⟨25, .phase⟩, ⟨26, .phase⟩, ⟨27, .phase⟩, ⟨28, .phase⟩], none⟩ _ ?_
  (try go_frame)
  refine wpAnyH_ready (rs := [32]) (by kernel_rfl) (by simp) ?_
  refine AllReadyH.cons (o := ⟨none, .store 3 (.tmp 33) (.tmp 30), 0, "thread.go:165", #[⟨31, .data⟩, ⟨28, .data⟩, ⟨28, .chain⟩, ⟨0, .phase⟩, ⟨1, .phase⟩, ⟨2, .phase⟩, ⟨3, .phase⟩, ⟨4, .phase⟩, ⟨5, .phase⟩, ⟨6, .phase⟩, ⟨7, .phase⟩, ⟨8, .phase⟩, ⟨9, .phase⟩, ⟨10, .phase⟩, ⟨11, .phase⟩, ⟨12, .phase⟩, ⟨13, .phase⟩, ⟨14, .phase⟩, ⟨15, .phase⟩, ⟨16, .phase⟩, ⟨17, .phase⟩, ⟨18, .phase⟩, ⟨19, .phase⟩, ⟨20, .phase⟩, ⟨21, .phase⟩, ⟨22, .phase⟩, ⟨23, .phase⟩, ⟨24, .phase⟩, ⟨25, .phase⟩, ⟨26, .phase⟩, ⟨27, .phase⟩, ⟨28, .phase⟩], none⟩) (by rfl) (fun K hK => ?_) AllReadyH.nil
  rw [if_pos (by rfl)]
  refine wp_store_one _ _ _ rfl L.g (t * 28 + 26) (.int .i64 (E.rw (E.th t).found k)) rfl rfl rfl rfl hHeld.2.2.2.2.2.2.2 (by kernel_rfl) ?_
  refine hK.out _ _ ?_ (fun hHeld => ?_)
  · exact ⟨cell_kept hHeld.1 (by first | exact .inr (by dsimp only; omega) | exact .inl (by assumption) | exact .inl (Ne.symm (by assumption))), cell_kept hHeld.2.1 (by first | exact .inr (by dsimp only; omega) | exact .inl (by assumption) | exact .inl (Ne.symm (by assumption))), cell_kept hHeld.2.2.1 (by first | exact .inr (by dsimp only; omega) | exact .inl (by assumption) | exact .inl (Ne.symm (by assumption))), cell_kept hHeld.2.2.2.1 (by first | exact .inr (by dsimp only; omega) | exact .inl (by assumption) | exact .inl (Ne.symm (by assumption))), cell_kept hHeld.2.2.2.2.1 (by first | exact .inr (by dsimp only; omega) | exact .inl (by assumption) | exact .inl (Ne.symm (by assumption))), cell_kept hHeld.2.2.2.2.2.1 (by first | exact .inr (by dsimp only; omega) | exact .inl (by assumption) | exact .inl (Ne.symm (by assumption))), cell_kept hHeld.2.2.2.2.2.2.1 (by first | exact .inr (by dsimp only; omega) | exact .inl (by assumption) | exact .inl (Ne.symm (by assumption))), there_set hHeld.2.2.2.2.2.2.2 _ rfl _⟩
  clear hK K
  (try go_frame)
  refine wpAnyH_done (by kernel_rfl) ?_ _
  have hb3 := Below.undrew hb2
  have r3 := HH.out.below hb3
  obtain ⟨h1, k1⟩ := r3.cell1 ht 26 (by decide) (.int .i64 (E.rw (E.th t).found k)) { E.th t with val := E.rw (E.th t).found k } rfl rfl rfl rfl rfl (by intros; rfl)
  have HL := hide (Left.below HH.out hb3)
  obtain ⟨cv5, cf5, pv5, hc5, hcv5, hcf5, -, hf5⟩ := h1.cells ht (upd_same _ _ _)
  obtain ⟨x0, x1, rfl⟩ := list_cells hcv5.1
  obtain ⟨y0, y1, rfl⟩ := list_cells hcf5.1
  have c27 := hc5 27 _ (by decide) rfl
  have f27 := hf5 (t * 28 + 27)
  obtain ⟨h6, k6⟩ := h1.cell1 ht 27 (by decide) (.bool true) { E.th t with val := E.rw (E.th t).found k, ended := true } (by simp [upd_same]) (by simp [upd_same]) (by simp [upd_same]) (by simp [upd_same]) (by simp [upd_same]) (by intros; simp only [upd_same]; rfl)
  have H6 := hide h6
  have K6 := hide k6
  clear hc5 hcv5 hcf5 hf5 h6 k6
  have H1 := hide h1
  have K1 := hide k1
  clear h1 k1 r3 hHeld hb2 hb3
  go_wp2_with fail
  refine (enter_w H6.out ht 0).mono ?_
  rintro e w4 ⟨rfl, r4, k4⟩
  have HR := hide (And.intro r4 k4)
  clear r4 k4
  go_wp2
  refine bodyPost_end (v := .tuple #[]) (by simp [results, Tryz.results349, go_sem]) rfl ⟨rfl, HL.out.next (Left.of (HR.out.1.cast ?_) ((K1.out.trans K6.out).trans HR.out.2) rfl)⟩
  simp only [upd_upd, upd_same]
end
end Go.Proofs.YtefjhnhdagolhaaGreat.tree
