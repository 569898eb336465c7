import Derived.Test.YtefjhnhdagolhaaGreatQ14
import Derived.Test.YtefjhnhdagolhaaGreatQ11
namespace Go.Proofs.YtefjhnhdagolhaaGreat.tree
open Go.RowKit
open M (upd upd_same upd_other Op Ver ETh ESt tw wds)
attribute [local go_sem ↓] Go.wp_at_zero Go.wp_at_succ
section
variable {σ : Type} {R : SR σ} {L : Lt} {S : Nat → Prop} {E E' : ESt σ} {w : World} {t : Nat}
set_option maxHeartbeats 1000000 in
theorem fail_w (h : RE R L S E w) (ht : t < L.n) (hb : (E.th t).backoff ≤ L.cap) :
    Calls Tryz.prog 353 #[.pointer (some ⟨L.g, t * 28, none⟩)] w fun e w' => e = .returned (.tuple #[]) ∧ RE R L S { E with th := upd E.th t ((E.th t).fail L.cap) } w' ∧ Fr L.own w w' := by
  obtain ⟨cv, cf, pv, hc, -, -, -, hf⟩ := h.cells ht rfl
  have c2 := hc 2 _ (by decide) rfl
  have c9 := hc 9 _ (by decide) rfl
  have c10 := hc 10 _ (by decide) rfl
  have f9 := hf (t * 28 + 9)
  have f10 := hf (t * 28 + 10)
  have hcap := h.ok.c64
  obtain ⟨h1, k1⟩ := h.cell1 ht 9 (by decide) (.int .i64 ((min (2 * (E.th t).backoff + 1) L.cap : Nat) : Int)) { E.th t with backoff := min (2 * (E.th t).backoff + 1) L.cap } rfl rfl rfl rfl rfl (by intros; rfl)
  have HH := hide h1
  have HK := hide k1
  have hmin := hide (show (if (L.cap : Int) < 2 * ((E.th t).backoff : Int) + 1 then (L.cap : Int) else 2 * ((E.th t).backoff : Int) + 1) = ((min (2 * (E.th t).backoff + 1) L.cap : Nat) : Int) by split <;> omega)
  clear h hc hf h1 k1
  go_enter Tryz.func353, Tryz.ntmps353
  go_wp2
  go_region
  rw [hmin.out]
  generalize hW1 : World.drew _ = W1
  have hr1 : RE R L S { E with th := upd E.th t { E.th t with backoff := min (2 * (E.th t).backoff + 1) L.cap } } W1 := by rw [← hW1]; exact HH.out.drew
  have hk1 : Fr L.own w W1 := by rw [← hW1]; exact HK.out.drew
  clear hW1
  obtain ⟨cv1, cf1, pv1, hc1, -, -, -, hf1⟩ := hr1.cells ht (upd_same _ _ _)
  have d10 := hc1 10 _ (by decide) rfl
  have g10 := hf1 (t * 28 + 10)
  have HR1 := hide hr1
  have HK1 := hide hk1
  clear hr1 hk1 hc1 hf1 c10 f10
  by_cases ha : (E.th t).again = true
  · have hfl := hide (show (E.th t).fail L.cap = ETh.enter { E.th t with backoff := min (2 * (E.th t).backoff + 1) L.cap } 11 by unfold ETh.fail; rw [if_pos ha])
    go_wp2_with fail
    refine (enter_w HR1.out ht 11).mono ?_
    rintro e w1 ⟨rfl, r1, k2⟩
    have HR := hide (And.intro r1 k2)
    clear r1 k2
    go_wp2
    refine bodyPost_ret (v := .tuple #[]) (by simp [results, Tryz.results353, go_sem]) rfl ⟨rfl, HR.out.1.cast ?_, HK1.out.trans HR.out.2⟩
    rw [hfl.out]
    simp only [upd_upd, upd_same]
  · have ha' : (E.th t).again = false := by simpa using ha
    have hfl := hide (show (E.th t).fail L.cap = ETh.approach { E.th t with backoff := min (2 * (E.th t).backoff + 1) L.cap, again := true } by unfold ETh.fail; rw [if_neg ha])
    obtain ⟨h2, k2⟩ := HR1.out.cell1 ht 10 (by decide) (.bool true) { E.th t with backoff := min (2 * (E.th t).backoff + 1) L.cap, again := true } (by simp [upd_same]) (by simp [upd_same]) (by simp [upd_same]) (by simp [upd_same]) (by simp [upd_same]) (by intros; simp only [upd_same]; rfl)
    have HR2 := hide h2
    have HK2 := hide k2
    clear h2 k2
    go_wp2_with fail
    refine (approach_w HR2.out ht).mono ?_
    rintro e w1 ⟨rfl, r1, k3⟩
    have HR := hide (And.intro r1 k3)
    clear r1 k3
    go_wp2
    refine bodyPost_end (v := .tuple #[]) (by simp [results, Tryz.results353, go_sem]) rfl ⟨rfl, HR.out.1.cast ?_, (HK1.out.trans HK2.out).trans HR.out.2⟩
    rw [hfl.out]
    simp only [upd_upd, upd_same]
set_option maxHeartbeats 1000000 in
theorem succeed_w (h : RE R L S E w) (ht : t < L.n) (hb : (E.th t).backoff ≤ 64) :
    Calls Tryz.prog 358 #[.pointer (some ⟨L.g, t * 28, none⟩)] w fun e w' => e = .returned (.tuple #[]) ∧ RE R L S { E with th := upd E.th t (ETh.enter { E.th t with backoff := (E.th t).backoff / 2 } 11) } w' ∧ Fr L.own w w' := by
  obtain ⟨cv, cf, pv, hc, -, -, -, hf⟩ := h.cells ht rfl
  have c9 := hc 9 _ (by decide) rfl
  have f9 := hf (t * 28 + 9)
  obtain ⟨h1, k1⟩ := h.cell1 ht 9 (by decide) (.int .i64 (((E.th t).backoff : Int) / 2)) { E.th t with backoff := (E.th t).backoff / 2 } rfl rfl rfl rfl rfl (by intros; rfl)
  have HH := hide h1
  have HK := hide k1
  clear h hc hf h1 k1
  go_enter Tryz.func358, Tryz.ntmps358
  go_wp2_with fail
  refine (enter_w HH.out ht 11).mono ?_
  rintro e w1 ⟨rfl, r1, k2⟩
  have HR := hide (And.intro r1 k2)
  clear r1 k2
  go_wp2
  refine bodyPost_end (v := .tuple #[]) (by simp [results, Tryz.results358, go_sem]) rfl ⟨rfl, HR.out.1.cast ?_, HK.out.trans HR.out.2⟩
  simp only [upd_upd, upd_same]
set_option maxHeartbeats 1000000 in
theorem look_w (h : RE R L S E w) (ht : t < L.n) :
    Calls Tryz.prog 340 #[.pointer (some ⟨L.g, t * 28, none⟩)] w fun e w' => e = .returned (.tuple #[]) ∧ RE R L S { E with th := upd E.th t (ETh.enter { E.th t with stamp := E.pst, srec := E.prec } 5) } w' ∧ Fr L.own w w' := by
  obtain ⟨cv, cf, pv, hc, -, -, -, hf⟩ := h.cells ht rfl
  have c0 : w.cell? ⟨L.g, t * 28, none⟩ = some (.pointer (some ⟨L.bS, 0, none⟩)) := hc 0 _ (by decide) rfl
  have c13 := hc 13 _ (by decide) rfl
  have f13 := hf (t * 28 + 13)
  have s5 : w.cell? ⟨L.bS, 5, none⟩ = some _ := h.sh.cell_of rfl
  obtain ⟨h1, k1⟩ := h.cell1 ht 13 (by decide) (.int .i64 ((E.pst : Int) * 129 + (E.prec : Int))) { E.th t with stamp := E.pst, srec := E.prec } rfl rfl rfl rfl rfl (by intros; rfl)
  have HH := hide h1
  have HK := hide k1
  have HS := hide s5
  clear h hc hf h1 k1 s5
  go_enter Tryz.func340, Tryz.ntmps340
  go_wp2_with fail
  refine (pubRead L.bS 5 _ _ HS.out).mono ?_
  rintro e w1 ⟨rfl, rfl⟩
  go_wp2_with fail
  refine (enter_w HH.out ht 5).mono ?_
  rintro e w1 ⟨rfl, r1, k2⟩
  have HR := hide (And.intro r1 k2)
  clear r1 k2
  go_wp2
  refine bodyPost_end (v := .tuple #[]) (by simp [results, Tryz.results340, go_sem]) rfl ⟨rfl, HR.out.1.cast ?_, HK.out.trans HR.out.2⟩
  simp only [upd_upd, upd_same]
set_option maxHeartbeats 1000000 in
theorem find_w (h : RE R L S E w) (ht : t < L.n) (hp : E.prec < 2 * L.n + 1) (hN : E.pst ≤ 1000000000000) :
    Calls Tryz.prog 347 #[.pointer (some ⟨L.g, t * 28, none⟩)] w fun e w' => e = .returned (.tuple #[]) ∧ RE R L S { E with th := upd E.th t (ETh.enter { E.th t with found := E.prec } 12) } w' ∧ Fr L.own w w' := by
  obtain ⟨cv, cf, pv, hc, hcv, hcf, -, hf⟩ := h.cells ht rfl
  obtain ⟨c0, c1, rfl⟩ := list_cells hcv.1
  obtain ⟨d0, d1, rfl⟩ := list_cells hcf.1
  have hn := h.ok.n64
  have c0 : w.cell? ⟨L.g, t * 28, none⟩ = some (.pointer (some ⟨L.bS, 0, none⟩)) := hc 0 _ (by decide) rfl
  have c22 := hc 24 _ (by decide) rfl
  have f22 := hf (t * 28 + 24)
  have s5 : w.cell? ⟨L.bS, 5, none⟩ = some _ := h.sh.cell_of rfl
  obtain ⟨h1, k1⟩ := h.cell1 ht 24 (by decide) (.int .i64 (E.prec : Int)) { E.th t with found := E.prec } rfl rfl rfl rfl rfl (by intros; rfl)
  have HH := hide h1
  have HK := hide k1
  have HS := hide s5
  have hm := hide (show ((E.pst : Int) * 129 + (E.prec : Int)) % 129 = (E.prec : Int) by omega)
  clear h hc hf h1 k1 s5 hcv hcf
  go_enter Tryz.func347, Tryz.ntmps347
  go_wp2_with fail
  refine (pubRead L.bS 5 _ _ HS.out).mono ?_
  rintro e w1 ⟨rfl, rfl⟩
  go_wp2_with fail
  refine (pubRecord _ _ (by omega) (by omega)).mono ?_
  rintro e w1 ⟨rfl, rfl⟩
  rw [hm.out]
  go_wp2_with fail
  refine (enter_w HH.out ht 12).mono ?_
  rintro e w1 ⟨rfl, r1, k2⟩
  have HR := hide (And.intro r1 k2)
  clear r1 k2
  go_wp2
  refine bodyPost_end (v := .tuple #[]) (by simp [results, Tryz.results347, go_sem]) rfl ⟨rfl, HR.out.1.cast ?_, HK.out.trans HR.out.2⟩
  simp only [upd_upd, upd_same]
end
end Go.Proofs.YtefjhnhdagolhaaGreat.tree
namespace Go.Proofs.YtefjhnhdagolhaaGreat.tree
open Go.RowKit
open M (upd upd_same upd_other Op Ver ETh ESt tw wds statusAt valueAt)
attribute [local go_sem ↓] Go.wp_at_zero Go.wp_at_succ
section
variable {σ : Type} {R : SR σ} {L : Lt} {S : Nat → Prop} {E E' : ESt σ} {w : World} {t : Nat}
theorem RE.recd (h : RE R L S E w) {r : Nat} (hr : r < 2 * L.n + 1) : w.cell? ⟨L.bP, r * 2, none⟩ = some (.slice (some ⟨L.bW r, 0, none⟩) (wds L.n) (wds L.n)) := by
  obtain ⟨sp, h1, -⟩ := h.po
  have := h1.cell hr (show 0 < 2 by decide)
  simpa using this
set_option maxRecDepth 20000 in
set_option maxHeartbeats 2000000 in
theorem takeStatus_w (h : RE R L S E w) (ht : t < L.n) (hr : (E.th t).found < 2 * L.n + 1) :
    Calls Tryz.prog 348 #[.pointer (some ⟨L.g, t * 28, none⟩)] w fun e w' => e = .returned (.tuple #[]) ∧ Left R L S w { E with th := upd E.th t (ETh.enter { E.th t with sta := E.rw (E.th t).found (statusAt L.n t) } 13) } w' := by
  obtain ⟨cv, cf, pv, hc, hcv, hcf, -, hf⟩ := h.cells ht rfl
  obtain ⟨c0, c1, rfl⟩ := list_cells hcv.1
  obtain ⟨d0, d1, rfl⟩ := list_cells hcf.1
  have hn := h.ok.n64
  have hn1 := h.ok.n1
  have c0 : w.cell? ⟨L.g, t * 28, none⟩ = some (.pointer (some ⟨L.bS, 0, none⟩)) := hc 0 _ (by decide) rfl
  have c1 := hc 1 _ (by decide) rfl
  have cfd := hc 24 _ (by decide) rfl
  have th : w.there L.g (t * 28 + 25) 1 := by obtain ⟨T, q, -⟩ := h.th; exact q.there (Nat.lt_of_lt_of_le ht h.ok.gn) (by decide)
  have s0 : w.cell? ⟨L.bS, 0, none⟩ = some (.int .i64 (L.n : Int)) := h.sh.cell_of rfl
  have s4 : w.cell? ⟨L.bS, 4, none⟩ = some (.slice (some ⟨L.bP, 0, none⟩) (2 * L.n + 1) (2 * L.n + 1)) := h.sh.cell_of rfl
  have p0 := h.recd hr
  have hsa : statusAt L.n t < wds L.n := by unfold statusAt wds; omega
  have hwd : wds L.n ≤ 200 := by unfold wds M.tw; omega
  have q0 : w.cell? ⟨L.bW (E.th t).found, statusAt L.n t, none⟩ = some (.int .i64 (E.rw (E.th t).found (statusAt L.n t))) := (h.rw _ hr).cell hsa
  generalize hk : statusAt L.n t = k at *
  have hr' : ((E.th t).found : Int) < 2 * (L.n : Int) + 1 := by omega
  have hk' : (k : Int) < (wds L.n : Int) := by omega
  have hSg : L.bS ≠ L.g := by obtain ⟨T, q, -⟩ := h.th; exact Row.apart h.sh q (by decide)
  have hPg : L.bP ≠ L.g := by obtain ⟨T, q, -⟩ := h.th; obtain ⟨sp, q2, -⟩ := h.po; exact Row.apart q2 q (by decide)
  have hWg : L.bW (E.th t).found ≠ L.g := by obtain ⟨T, q, -⟩ := h.th; exact Row.apart (h.rw _ hr) q (by decide)
  have HH := hide h
  clear h hc hf hcv hcf
  go_enter Tryz.func348, Tryz.ntmps348
  go_wp2
  refine rg0 (S := (fun w' => w'.cell? ⟨L.g, t * 28, none⟩ = some (.pointer (some ⟨L.bS, 0, none⟩)) ∧ w'.cell? ⟨L.g, t * 28 + 1, none⟩ = some (.int .i64 (t : Int)) ∧ w'.cell? ⟨L.g, t * 28 + 24, none⟩ = some (.int .i64 ((E.th t).found : Int)) ∧ w'.cell? ⟨L.bS, 0, none⟩ = some (.int .i64 (L.n : Int)) ∧ w'.cell? ⟨L.bS, 4, none⟩ = some (.slice (some ⟨L.bP, 0, none⟩) (2 * L.n + 1) (2 * L.n + 1)) ∧ w'.cell? ⟨L.bP, (E.th t).found * 2, none⟩ = some (.slice (some ⟨L.bW (E.th t).found, 0, none⟩) (wds L.n) (wds L.n)) ∧ w'.cell? ⟨L.bW (E.th t).found, k, none⟩ = some (.int .i64 (E.rw (E.th t).found k)) ∧ w'.there (L.g) (t * 28 + 25) 1)) 33 rfl (by kernel_rfl) ?_ (fun hHeld => ?_)
  · exact ⟨c0, c1, cfd, s0, s4, p0, q0, th⟩
  iterate 26 (refine tk 32 (by rfl) (by kernel_rfl) (by exact fun _ _ _ h => h) (.inl ⟨by rfl, fun w hS => by (try dsimp only at hS); go_simp; (try with_reducible rfl)⟩) (by assumption) ?_; try go_frame)
  refine rd1 26 (by rfl) (by kernel_rfl) (fun K hK => ?_)
  go_simp
  refine (statusAt_any L.n t _ hn1 hn ht).mono ?_
  rintro e w2 ⟨rfl, hb2⟩
  rw [hk]
  go_wp2_with fail
  refine hK.out _ _ ?_ (fun hHeld => ?_)
  · exact ⟨cell_later hb2 hHeld.1, cell_later hb2 hHeld.2.1, cell_later hb2 hHeld.2.2.1, cell_later hb2 hHeld.2.2.2.1, cell_later hb2 hHeld.2.2.2.2.1, cell_later hb2 hHeld.2.2.2.2.2.1, cell_later hb2 hHeld.2.2.2.2.2.2.1, there_later hb2 hHeld.2.2.2.2.2.2.2⟩
  clear hK K
  (try go_frame)
  iterate 1 (refine tk 32 (by rfl) (by kernel_rfl) (by exact fun _ _ _ h => h) (.inl ⟨by rfl, fun w hS => by (try dsimp only at hS); go_simp; (try with_reducible rfl)⟩) (by assumption) ?_; try go_frame)
  refine rd1 28 (by rfl) (by kernel_rfl) (fun K hK => ?_)
  go_simp
  refine (wordRead (L.bW (E.th t).found) k _ _ hHeld.2.2.2.2.2.2.1).mono ?_
  rintro e w3 ⟨rfl, rfl⟩
  go_wp2_with fail
  refine hK.out _ _ ?_ (fun hHeld => ?_)
  · exact hHeld
  clear hK K
  (try go_frame)
  iterate 3 (refine tk 32 (by rfl) (by kernel_rfl) (by exact fun _ _ _ h => h) (.inl ⟨by rfl, fun w hS => by (try dsimp only at hS); go_simp; (try with_reducible rfl)⟩) (by assumption) ?_; try go_frame)
  refine rd1 32 (by rfl) (by kernel_rfl) (fun K hK => ?_)
  rw [if_pos (by rfl)]
  refine wp_store_one _ _ _ rfl L.g (t * 28 + 25) (.int .i64 (E.rw (E.th t).found k)) rfl rfl rfl rfl hHeld.2.2.2.2.2.2.2 (by kernel_rfl) ?_
  refine hK.out _ _ ?_ (fun hHeld => ?_)
  · exact ⟨cell_kept hHeld.1 (by first | exact .inr (by dsimp only; omega) | exact .inl (by assumption) | exact .inl (Ne.symm (by assumption))), cell_kept hHeld.2.1 (by first | exact .inr (by dsimp only; omega) | exact .inl (by assumption) | exact .inl (Ne.symm (by assumption))), cell_kept hHeld.2.2.1 (by first | exact .inr (by dsimp only; omega) | exact .inl (by assumption) | exact .inl (Ne.symm (by assumption))), cell_kept hHeld.2.2.2.1 (by first | exact .inr (by dsimp only; omega) | exact .inl (by assumption) | exact .inl (Ne.symm (by assumption))), cell_kept hHeld.2.2.2.2.1 (by first | exact .inr (by dsimp only; omega) | exact .inl (by assumption) | exact .inl (Ne.symm (by assumption))), cell_kept hHeld.2.2.2.2.2.1 (by first | exact .inr (by dsimp only; omega) | exact .inl (by assumption) | exact .inl (Ne.symm (by assumption))), cell_kept hHeld.2.2.2.2.2.2.1 (by first | exact .inr (by dsimp only; omega) | exact .inl (by assumption) | exact .inl (Ne.symm (by assumption))), there_set hHeld.2.2.2.2.2.2.2 _ rfl _⟩
  clear hK K
  (try go_frame)
  refine wpAnyH_done (by kernel_rfl) ?_ _
  have hb3 := Below.undrew hb2
  have r3 := HH.out.below hb3
  obtain ⟨h1, k1⟩ := r3.cell1 ht 25 (by decide) (.int .i64 (E.rw (E.th t).found k)) { E.th t with sta := E.rw (E.th t).found k } rfl rfl rfl rfl rfl (by intros; rfl)
  have HL := hide (Left.below HH.out hb3)
  have H1 := hide h1
  have K1 := hide k1
  clear h1 k1 r3 hHeld hb2 hb3
  go_wp2_with fail
  refine (enter_w H1.out ht 13).mono ?_
  rintro e w4 ⟨rfl, r4, k4⟩
  have HR := hide (And.intro r4 k4)
  clear r4 k4
  go_wp2
  refine bodyPost_end (v := .tuple #[]) (by simp [results, Tryz.results348, go_sem]) rfl ⟨rfl, HL.out.next (Left.of (HR.out.1.cast ?_) (K1.out.trans HR.out.2) rfl)⟩
  simp only [upd_upd, upd_same]
set_option maxRecDepth 20000 in
set_option maxHeartbeats 2000000 in
theorem takeValue_w (h : RE R L S E w) (ht : t < L.n) (hr : (E.th t).found < 2 * L.n + 1) :
    Calls Tryz.prog 349 #[.pointer (some ⟨L.g, t * 28, none⟩)] w fun e w' => e = .returned (.tuple #[]) ∧ Left R L S w { E with th := upd E.th t (ETh.enter { E.th t with val := E.rw (E.th t).found (valueAt L.n t), ended := true } 0) } w' := by
  obtain ⟨cv, cf, pv, hc, hcv, hcf, -, hf⟩ := h.cells ht rfl
  obtain ⟨c0, c1, rfl⟩ := list_cells hcv.1
  obtain ⟨d0, d1, rfl⟩ := list_cells hcf.1
  have hn := h.ok.n64
  have hn1 := h.ok.n1
  have c0 : w.cell? ⟨L.g, t * 28, none⟩ = some (.pointer (some ⟨L.bS, 0, none⟩)) := hc 0 _ (by decide) rfl
  have c1 := hc 1 _ (by decide) rfl
  have cfd := hc 24 _ (by decide) rfl
  have th : w.there L.g (t * 28 + 26) 1 := by obtain ⟨T, q, -⟩ := h.th; exact q.there (Nat.lt_of_lt_of_le ht h.ok.gn) (by decide)
  have s0 : w.cell? ⟨L.bS, 0, none⟩ = some (.int .i64 (L.n : Int)) := h.sh.cell_of rfl
  have s4 : w.cell? ⟨L.bS, 4, none⟩ = some (.slice (some ⟨L.bP, 0, none⟩) (2 * L.n + 1) (2 * L.n + 1)) := h.sh.cell_of rfl
  have p0 := h.recd hr
  have hsa : valueAt L.n t < wds L.n := by unfold valueAt wds; omega
  have hwd : wds L.n ≤ 200 := by unfold wds M.tw; omega
  have q0 : w.cell? ⟨L.bW (E.th t).found, valueAt L.n t, none⟩ = some (.int .i64 (E.rw (E.th t).found (valueAt L.n t))) := (h.rw _ hr).cell hsa
  generalize hk : valueAt L.n t = k at *
  have hr' : ((E.th t).found : Int) < 2 * (L.n : Int) + 1 := by omega
  have hk' : (k : Int) < (wds L.n : Int) := by omega
  have hSg : L.bS ≠ L.g := by obtain ⟨T, q, -⟩ := h.th; exact Row.apart h.sh q (by decide)
  have hPg : L.bP ≠ L.g := by obtain ⟨T, q, -⟩ := h.th; obtain ⟨sp, q2, -⟩ := h.po; exact Row.apart q2 q (by decide)
  have hWg : L.bW (E.th t).found ≠ L.g := by obtain ⟨T, q, -⟩ := h.th; exact Row.apart (h.rw _ hr) q (by decide)
  have HH := hide h
  clear h hc hf hcv hcf
  go_enter Tryz.func349, Tryz.ntmps349
  go_wp2
  refine rg0 (S := (fun w' => w'.cell? ⟨L.g, t * 28, none⟩ = some (.pointer (some ⟨L.bS, 0, none⟩)) ∧ w'.cell? ⟨L.g, t * 28 + 1, none⟩ = some (.int .i64 (t : Int)) ∧ w'.cell? ⟨L.g, t * 28 + 24, none⟩ = some (.int .i64 ((E.th t).found : Int)) ∧ w'.cell? ⟨L.bS, 0, none⟩ = some (.int .i64 (L.n : Int)) ∧ w'.cell? ⟨L.bS, 4, none⟩ = some (.slice (some ⟨L.bP, 0, none⟩) (2 * L.n + 1) (2 * L.n + 1)) ∧ w'.cell? ⟨L.bP, (E.th t).found * 2, none⟩ = some (.slice (some ⟨L.bW (E.th t).found, 0, none⟩) (wds L.n) (wds L.n)) ∧ w'.cell? ⟨L.bW (E.th t).found, k, none⟩ = some (.int .i64 (E.rw (E.th t).found k)) ∧ w'.there (L.g) (t * 28 + 26) 1)) 33 rfl (by kernel_rfl) ?_ (fun hHeld => ?_)
  · exact ⟨c0, c1, cfd, s0, s4, p0, q0, th⟩
  iterate 26 (refine tk 32 (by rfl) (by kernel_rfl) (by exact fun _ _ _ h => h) (.inl ⟨by rfl, fun w hS => by (try dsimp only at hS); go_simp; (try with_reducible rfl)⟩) (by assumption) ?_; try go_frame)
  refine rd1 26 (by rfl) (by kernel_rfl) (fun K hK => ?_)
  go_simp
  refine (valueAt_any L.n t _ hn1 hn ht).mono ?_
  rintro e w2 ⟨rfl, hb2⟩
  rw [hk]
  go_wp2_with fail
  refine hK.out _ _ ?_ (fun hHeld => ?_)
  · exact ⟨cell_later hb2 hHeld.1, cell_later hb2 hHeld.2.1, cell_later hb2 hHeld.2.2.1, cell_later hb2 hHeld.2.2.2.1, cell_later hb2 hHeld.2.2.2.2.1, cell_later hb2 hHeld.2.2.2.2.2.1, cell_later hb2 hHeld.2.2.2.2.2.2.1, there_later hb2 hHeld.2.2.2.2.2.2.2⟩
  clear hK K
  (try go_frame)
  iterate 1 (refine tk 32 (by rfl) (by kernel_rfl) (by exact fun _ _ _ h => h) (.inl ⟨by rfl, fun w hS => by (try dsimp only at hS); go_simp; (try with_reducible rfl)⟩) (by assumption) ?_; try go_frame)
  refine rd1 28 (by rfl) (by kernel_rfl) (fun K hK => ?_)
  go_simp
  refine (wordRead (L.bW (E.th t).found) k _ _ hHeld.2.2.2.2.2.2.1).mono ?_
  rintro e w3 ⟨rfl, rfl⟩
  go_wp2_with fail
  refine hK.out _ _ ?_ (fun hHeld => ?_)
  · exact hHeld
  clear hK K
  (try go_frame)
  iterate 3 (refine tk 32 (by rfl) (by kernel_rfl) (by exact fun _ _ _ h => h) (.inl ⟨by rfl, fun w hS => by (try dsimp only at hS); go_simp; (try with_reducible rfl)⟩) (by assumption) ?_; try go_frame)
  refine rd1 32 (by rfl) (by kernel_rfl) (fun K hK => ?_)
  rw [if_pos (by rfl)]
  refine wp_store_one _ _ _ rfl L.g (t * 28 + 26) (.int .i64 (E.rw (E.th t).found k)) rfl rfl rfl rfl hHeld.2.2.2.2.2.2.2 (by kernel_rfl) ?_
  refine hK.out _ _ ?_ (fun hHeld => ?_)
  · exact ⟨cell_kept hHeld.1 (by first | exact .inr (by dsimp only; omega) | exact .inl (by assumption) | exact .inl (Ne.symm (by assumption))), cell_kept hHeld.2.1 (by first | exact .inr (by dsimp only; omega) | exact .inl (by assumption) | exact .inl (Ne.symm (by assumption))), cell_kept hHeld.2.2.1 (by first | exact .inr (by dsimp only; omega) | exact .inl (by assumption) | exact .inl (Ne.symm (by assumption))), cell_kept hHeld.2.2.2.1 (by first | exact .inr (by dsimp only; omega) | exact .inl (by assumption) | exact .inl (Ne.symm (by assumption))), cell_kept hHeld.2.2.2.2.1 (by first | exact .inr (by dsimp only; omega) | exact .inl (by assumption) | exact .inl (Ne.symm (by assumption))), cell_kept hHeld.2.2.2.2.2.1 (by first | exact .inr (by dsimp only; omega) | exact .inl (by assumption) | exact .inl (Ne.symm (by assumption))), cell_kept hHeld.2.2.2.2.2.2.1 (by first | exact .inr (by dsimp only; omega) | exact .inl (by assumption) | exact .inl (Ne.symm (by assumption))), there_set hHeld.2.2.2.2.2.2.2 _ rfl _⟩
  clear hK K
  (try go_frame)
  refine wpAnyH_done (by kernel_rfl) ?_ _
  have hb3 := Below.undrew hb2
  have r3 := HH.out.below hb3
  obtain ⟨h1, k1⟩ := r3.cell1 ht 26 (by decide) (.int .i64 (E.rw (E.th t).found k)) { E.th t with val := E.rw (E.th t).found k } rfl rfl rfl rfl rfl (by intros; rfl)
  have HL := hide (Left.below HH.out hb3)
  obtain ⟨cv5, cf5, pv5, hc5, hcv5, hcf5, -, hf5⟩ := h1.cells ht (upd_same _ _ _)
  obtain ⟨x0, x1, rfl⟩ := list_cells hcv5.1
  obtain ⟨y0, y1, rfl⟩ := list_cells hcf5.1
  have c27 := hc5 27 _ (by decide) rfl
  have f27 := hf5 (t * 28 + 27)
  obtain ⟨h6, k6⟩ := h1.cell1 ht 27 (by decide) (.bool true) { E.th t with val := E.rw (E.th t).found k, ended := true } (by simp [upd_same]) (by simp [upd_same]) (by simp [upd_same]) (by simp [upd_same]) (by simp [upd_same]) (by intros; simp only [upd_same]; rfl)
  have H6 := hide h6
  have K6 := hide k6
  clear hc5 hcv5 hcf5 hf5 h6 k6
  have H1 := hide h1
  have K1 := hide k1
  clear h1 k1 r3 hHeld hb2 hb3
  go_wp2_with fail
  refine (enter_w H6.out ht 0).mono ?_
  rintro e w4 ⟨rfl, r4, k4⟩
  have HR := hide (And.intro r4 k4)
  clear r4 k4
  go_wp2
  refine bodyPost_end (v := .tuple #[]) (by simp [results, Tryz.results349, go_sem]) rfl ⟨rfl, HL.out.next (Left.of (HR.out.1.cast ?_) ((K1.out.trans K6.out).trans HR.out.2) rfl)⟩
  simp only [upd_upd, upd_same]
end
end Go.Proofs.YtefjhnhdagolhaaGreat.tree
namespace Go.Proofs.YtefjhnhdagolhaaGreat.tree
open Go.RowKit
open M (upd upd_same upd_other Op Ver ETh ESt tw wds statusAt valueAt)
attribute [local go_sem ↓] Go.wp_at_zero Go.wp_at_succ
section
variable {σ : Type} {R : SR σ} {L : Lt} {S : Nat → Prop} {E E' : ESt σ} {w : World} {t : Nat}
theorem own_an : L.own L.bAn := .inr (.inr (.inl rfl))
theorem own_tg : L.own L.bTg := .inr (.inl rfl)
theorem own_bS : L.own L.bS := .inl rfl
theorem own_gG (ht : t < L.n) : L.own (L.gG t) := .inr (.inr (.inr (.inr (.inr (.inr ⟨t, ht, .inr rfl⟩)))))
theorem own_gD (ht : t < L.n) : L.own (L.gD t) := .inr (.inr (.inr (.inr (.inr (.inr ⟨t, ht, .inl rfl⟩)))))
theorem own_bW {r : Nat} (hr : r < 2 * L.n + 1) : L.own (L.bW r) := .inr (.inr (.inr (.inr (.inl ⟨r, hr, rfl⟩))))
theorem own_bP : L.own L.bP := .inr (.inr (.inr (.inl rfl)))
theorem RE.th_ne (h : RE R L S E w) : L.bS ≠ L.g ∧ L.bP ≠ L.g ∧ L.bAn ≠ L.g ∧ L.bTg ≠ L.g ∧ L.bS ≠ L.bAn ∧ L.bS ≠ L.bTg ∧ L.bS ≠ L.bP := by
  obtain ⟨T, q, -⟩ := h.th
  obtain ⟨sp, q2, -⟩ := h.po
  exact ⟨Row.apart h.sh q (by decide), Row.apart q2 q (by decide), Row.apart h.an q (by decide), Row.apart h.tg q (by decide), Row.apart h.sh h.an (by decide), Row.apart h.sh h.tg (by decide), Row.apart h.sh q2 (by decide)⟩
theorem there_cell {b o : Nat} (h : w.there b o 1) : (∃ u, w.cell? ⟨b, o, none⟩ = some u) ∧ w.frozen? ⟨b, o, none⟩ = false := by
  have := h 0 (by decide)
  exact ⟨Option.isSome_iff_exists.1 this.1, this.2⟩
set_option maxRecDepth 20000 in
set_option maxHeartbeats 2000000 in
theorem announce_w (h : RE R L S E w) (ht : t < L.n) (hp : (E.th t).past < 3) :
    Calls Tryz.prog 337 #[.pointer (some ⟨L.g, t * 28, none⟩)] w fun e w' => e = .returned (.tuple #[]) ∧ RE R L S { E with ann := upd E.ann t (upd (E.ann t) (E.th t).past ((E.th t).op.w (E.th t).past)), th := upd E.th t ((E.th t).pass 3 2) } w' ∧ Fr L.own w w' := by
  obtain ⟨cv, cf, pv, hc, -, -, -, -⟩ := h.cells ht rfl
  have hn := h.ok.n64
  have c0 : w.cell? ⟨L.g, t * 28, none⟩ = some (.pointer (some ⟨L.bS, 0, none⟩)) := hc 0 _ (by decide) rfl
  have c1 := hc 1 _ (by decide) rfl
  have c4 := hc 4 _ (by decide) rfl
  have co : w.cell? ⟨L.g, t * 28 + 5 + (E.th t).past, none⟩ = some (.int .i64 ((E.th t).op.w (E.th t).past)) := by
    rcases (by omega : (E.th t).past = 0 ∨ (E.th t).past = 1 ∨ (E.th t).past = 2) with q | q | q <;> rw [q]
    · exact hc 5 _ (by decide) rfl
    · exact hc 6 _ (by decide) rfl
    · exact hc 7 _ (by decide) rfl
  have s3 : w.cell? ⟨L.bS, 3, none⟩ = some (.slice (some ⟨L.bAn, 0, none⟩) L.n L.n) := h.sh.cell_of rfl
  have th : w.there L.bAn (t * 3 + (E.th t).past) 1 := h.an.there ht hp
  obtain ⟨-, -, nAg, -, nSA, -, -⟩ := h.th_ne
  have ht' : (t : Int) < (L.n : Int) := by omega
  have hp' : ((E.th t).past : Int) < 3 := by omega
  obtain ⟨y, hy⟩ : ∃ y, y = (E.th t).op.w (E.th t).past := ⟨_, rfl⟩
  rw [← hy] at co ⊢
  have h1 := h.set_ann t (E.th t).past hp y
  have H1 := hide h1
  clear h hc h1 hy
  go_enter Tryz.func337, Tryz.ntmps337
  go_wp2
  refine rg0 (S := (fun w' => w'.cell? ⟨L.g, t * 28, none⟩ = some (.pointer (some ⟨L.bS, 0, none⟩)) ∧ w'.cell? ⟨L.g, t * 28 + 1, none⟩ = some (.int .i64 (t : Int)) ∧ w'.cell? ⟨L.g, t * 28 + 4, none⟩ = some (.int .i64 ((E.th t).past : Int)) ∧ w'.cell? ⟨L.g, t * 28 + 5 + (E.th t).past, none⟩ = some (.int .i64 y) ∧ w'.cell? ⟨L.bS, 3, none⟩ = some (.slice (some ⟨L.bAn, 0, none⟩) L.n L.n) ∧ w'.there (L.bAn) (t * 3 + (E.th t).past) 1)) 27 rfl (by kernel_rfl) ?_ (fun hHeld => ?_)
  · exact ⟨c0, c1, c4, co, s3, th⟩
  iterate 26 (refine tk 26 (by rfl) (by kernel_rfl) (by exact fun _ _ _ h => h) (.inl ⟨by rfl, fun w hS => by (try dsimp only at hS); go_simp; (try with_reducible rfl)⟩) (by assumption) ?_; try go_frame)
  refine rd1 26 (by rfl) (by kernel_rfl) (fun K hK => ?_)
  go_simp
  obtain ⟨⟨u, hu⟩, hz⟩ := there_cell hHeld.2.2.2.2.2
  refine (wordWrite L.bAn (t * 3 + (E.th t).past) u y _ hu hz).mono ?_
  rintro e w3 ⟨rfl, rfl⟩
  go_wp2_with fail
  refine hK.out _ _ ?_ (fun hHeld => ?_)
  · exact ⟨cell_kept hHeld.1 (by first | exact .inr (by dsimp only; omega) | exact .inl (by assumption) | exact .inl (Ne.symm (by assumption))), cell_kept hHeld.2.1 (by first | exact .inr (by dsimp only; omega) | exact .inl (by assumption) | exact .inl (Ne.symm (by assumption))), cell_kept hHeld.2.2.1 (by first | exact .inr (by dsimp only; omega) | exact .inl (by assumption) | exact .inl (Ne.symm (by assumption))), cell_kept hHeld.2.2.2.1 (by first | exact .inr (by dsimp only; omega) | exact .inl (by assumption) | exact .inl (Ne.symm (by assumption))), cell_kept hHeld.2.2.2.2.1 (by first | exact .inr (by dsimp only; omega) | exact .inl (by assumption) | exact .inl (Ne.symm (by assumption))), there_set hHeld.2.2.2.2.2 _ rfl _⟩
  clear hK K
  (try go_frame)
  refine wpAnyH_done (by kernel_rfl) ?_ _
  clear hHeld hu hz
  go_wp2_with fail
  refine (pass_w (t := t) H1.out.drew ht 3 2 (by decide) (by show (E.th t).past ≤ _; omega)).mono ?_
  rintro e w4 ⟨rfl, r4, k4⟩
  have HR := hide (And.intro r4 k4)
  clear r4 k4
  go_wp2
  exact bodyPost_end (v := .tuple #[]) (by simp [results, Tryz.results337, go_sem]) rfl ⟨rfl, HR.out.1, ((Fr.set w own_an _).drew).trans HR.out.2⟩
theorem bit_le (t : Nat) : 2 ^ (t % 16) ≤ 32768 := Nat.le_trans (Nat.pow_le_pow_right (by decide) (show t % 16 ≤ 15 by omega)) (by decide)
set_option maxRecDepth 20000 in
set_option maxHeartbeats 2000000 in
theorem flip_w (h : RE R L S E w) (ht : t < L.n) (h0 : 0 ≤ E.togs (t / 16)) (h1 : E.togs (t / 16) < 65536) :
    Calls Tryz.prog 338 #[.pointer (some ⟨L.g, t * 28, none⟩)] w fun e w' => e = .returned (.tuple #[]) ∧ RE R L S { E with togs := upd E.togs (t / 16) (E.togs (t / 16) + (if (E.th t).toggle = true then -(2 ^ (t % 16)) else 2 ^ (t % 16))), th := upd E.th t (ETh.approach { E.th t with toggle := !(E.th t).toggle }) } w' ∧ Fr L.own w w' := by
  obtain ⟨cv, cf, pv, hc, -, -, -, hf⟩ := h.cells ht rfl
  have hn := h.ok.n64
  have c0 : w.cell? ⟨L.g, t * 28, none⟩ = some (.pointer (some ⟨L.bS, 0, none⟩)) := hc 0 _ (by decide) rfl
  have c1 := hc 1 _ (by decide) rfl
  have c8 := hc 8 _ (by decide) rfl
  have f8 := hf (t * 28 + 8)
  have s2 : w.cell? ⟨L.bS, 2, none⟩ = some (.slice (some ⟨L.bTg, 0, none⟩) (M.tw L.n) (M.tw L.n)) := h.sh.cell_of rfl
  have hqt : t / 16 < M.tw L.n := by unfold M.tw; omega
  have htw : M.tw L.n ≤ 4 := by unfold M.tw; omega
  have a0 : w.cell? ⟨L.bTg, t / 16, none⟩ = some (.int .i64 (E.togs (t / 16))) := h.tg.cell hqt
  have fa := h.tg.frozen (t / 16)
  obtain ⟨-, -, -, nTg, -, nST, -⟩ := h.th_ne
  obtain ⟨r1, k1⟩ := h.cell1 ht 8 (by decide) (.bool (!(E.th t).toggle)) { E.th t with toggle := !(E.th t).toggle } rfl rfl rfl rfl rfl (by intros; rfl)
  have hbl := bit_le t
  rw [show ((2 : Int) ^ (t % 16)) = ((2 ^ (t % 16) : Nat) : Int) by push_cast; rfl]
  obtain ⟨m, hm⟩ : ∃ m, m = 2 ^ (t % 16) := ⟨_, rfl⟩
  rw [← hm] at hbl ⊢
  obtain ⟨q, hq⟩ : ∃ q, q = t / 16 := ⟨_, rfl⟩
  rw [← hq] at hqt a0 fa h0 h1 ⊢
  have hq' : (q : Int) < (M.tw L.n : Int) := by omega
  have HA := hide (And.intro hq hm)
  have H1 := hide r1
  have K1 := hide k1
  clear h hc hf r1 k1 hq hm
  cases htg : (E.th t).toggle
  · rw [htg] at c8 H1 K1
    go_enter Tryz.func338, Tryz.ntmps338
    go_wp2_with fail
    refine (toggleAt_of t q m _ (by omega) HA.out.1 HA.out.2).mono ?_
    rintro e w2 ⟨rfl, kk, rfl⟩
    go_wp2_with fail
    have b0 : ((w.drewN kk).setCell ⟨L.g, t * 28 + 8, none⟩ (.bool true)).cell? ⟨L.bTg, q, none⟩ = some (.int .i64 (E.togs q)) := cell_kept a0 (.inl (by exact nTg))
    refine (int64Add L.bTg q (E.togs q) (m : Int) _ b0 (frozen_kept fa) (by omega) (by omega)).mono ?_
    rintro e w3 ⟨rfl, rfl⟩
    have H2 := hide ((H1.out.drewN kk).set_tog q (E.togs q + (m : Int)))
    go_wp2_with fail
    refine (approach_w H2.out ht).mono ?_
    rintro e w4 ⟨rfl, r4, k4⟩
    have HR := hide (And.intro r4 k4)
    clear r4 k4
    go_wp2
    refine bodyPost_end (v := .tuple #[]) (by simp [results, Tryz.results338, go_sem]) rfl ⟨rfl, HR.out.1.cast ?_, (((K1.out.drewN kk)).trans (Fr.set _ own_tg _)).trans HR.out.2⟩
    simp [upd_upd, upd_same]
  · rw [htg] at c8 H1 K1
    go_enter Tryz.func338, Tryz.ntmps338
    go_wp2_with fail
    refine (toggleAt_of t q m _ (by omega) HA.out.1 HA.out.2).mono ?_
    rintro e w2 ⟨rfl, kk, rfl⟩
    go_wp2_with fail
    have b0 : ((w.drewN kk).setCell ⟨L.g, t * 28 + 8, none⟩ (.bool false)).cell? ⟨L.bTg, q, none⟩ = some (.int .i64 (E.togs q)) := cell_kept a0 (.inl (by exact nTg))
    refine (int64Add L.bTg q (E.togs q) (-(m : Int)) _ b0 (frozen_kept fa) (by omega) (by omega)).mono ?_
    rintro e w3 ⟨rfl, rfl⟩
    have H2 := hide ((H1.out.drewN kk).set_tog q (E.togs q + -(m : Int)))
    go_wp2_with fail
    refine (approach_w H2.out ht).mono ?_
    rintro e w4 ⟨rfl, r4, k4⟩
    have HR := hide (And.intro r4 k4)
    clear r4 k4
    go_wp2
    refine bodyPost_end (v := .tuple #[]) (by simp [results, Tryz.results338, go_sem]) rfl ⟨rfl, HR.out.1.cast ?_, (((K1.out.drewN kk)).trans (Fr.set _ own_tg _)).trans HR.out.2⟩
    simp [upd_upd, upd_same]
end
end Go.Proofs.YtefjhnhdagolhaaGreat.tree
namespace Go.Proofs.YtefjhnhdagolhaaGreat.tree
open Go.RowKit
open M (upd upd_same upd_other Op Ver ETh ESt wds statusAt valueAt)
attribute [local go_sem ↓] Go.wp_at_zero Go.wp_at_succ
section
variable {σ : Type} {R : SR σ} {L : Lt} {S : Nat → Prop} {E E' : ESt σ} {w : World} {t : Nat}
set_option maxRecDepth 20000 in
set_option maxHeartbeats 2000000 in
theorem scan_w (h : RE R L S E w) (ht : t < L.n) (hp : (E.th t).past < M.tw L.n) :
    Calls Tryz.prog 342 #[.pointer (some ⟨L.g, t * 28, none⟩)] w fun e w' => e = .returned (.tuple #[]) ∧ RE R L S { E with th := upd E.th t (ETh.pass { E.th t with tg := upd (E.th t).tg (E.th t).past (E.togs (E.th t).past) } (M.tw L.n) 7) } w' ∧ Fr L.own w w' := by
  obtain ⟨cv, cf, pv, hc, hcv, hcf, -, -⟩ := h.cells ht rfl
  obtain ⟨x0, x1, rfl⟩ := list_cells hcv.1
  obtain ⟨y0, y1, rfl⟩ := list_cells hcf.1
  have hn := h.ok.n64
  have htw : M.tw L.n ≤ 4 := by unfold M.tw; omega
  have c0 : w.cell? ⟨L.g, t * 28, none⟩ = some (.pointer (some ⟨L.bS, 0, none⟩)) := hc 0 _ (by decide) rfl
  have c4 := hc 4 _ (by decide) rfl
  have cg := hc 19 _ (by decide) rfl
  have s2 : w.cell? ⟨L.bS, 2, none⟩ = some (.slice (some ⟨L.bTg, 0, none⟩) (M.tw L.n) (M.tw L.n)) := h.sh.cell_of rfl
  have a0 : w.cell? ⟨L.bTg, (E.th t).past, none⟩ = some (.int .i64 (E.togs (E.th t).past)) := h.tg.cell hp
  have th : w.there (L.gG t) (E.th t).past 1 := (h.gg t ht).there hp
  have nSG : L.bS ≠ L.gG t := Row.apart h.sh (h.gg t ht) (by decide)
  have nTG : L.bTg ≠ L.gG t := Row.apart h.tg (h.gg t ht) (by decide)
  have ngG : L.g ≠ L.gG t := by obtain ⟨T, q, -⟩ := h.th; exact Row.apart q (h.gg t ht) (by decide)
  have hp' : ((E.th t).past : Int) < (M.tw L.n : Int) := by omega
  have H1 := hide (h.set_read t ht (E.th t).past (E.togs (E.th t).past))
  clear h hc hcv hcf
  go_enter Tryz.func342, Tryz.ntmps342
  go_wp2
  refine rg0 (S := (fun w' => w'.cell? ⟨L.g, t * 28, none⟩ = some (.pointer (some ⟨L.bS, 0, none⟩)) ∧ w'.cell? ⟨L.g, t * 28 + 4, none⟩ = some (.int .i64 ((E.th t).past : Int)) ∧ w'.cell? ⟨L.g, t * 28 + 19, none⟩ = some (.slice (some ⟨L.gG t, 0, none⟩) (M.tw L.n) (M.tw L.n)) ∧ w'.cell? ⟨L.bS, 2, none⟩ = some (.slice (some ⟨L.bTg, 0, none⟩) (M.tw L.n) (M.tw L.n)) ∧ w'.cell? ⟨L.bTg, (E.th t).past, none⟩ = some (.int .i64 (E.togs (E.th t).past)) ∧ w'.there (L.gG t) ((E.th t).past) 1)) 23 rfl (by kernel_rfl) ?_ (fun hHeld => ?_)
  · exact ⟨c0, c4, cg, s2, a0, th⟩
  iterate 20 (refine tk 22 (by rfl) (by kernel_rfl) (by exact fun _ _ _ h => h) (.inl ⟨by rfl, fun w hS => by (try dsimp only at hS); go_simp; (try with_reducible rfl)⟩) (by assumption) ?_; try go_frame)
  refine rd1 20 (by rfl) (by kernel_rfl) (fun K hK => ?_)
  go_simp
  refine (wordRead L.bTg (E.th t).past _ _ hHeld.2.2.2.2.1).mono ?_
  rintro e w3 ⟨rfl, rfl⟩
  go_wp2_with fail
  refine hK.out _ _ ?_ (fun hHeld => ?_)
  · exact hHeld
  clear hK K
  (try go_frame)
  iterate 1 (refine tk 22 (by rfl) (by kernel_rfl) (by exact fun _ _ _ h => h) (.inl ⟨by rfl, fun w hS => by (try dsimp only at hS); go_simp; (try with_reducible rfl)⟩) (by assumption) ?_; try go_frame)
  refine rd1 22 (by rfl) (by kernel_rfl) (fun K hK => ?_)
  rw [if_pos (by rfl)]
  refine wp_store_one _ _ _ rfl (L.gG t) (E.th t).past (.int .i64 (E.togs (E.th t).past)) rfl rfl rfl rfl hHeld.2.2.2.2.2 (by kernel_rfl) ?_
  refine hK.out _ _ ?_ (fun hHeld => ?_)
  · exact ⟨cell_kept hHeld.1 (by first | exact .inr (by dsimp only; omega) | exact .inl (by assumption) | exact .inl (Ne.symm (by assumption))), cell_kept hHeld.2.1 (by first | exact .inr (by dsimp only; omega) | exact .inl (by assumption) | exact .inl (Ne.symm (by assumption))), cell_kept hHeld.2.2.1 (by first | exact .inr (by dsimp only; omega) | exact .inl (by assumption) | exact .inl (Ne.symm (by assumption))), cell_kept hHeld.2.2.2.1 (by first | exact .inr (by dsimp only; omega) | exact .inl (by assumption) | exact .inl (Ne.symm (by assumption))), cell_kept hHeld.2.2.2.2.1 (by first | exact .inr (by dsimp only; omega) | exact .inl (by assumption) | exact .inl (Ne.symm (by assumption))), there_set hHeld.2.2.2.2.2 _ rfl _⟩
  clear hK K
  (try go_frame)
  refine wpAnyH_done (by kernel_rfl) ?_ _
  have cg' := hHeld.2.2.1
  clear hHeld
  go_wp2_with fail
  refine (pass_w (t := t) (H1.out.drew) ht (M.tw L.n) 7 (by omega) (by simp only [upd_same]; omega)).mono ?_
  rintro e w4 ⟨rfl, r4, k4⟩
  have HR := hide (And.intro r4 k4)
  clear r4 k4
  go_wp2
  refine bodyPost_end (v := .tuple #[]) (by simp [results, Tryz.results342, go_sem]) rfl ⟨rfl, HR.out.1.cast ?_, ((Fr.set w (own_gG ht) _).drew).trans HR.out.2⟩
  simp only [upd_upd, upd_same]
end
end Go.Proofs.YtefjhnhdagolhaaGreat.tree
