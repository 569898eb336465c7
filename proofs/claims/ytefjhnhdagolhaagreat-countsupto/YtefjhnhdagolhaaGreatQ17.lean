import Derived.Test.YtefjhnhdagolhaaGreatQ16
import Derived.Test.YtefjhnhdagolhaaGreatQ12
namespace Go.Proofs.YtefjhnhdagolhaaGreat.int
open Go.RowKit
open M (upd upd_same upd_other Op Ver ETh ESt tw wds)
attribute [local go_sem ↓] Go.wp_at_zero Go.wp_at_succ
section
variable {σ : Type} {R : SR σ} {L : Lt} {S : Nat → Prop} {E E' : ESt σ} {w : World} {t : Nat}
set_option maxHeartbeats 1000000 in
theorem fail_w (h : RE R L S E w) (ht : t < L.n) (hb : (E.th t).backoff ≤ L.cap) :
    Calls Tryz.prog 227 #[.pointer (some ⟨L.g, t * 28, none⟩)] w fun e w' => e = .returned (.tuple #[]) ∧ RE R L S { E with th := upd E.th t ((E.th t).fail L.cap) } w' ∧ Fr L.own w w' := by
  obtain ⟨cv, cf, pv, hc, -, -, -, hf⟩ := h.cells ht rfl
  have c2 := hc 2 _ (by decide) rfl
  have c9 := hc 9 _ (by decide) rfl
  have c10 := hc 10 _ (by decide) rfl
  have f9 := hf (t * 28 + 9)
  have f10 := hf (t * 28 + 10)
  have hcap := h.ok.c64
  obtain ⟨h1, k1⟩ := h.cell1 ht 9 (by decide) (.int .i64 ((min (2 * (E.th t).backoff + 1) L.cap : Nat) : Int)) { E.th t with backoff := min (2 * (E.th t).backoff + 1) L.cap } rfl rfl rfl rfl rfl (by intros; rfl)
  have HH := hide h1
  have HK := hide k1
  have hmin := hide (show (if (L.cap : Int) < 2 * ((E.th t).backoff : Int) + 1 then (L.cap : Int) else 2 * ((E.th t).backoff : Int) + 1) = ((min (2 * (E.th t).backoff + 1) L.cap : Nat) : Int) by split <;> omega)
  clear h hc hf h1 k1
  go_enter Tryz.func227, Tryz.ntmps227
  go_wp2
  go_region
  rw [hmin.out]
  generalize hW1 : World.drew _ = W1
  have hr1 : RE R L S { E with th := upd E.th t { E.th t with backoff := min (2 * (E.th t).backoff + 1) L.cap } } W1 := by rw [← hW1]; exact HH.out.drew
  have hk1 : Fr L.own w W1 := by rw [← hW1]; exact HK.out.drew
  clear hW1
  obtain ⟨cv1, cf1, pv1, hc1, -, -, -, hf1⟩ := hr1.cells ht (upd_same _ _ _)
  have d10 := hc1 10 _ (by decide) rfl
  have g10 := hf1 (t * 28 + 10)
  have HR1 := hide hr1
  have HK1 := hide hk1
  clear hr1 hk1 hc1 hf1 c10 f10
  by_cases ha : (E.th t).again = true
  · have hfl := hide (show (E.th t).fail L.cap = ETh.enter { E.th t with backoff := min (2 * (E.th t).backoff + 1) L.cap } 11 by unfold ETh.fail; rw [if_pos ha])
    go_wp2_with fail
    refine (enter_w HR1.out ht 11).mono ?_
    rintro e w1 ⟨rfl, r1, k2⟩
    have HR := hide (And.intro r1 k2)
    clear r1 k2
    go_wp2
    refine bodyPost_ret (v := .tuple #[]) (by simp [results, Tryz.results227, go_sem]) rfl ⟨rfl, HR.out.1.cast ?_, HK1.out.trans HR.out.2⟩
    rw [hfl.out]
    simp only [upd_upd, upd_same]
  · have ha' : (E.th t).again = false := by simpa using ha
    have hfl := hide (show (E.th t).fail L.cap = ETh.approach { E.th t with backoff := min (2 * (E.th t).backoff + 1) L.cap, again := true } by unfold ETh.fail; rw [if_neg ha])
    obtain ⟨h2, k2⟩ := HR1.out.cell1 ht 10 (by decide) (.bool true) { E.th t with backoff := min (2 * (E.th t).backoff + 1) L.cap, again := true } (by simp [upd_same]) (by simp [upd_same]) (by simp [upd_same]) (by simp [upd_same]) (by simp [upd_same]) (by intros; simp only [upd_same]; rfl)
    have HR2 := hide h2
    have HK2 := hide k2
    clear h2 k2
    go_wp2_with fail
    refine (approach_w HR2.out ht).mono ?_
    rintro e w1 ⟨rfl, r1, k3⟩
    have HR := hide (And.intro r1 k3)
    clear r1 k3
    go_wp2
    refine bodyPost_end (v := .tuple #[]) (by simp [results, Tryz.results227, go_sem]) rfl ⟨rfl, HR.out.1.cast ?_, (HK1.out.trans HK2.out).trans HR.out.2⟩
    rw [hfl.out]
    simp only [upd_upd, upd_same]
set_option maxHeartbeats 1000000 in
theorem succeed_w (h : RE R L S E w) (ht : t < L.n) (hb : (E.th t).backoff ≤ 64) :
    Calls Tryz.prog 235 #[.pointer (some ⟨L.g, t * 28, none⟩)] w fun e w' => e = .returned (.tuple #[]) ∧ RE R L S { E with th := upd E.th t (ETh.enter { E.th t with backoff := (E.th t).backoff / 2 } 11) } w' ∧ Fr L.own w w' := by
  obtain ⟨cv, cf, pv, hc, -, -, -, hf⟩ := h.cells ht rfl
  have c9 := hc 9 _ (by decide) rfl
  have f9 := hf (t * 28 + 9)
  obtain ⟨h1, k1⟩ := h.cell1 ht 9 (by decide) (.int .i64 (((E.th t).backoff : Int) / 2)) { E.th t with backoff := (E.th t).backoff / 2 } rfl rfl rfl rfl rfl (by intros; rfl)
  have HH := hide h1
  have HK := hide k1
  clear h hc hf h1 k1
  go_enter Tryz.func235, Tryz.ntmps235
  go_wp2_with fail
  refine (enter_w HH.out ht 11).mono ?_
  rintro e w1 ⟨rfl, r1, k2⟩
  have HR := hide (And.intro r1 k2)
  clear r1 k2
  go_wp2
  refine bodyPost_end (v := .tuple #[]) (by simp [results, Tryz.results235, go_sem]) rfl ⟨rfl, HR.out.1.cast ?_, HK.out.trans HR.out.2⟩
  simp only [upd_upd, upd_same]
set_option maxHeartbeats 1000000 in
theorem look_w (h : RE R L S E w) (ht : t < L.n) :
    Calls Tryz.prog 207 #[.pointer (some ⟨L.g, t * 28, none⟩)] w fun e w' => e = .returned (.tuple #[]) ∧ RE R L S { E with th := upd E.th t (ETh.enter { E.th t with stamp := E.pst, srec := E.prec } 5) } w' ∧ Fr L.own w w' := by
  obtain ⟨cv, cf, pv, hc, -, -, -, hf⟩ := h.cells ht rfl
  have c0 : w.cell? ⟨L.g, t * 28, none⟩ = some (.pointer (some ⟨L.bS, 0, none⟩)) := hc 0 _ (by decide) rfl
  have c13 := hc 13 _ (by decide) rfl
  have f13 := hf (t * 28 + 13)
  have s5 : w.cell? ⟨L.bS, 5, none⟩ = some _ := h.sh.cell_of rfl
  obtain ⟨h1, k1⟩ := h.cell1 ht 13 (by decide) (.int .i64 ((E.pst : Int) * 129 + (E.prec : Int))) { E.th t with stamp := E.pst, srec := E.prec } rfl rfl rfl rfl rfl (by intros; rfl)
  have HH := hide h1
  have HK := hide k1
  have HS := hide s5
  clear h hc hf h1 k1 s5
  go_enter Tryz.func207, Tryz.ntmps207
  go_wp2_with fail
  refine (pubRead L.bS 5 _ _ HS.out).mono ?_
  rintro e w1 ⟨rfl, rfl⟩
  go_wp2_with fail
  refine (enter_w HH.out ht 5).mono ?_
  rintro e w1 ⟨rfl, r1, k2⟩
  have HR := hide (And.intro r1 k2)
  clear r1 k2
  go_wp2
  refine bodyPost_end (v := .tuple #[]) (by simp [results, Tryz.results207, go_sem]) rfl ⟨rfl, HR.out.1.cast ?_, HK.out.trans HR.out.2⟩
  simp only [upd_upd, upd_same]
set_option maxHeartbeats 1000000 in
theorem find_w (h : RE R L S E w) (ht : t < L.n) (hp : E.prec < 2 * L.n + 1) (hN : E.pst ≤ 1000000000000) :
    Calls Tryz.prog 214 #[.pointer (some ⟨L.g, t * 28, none⟩)] w fun e w' => e = .returned (.tuple #[]) ∧ RE R L S { E with th := upd E.th t (ETh.enter { E.th t with found := E.prec } 12) } w' ∧ Fr L.own w w' := by
  obtain ⟨cv, cf, pv, hc, hcv, hcf, -, hf⟩ := h.cells ht rfl
  obtain ⟨c0, c1, rfl⟩ := list_cells hcv.1
  obtain ⟨d0, d1, rfl⟩ := list_cells hcf.1
  have hn := h.ok.n64
  have c0 : w.cell? ⟨L.g, t * 28, none⟩ = some (.pointer (some ⟨L.bS, 0, none⟩)) := hc 0 _ (by decide) rfl
  have c22 := hc 24 _ (by decide) rfl
  have f22 := hf (t * 28 + 24)
  have s5 : w.cell? ⟨L.bS, 5, none⟩ = some _ := h.sh.cell_of rfl
  obtain ⟨h1, k1⟩ := h.cell1 ht 24 (by decide) (.int .i64 (E.prec : Int)) { E.th t with found := E.prec } rfl rfl rfl rfl rfl (by intros; rfl)
  have HH := hide h1
  have HK := hide k1
  have HS := hide s5
  have hm := hide (show ((E.pst : Int) * 129 + (E.prec : Int)) % 129 = (E.prec : Int) by omega)
  clear h hc hf h1 k1 s5 hcv hcf
  go_enter Tryz.func214, Tryz.ntmps214
  go_wp2_with fail
  refine (pubRead L.bS 5 _ _ HS.out).mono ?_
  rintro e w1 ⟨rfl, rfl⟩
  go_wp2_with fail
  refine (pubRecord _ _ (by omega) (by omega)).mono ?_
  rintro e w1 ⟨rfl, rfl⟩
  rw [hm.out]
  go_wp2_with fail
  refine (enter_w HH.out ht 12).mono ?_
  rintro e w1 ⟨rfl, r1, k2⟩
  have HR := hide (And.intro r1 k2)
  clear r1 k2
  go_wp2
  refine bodyPost_end (v := .tuple #[]) (by simp [results, Tryz.results214, go_sem]) rfl ⟨rfl, HR.out.1.cast ?_, HK.out.trans HR.out.2⟩
  simp only [upd_upd, upd_same]
end
end Go.Proofs.YtefjhnhdagolhaaGreat.int
