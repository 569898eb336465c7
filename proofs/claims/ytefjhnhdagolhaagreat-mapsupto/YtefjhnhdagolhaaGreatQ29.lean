import Derived.Test.YtefjhnhdagolhaaGreatQ28
import Derived.Test.YtefjhnhdagolhaaGreatQ04
namespace Go.Proofs.YtefjhnhdagolhaaGreat.tree
open Go.RowKit
open M (upd upd_same upd_other Op Ver ETh ESt wds statusAt valueAt)
attribute [local go_sem ↓] Go.wp_at_zero Go.wp_at_succ
section
variable {σ : Type} {R : SR σ} {L : Lt} {S : Nat → Prop} {E E' : ESt σ} {w : World} {t : Nat}
structure Can (L : Lt) (E : ESt σ) (t : Nat) : Prop where
  N : E.pst ≤ 1000000000
  st : (E.th t).stamp ≤ 1000000000
  pr : E.prec < 2 * L.n + 1
  sr : (E.th t).srec < 129
  sp : (E.th t).spare < 2 * L.n + 1
  b : (E.th t).backoff ≤ L.cap
  p1 : (E.th t).phase = 1 → (E.th t).past < 3
  p2 : (E.th t).phase = 2 → 0 ≤ E.togs (t / 16) ∧ E.togs (t / 16) < 65536
  p3 : (E.th t).phase = 3 → (E.th t).past ≤ 1000000
  p5 : (E.th t).phase = 5 → (E.th t).srec < 2 * L.n + 1 ∧ (E.th t).past ≤ wds L.n ∧ (E.rst (E.th t).srec).isSome
  p6 : (E.th t).phase = 6 → (E.th t).past < M.tw L.n
  p7 : (E.th t).phase = 7 → E.pst = (E.th t).stamp → ∀ k, k < M.tw L.n → Word16 ((E.th t).tg k) ∧ Word16 ((E.th t).dw k)
  p8 : (E.th t).phase = 8 → (∃ v f, (E.th t).now = some v ∧ (E.th t).frm = some f) ∧ (E.th t).past < 3 * (E.th t).pend.length ∧ (E.th t).pend.length ≤ 64 ∧ (E.th t).pend.getD ((E.th t).past / 3) 0 < L.n
  p9 : (E.th t).phase = 9 → (E.th t).spare < 2 * L.n + 1 ∧ (E.th t).past ≤ wds L.n ∧ (E.th t).now.isSome ∧ (E.th t).frm.isSome
  p12 : (E.th t).phase = 12 ∨ (E.th t).phase = 13 → (E.th t).found < 2 * L.n + 1
set_option maxRecDepth 20000 in
set_option maxHeartbeats 1000000 in
theorem step_1 {P : M.Plain σ} {fA : Nat} {rv : Value} (_hA : ApOk R P L fA rv) (h : RE R L S E w) (ht : t < L.n) (hC : Can L E t) (hph : (E.th t).phase = 1) :
    Calls Tryz.prog 333 #[.pointer (some ⟨L.g, t * 28, none⟩)] w fun e w' => e = .returned (.tuple #[]) ∧ Left R L S w (M.step P L.n L.cap E t) w' := by
  obtain ⟨cv, cf, pv, hc, -, -, -, -⟩ := h.cells ht rfl
  have c3 : w.cell? ⟨L.g, t * 28 + 3, none⟩ = some (.int .i64 1) := by have := hc 3 _ (by decide) rfl; rw [hph] at this; exact this
  have HH := hide h
  have HC := hide hC
  have HX := hide (announce_w HH.out ht (HC.out.p1 hph))
  have HP := hide hph
  clear h hc hC hph
  go_enter Tryz.func333, Tryz.ntmps333
  go_wp2_with fail
  refine HX.out.mono ?_
  rintro e w1 ⟨rfl, r1, k1⟩
  have HR := hide (Left.of r1 k1 rfl)
  clear r1 k1
  go_wp2
  refine bodyPost_end (v := .tuple #[]) (by simp [results, Tryz.results333, go_sem]) rfl ⟨rfl, HR.out.cast ?_⟩
  unfold M.step
  simp only [HP.out]
set_option maxRecDepth 20000 in
set_option maxHeartbeats 1000000 in
theorem step_2 {P : M.Plain σ} {fA : Nat} {rv : Value} (_hA : ApOk R P L fA rv) (h : RE R L S E w) (ht : t < L.n) (hC : Can L E t) (hph : (E.th t).phase = 2) :
    Calls Tryz.prog 333 #[.pointer (some ⟨L.g, t * 28, none⟩)] w fun e w' => e = .returned (.tuple #[]) ∧ Left R L S w (M.step P L.n L.cap E t) w' := by
  obtain ⟨cv, cf, pv, hc, -, -, -, -⟩ := h.cells ht rfl
  have c3 : w.cell? ⟨L.g, t * 28 + 3, none⟩ = some (.int .i64 2) := by have := hc 3 _ (by decide) rfl; rw [hph] at this; exact this
  have HH := hide h
  have HC := hide hC
  have HX := hide (flip_w HH.out ht (HC.out.p2 hph).1 (HC.out.p2 hph).2)
  have HP := hide hph
  clear h hc hC hph
  go_enter Tryz.func333, Tryz.ntmps333
  go_wp2_with fail
  refine HX.out.mono ?_
  rintro e w1 ⟨rfl, r1, k1⟩
  have HR := hide (Left.of r1 k1 rfl)
  clear r1 k1
  go_wp2
  refine bodyPost_end (v := .tuple #[]) (by simp [results, Tryz.results333, go_sem]) rfl ⟨rfl, HR.out.cast ?_⟩
  unfold M.step
  simp only [HP.out]
set_option maxRecDepth 20000 in
set_option maxHeartbeats 1000000 in
theorem step_3 {P : M.Plain σ} {fA : Nat} {rv : Value} (_hA : ApOk R P L fA rv) (h : RE R L S E w) (ht : t < L.n) (hC : Can L E t) (hph : (E.th t).phase = 3) :
    Calls Tryz.prog 333 #[.pointer (some ⟨L.g, t * 28, none⟩)] w fun e w' => e = .returned (.tuple #[]) ∧ Left R L S w (M.step P L.n L.cap E t) w' := by
  obtain ⟨cv, cf, pv, hc, -, -, -, -⟩ := h.cells ht rfl
  have c3 : w.cell? ⟨L.g, t * 28 + 3, none⟩ = some (.int .i64 3) := by have := hc 3 _ (by decide) rfl; rw [hph] at this; exact this
  have c9 := hc 9 _ (by decide) rfl
  have HH := hide h
  have HC := hide hC
  have HX := hide (pass_w HH.out ht (E.th t).backoff 4 (by have := HC.out.b; have := HH.out.ok.c64; omega) (HC.out.p3 hph))
  have HP := hide hph
  clear h hc hC hph
  go_enter Tryz.func333, Tryz.ntmps333
  go_wp2_with fail
  refine HX.out.mono ?_
  rintro e w1 ⟨rfl, r1, k1⟩
  have HR := hide (Left.of r1 k1 rfl)
  clear r1 k1
  go_wp2
  refine bodyPost_end (v := .tuple #[]) (by simp [results, Tryz.results333, go_sem]) rfl ⟨rfl, HR.out.cast ?_⟩
  unfold M.step
  simp only [HP.out]
set_option maxRecDepth 20000 in
set_option maxHeartbeats 1000000 in
theorem step_4 {P : M.Plain σ} {fA : Nat} {rv : Value} (_hA : ApOk R P L fA rv) (h : RE R L S E w) (ht : t < L.n) (hC : Can L E t) (hph : (E.th t).phase = 4) :
    Calls Tryz.prog 333 #[.pointer (some ⟨L.g, t * 28, none⟩)] w fun e w' => e = .returned (.tuple #[]) ∧ Left R L S w (M.step P L.n L.cap E t) w' := by
  obtain ⟨cv, cf, pv, hc, -, -, -, -⟩ := h.cells ht rfl
  have c3 : w.cell? ⟨L.g, t * 28 + 3, none⟩ = some (.int .i64 4) := by have := hc 3 _ (by decide) rfl; rw [hph] at this; exact this
  have HH := hide h
  have HC := hide hC
  have HX := hide (look_w HH.out ht)
  have HP := hide hph
  clear h hc hC hph
  go_enter Tryz.func333, Tryz.ntmps333
  go_wp2_with fail
  refine HX.out.mono ?_
  rintro e w1 ⟨rfl, r1, k1⟩
  have HR := hide (Left.of r1 k1 rfl)
  clear r1 k1
  go_wp2
  refine bodyPost_end (v := .tuple #[]) (by simp [results, Tryz.results333, go_sem]) rfl ⟨rfl, HR.out.cast ?_⟩
  unfold M.step
  simp only [HP.out]
set_option maxRecDepth 20000 in
set_option maxHeartbeats 1000000 in
theorem step_5 {P : M.Plain σ} {fA : Nat} {rv : Value} (_hA : ApOk R P L fA rv) (h : RE R L S E w) (ht : t < L.n) (hC : Can L E t) (hph : (E.th t).phase = 5) :
    Calls Tryz.prog 333 #[.pointer (some ⟨L.g, t * 28, none⟩)] w fun e w' => e = .returned (.tuple #[]) ∧ Left R L S w (M.step P L.n L.cap E t) w' := by
  obtain ⟨cv, cf, pv, hc, -, -, -, -⟩ := h.cells ht rfl
  have c3 : w.cell? ⟨L.g, t * 28 + 3, none⟩ = some (.int .i64 5) := by have := hc 3 _ (by decide) rfl; rw [hph] at this; exact this
  have HH := hide h
  have HC := hide hC
  have HX := hide (copyPart_w HH.out ht (HC.out.p5 hph).1 (HC.out.p5 hph).2.1 HC.out.st (HC.out.p5 hph).2.2)
  have HP := hide hph
  clear h hc hC hph
  go_enter Tryz.func333, Tryz.ntmps333
  go_wp2_with fail
  refine HX.out.mono ?_
  rintro e w1 ⟨rfl, L1⟩
  have HR := hide L1
  clear L1
  go_wp2
  refine bodyPost_end (v := .tuple #[]) (by simp [results, Tryz.results333, go_sem]) rfl ⟨rfl, HR.out.cast ?_⟩
  unfold M.step copied
  simp only [HP.out]
  all_goals (split <;> rfl)
set_option maxRecDepth 20000 in
set_option maxHeartbeats 1000000 in
theorem step_6 {P : M.Plain σ} {fA : Nat} {rv : Value} (_hA : ApOk R P L fA rv) (h : RE R L S E w) (ht : t < L.n) (hC : Can L E t) (hph : (E.th t).phase = 6) :
    Calls Tryz.prog 333 #[.pointer (some ⟨L.g, t * 28, none⟩)] w fun e w' => e = .returned (.tuple #[]) ∧ Left R L S w (M.step P L.n L.cap E t) w' := by
  obtain ⟨cv, cf, pv, hc, -, -, -, -⟩ := h.cells ht rfl
  have c3 : w.cell? ⟨L.g, t * 28 + 3, none⟩ = some (.int .i64 6) := by have := hc 3 _ (by decide) rfl; rw [hph] at this; exact this
  have HH := hide h
  have HC := hide hC
  have HX := hide (scan_w HH.out ht (HC.out.p6 hph))
  have HP := hide hph
  clear h hc hC hph
  go_enter Tryz.func333, Tryz.ntmps333
  go_wp2_with fail
  refine HX.out.mono ?_
  rintro e w1 ⟨rfl, r1, k1⟩
  have HR := hide (Left.of r1 k1 rfl)
  clear r1 k1
  go_wp2
  refine bodyPost_end (v := .tuple #[]) (by simp [results, Tryz.results333, go_sem]) rfl ⟨rfl, HR.out.cast ?_⟩
  unfold M.step
  simp only [HP.out]
set_option maxRecDepth 20000 in
set_option maxHeartbeats 1000000 in
theorem step_7 {P : M.Plain σ} {fA : Nat} {rv : Value} (_hA : ApOk R P L fA rv) (h : RE R L S E w) (ht : t < L.n) (hC : Can L E t) (hph : (E.th t).phase = 7) :
    Calls Tryz.prog 333 #[.pointer (some ⟨L.g, t * 28, none⟩)] w fun e w' => e = .returned (.tuple #[]) ∧ Left R L S w (M.step P L.n L.cap E t) w' := by
  obtain ⟨cv, cf, pv, hc, -, -, -, -⟩ := h.cells ht rfl
  have c3 : w.cell? ⟨L.g, t * 28 + 3, none⟩ = some (.int .i64 7) := by have := hc 3 _ (by decide) rfl; rw [hph] at this; exact this
  have HH := hide h
  have HC := hide hC
  have HX := hide (check_w HH.out ht HC.out.N HC.out.st (by have := HC.out.pr; have := HH.out.ok.n64; omega) HC.out.sr HC.out.b (HC.out.p7 hph))
  have HP := hide hph
  clear h hc hC hph
  go_enter Tryz.func333, Tryz.ntmps333
  go_wp2_with fail
  refine HX.out.mono ?_
  rintro e w1 ⟨rfl, L1⟩
  have HR := hide L1
  clear L1
  go_wp2
  refine bodyPost_end (v := .tuple #[]) (by simp [results, Tryz.results333, go_sem]) rfl ⟨rfl, HR.out.cast ?_⟩
  unfold M.step checked
  simp only [HP.out]
set_option maxRecDepth 20000 in
set_option maxHeartbeats 1000000 in
theorem step_8 {P : M.Plain σ} {fA : Nat} {rv : Value} (hA : ApOk R P L fA rv) (h : RE R L S E w) (ht : t < L.n) (hC : Can L E t) (hph : (E.th t).phase = 8) (hZ : ∀ v, (E.th t).now = some v → R.sz v.st ≤ 1000000000000) :
    Calls Tryz.prog 333 #[.pointer (some ⟨L.g, t * 28, none⟩)] w fun e w' => e = .returned (.tuple #[]) ∧ Left R L S w (M.step P L.n L.cap E t) w' := by
  obtain ⟨cv, cf, pv, hc, -, -, -, -⟩ := h.cells ht rfl
  have c3 : w.cell? ⟨L.g, t * 28 + 3, none⟩ = some (.int .i64 8) := by have := hc 3 _ (by decide) rfl; rw [hph] at this; exact this
  have HH := hide h
  have HC := hide hC
  obtain ⟨⟨v, f, hv, hf⟩, hp, hl, hk⟩ := hC.p8 hph
  have HX := hide (help_w hA HH.out ht HC.out.st HC.out.sr hv hf (hZ v hv) hp hl hk)
  have HP := hide hph
  clear h hc hC hph hv hf hp hl hk hZ
  go_enter Tryz.func333, Tryz.ntmps333
  go_wp2_with fail
  refine HX.out.mono ?_
  rintro e w1 ⟨rfl, L1⟩
  have HR := hide L1
  clear L1
  go_wp2
  refine bodyPost_end (v := .tuple #[]) (by simp [results, Tryz.results333, go_sem]) rfl ⟨rfl, HR.out.cast ?_⟩
  unfold M.step heard3 heard2 heard1
  simp only [HP.out]
set_option maxRecDepth 20000 in
set_option maxHeartbeats 1000000 in
theorem step_9 {P : M.Plain σ} {fA : Nat} {rv : Value} (_hA : ApOk R P L fA rv) (h : RE R L S E w) (ht : t < L.n) (hC : Can L E t) (hph : (E.th t).phase = 9) :
    Calls Tryz.prog 333 #[.pointer (some ⟨L.g, t * 28, none⟩)] w fun e w' => e = .returned (.tuple #[]) ∧ Left R L S w (M.step P L.n L.cap E t) w' := by
  obtain ⟨cv, cf, pv, hc, -, -, -, -⟩ := h.cells ht rfl
  have c3 : w.cell? ⟨L.g, t * 28 + 3, none⟩ = some (.int .i64 9) := by have := hc 3 _ (by decide) rfl; rw [hph] at this; exact this
  have HH := hide h
  have HC := hide hC
  have HX := hide (writePart_w HH.out ht (HC.out.p9 hph).1 (HC.out.p9 hph).2.1 (HC.out.p9 hph).2.2)
  have HP := hide hph
  clear h hc hC hph
  go_enter Tryz.func333, Tryz.ntmps333
  go_wp2_with fail
  refine HX.out.mono ?_
  rintro e w1 ⟨rfl, L1⟩
  have HR := hide L1
  clear L1
  go_wp2
  refine bodyPost_end (v := .tuple #[]) (by simp [results, Tryz.results333, go_sem]) rfl ⟨rfl, HR.out.cast ?_⟩
  unfold M.step wrote
  simp only [HP.out]
  all_goals (split <;> rfl)
set_option maxRecDepth 20000 in
set_option maxHeartbeats 1000000 in
theorem step_11 {P : M.Plain σ} {fA : Nat} {rv : Value} (_hA : ApOk R P L fA rv) (h : RE R L S E w) (ht : t < L.n) (hC : Can L E t) (hph : (E.th t).phase = 11) :
    Calls Tryz.prog 333 #[.pointer (some ⟨L.g, t * 28, none⟩)] w fun e w' => e = .returned (.tuple #[]) ∧ Left R L S w (M.step P L.n L.cap E t) w' := by
  obtain ⟨cv, cf, pv, hc, -, -, -, -⟩ := h.cells ht rfl
  have c3 : w.cell? ⟨L.g, t * 28 + 3, none⟩ = some (.int .i64 11) := by have := hc 3 _ (by decide) rfl; rw [hph] at this; exact this
  have HH := hide h
  have HC := hide hC
  have HX := hide (find_w HH.out ht HC.out.pr (by have := HC.out.N; omega))
  have HP := hide hph
  clear h hc hC hph
  go_enter Tryz.func333, Tryz.ntmps333
  go_wp2_with fail
  refine HX.out.mono ?_
  rintro e w1 ⟨rfl, r1, k1⟩
  have HR := hide (Left.of r1 k1 rfl)
  clear r1 k1
  go_wp2
  refine bodyPost_end (v := .tuple #[]) (by simp [results, Tryz.results333, go_sem]) rfl ⟨rfl, HR.out.cast ?_⟩
  unfold M.step
  simp only [HP.out]
set_option maxRecDepth 20000 in
set_option maxHeartbeats 1000000 in
theorem step_12 {P : M.Plain σ} {fA : Nat} {rv : Value} (_hA : ApOk R P L fA rv) (h : RE R L S E w) (ht : t < L.n) (hC : Can L E t) (hph : (E.th t).phase = 12) :
    Calls Tryz.prog 333 #[.pointer (some ⟨L.g, t * 28, none⟩)] w fun e w' => e = .returned (.tuple #[]) ∧ Left R L S w (M.step P L.n L.cap E t) w' := by
  obtain ⟨cv, cf, pv, hc, -, -, -, -⟩ := h.cells ht rfl
  have c3 : w.cell? ⟨L.g, t * 28 + 3, none⟩ = some (.int .i64 12) := by have := hc 3 _ (by decide) rfl; rw [hph] at this; exact this
  have HH := hide h
  have HC := hide hC
  have HX := hide (takeStatus_w HH.out ht (HC.out.p12 (.inl hph)))
  have HP := hide hph
  clear h hc hC hph
  go_enter Tryz.func333, Tryz.ntmps333
  go_wp2_with fail
  refine HX.out.mono ?_
  rintro e w1 ⟨rfl, L1⟩
  have HR := hide L1
  clear L1
  go_wp2
  refine bodyPost_end (v := .tuple #[]) (by simp [results, Tryz.results333, go_sem]) rfl ⟨rfl, HR.out.cast ?_⟩
  unfold M.step
  simp only [HP.out]
set_option maxRecDepth 20000 in
set_option maxHeartbeats 1000000 in
theorem step_13 {P : M.Plain σ} {fA : Nat} {rv : Value} (_hA : ApOk R P L fA rv) (h : RE R L S E w) (ht : t < L.n) (hC : Can L E t) (hph : (E.th t).phase = 13) :
    Calls Tryz.prog 333 #[.pointer (some ⟨L.g, t * 28, none⟩)] w fun e w' => e = .returned (.tuple #[]) ∧ Left R L S w (M.step P L.n L.cap E t) w' := by
  obtain ⟨cv, cf, pv, hc, -, -, -, -⟩ := h.cells ht rfl
  have c3 : w.cell? ⟨L.g, t * 28 + 3, none⟩ = some (.int .i64 13) := by have := hc 3 _ (by decide) rfl; rw [hph] at this; exact this
  have HH := hide h
  have HC := hide hC
  have HX := hide (takeValue_w HH.out ht (HC.out.p12 (.inr hph)))
  have HP := hide hph
  clear h hc hC hph
  go_enter Tryz.func333, Tryz.ntmps333
  go_wp2_with fail
  refine HX.out.mono ?_
  rintro e w1 ⟨rfl, L1⟩
  have HR := hide L1
  clear L1
  go_wp2
  refine bodyPost_end (v := .tuple #[]) (by simp [results, Tryz.results333, go_sem]) rfl ⟨rfl, HR.out.cast ?_⟩
  unfold M.step
  simp only [HP.out]
set_option maxRecDepth 20000 in
set_option maxHeartbeats 1000000 in
theorem step_10 {P : M.Plain σ} (h : RE R L S E w) (ht : t < L.n) (hC : Can L E t) (hph : (E.th t).phase = 10) :
    Calls Tryz.prog 333 #[.pointer (some ⟨L.g, t * 28, none⟩)] w fun e w' => e = .returned (.tuple #[]) ∧ Left R L S w (M.step P L.n L.cap E t) w' := by
  obtain ⟨cv, cf, pv, hc, -, -, -, -⟩ := h.cells ht rfl
  have c3 : w.cell? ⟨L.g, t * 28 + 3, none⟩ = some (.int .i64 10) := by have := hc 3 _ (by decide) rfl; rw [hph] at this; exact this
  have hn := h.ok.n64
  have hc64 := h.ok.c64
  have HX : Calls Tryz.prog 346 #[.pointer (some ⟨L.g, t * 28, none⟩)] w fun e w' => e = .returned (.tuple #[]) ∧ Left R L S w (M.step P L.n L.cap E t) w' := by
    by_cases q : E.pst = (E.th t).stamp ∧ E.prec = (E.th t).srec
    · refine (publish_hit h ht hC.N q.1 q.2 hC.sr (by have := hC.sp; omega) (by have := hC.b; omega)).mono ?_
      rintro e w1 ⟨rfl, r1, k1⟩
      refine ⟨rfl, (Left.of r1 k1 rfl).cast ?_⟩
      unfold M.step
      simp only [hph]
      rw [if_pos q]
    · refine (publish_miss h ht hC.st (by have := hC.pr; omega) q hC.sr (by have := hC.sp; omega) hC.b).mono ?_
      rintro e w1 ⟨rfl, r1, k1⟩
      refine ⟨rfl, (Left.of r1 k1 rfl).cast ?_⟩
      unfold M.step
      simp only [hph]
      rw [if_neg q]
  have HX := hide HX
  clear h hc hC hph
  go_enter Tryz.func333, Tryz.ntmps333
  go_wp2_with fail
  refine HX.out.mono ?_
  rintro e w1 ⟨rfl, L1⟩
  have HR := hide L1
  clear L1
  go_wp2
  exact bodyPost_end (v := .tuple #[]) (by simp [results, Tryz.results333, go_sem]) rfl ⟨rfl, HR.out⟩
theorem step_w {P : M.Plain σ} {fA : Nat} {rv : Value} (hA : ApOk R P L fA rv) (h : RE R L S E w) (ht : t < L.n) (hC : Can L E t) (hZ : (E.th t).phase = 8 → ∀ v, (E.th t).now = some v → R.sz v.st ≤ 1000000000000) (h1 : 1 ≤ (E.th t).phase) (h13 : (E.th t).phase ≤ 13) :
    Calls Tryz.prog 333 #[.pointer (some ⟨L.g, t * 28, none⟩)] w fun e w' => e = .returned (.tuple #[]) ∧ Left R L S w (M.step P L.n L.cap E t) w' := by
  rcases (by omega : (E.th t).phase = 1 ∨ (E.th t).phase = 2 ∨ (E.th t).phase = 3 ∨ (E.th t).phase = 4 ∨ (E.th t).phase = 5 ∨ (E.th t).phase = 6 ∨ (E.th t).phase = 7 ∨ (E.th t).phase = 8 ∨ (E.th t).phase = 9 ∨ (E.th t).phase = 10 ∨ (E.th t).phase = 11 ∨ (E.th t).phase = 12 ∨ (E.th t).phase = 13) with q | q | q | q | q | q | q | q | q | q | q | q | q
  · exact step_1 hA h ht hC q
  · exact step_2 hA h ht hC q
  · exact step_3 hA h ht hC q
  · exact step_4 hA h ht hC q
  · exact step_5 hA h ht hC q
  · exact step_6 hA h ht hC q
  · exact step_7 hA h ht hC q
  · exact step_8 hA h ht hC q (hZ q)
  · exact step_9 hA h ht hC q
  · exact step_10 h ht hC q
  · exact step_11 hA h ht hC q
  · exact step_12 hA h ht hC q
  · exact step_13 hA h ht hC q
end
end Go.Proofs.YtefjhnhdagolhaaGreat.tree
namespace Go.Proofs.YtefjhnhdagolhaaGreat.tree
open Go.RowKit
open M (upd upd_same upd_other Op Ver ETh ESt RSt RTh wds statusAt valueAt)
section
variable {σ : Type} {R : SR σ} {L : Lt} {S : Nat → Prop} {E : ESt σ} {Y : RSt} {w : World} {t : Nat} {P : M.Plain σ}
theorem Can.of (hn : L.n ≤ 64) (hc : L.cap ≤ 64) (h : M.Inv P L.n L.cap E Y) (hB : M.Bnd L.n E) (hN : E.pst ≤ 1000000000) (ht : t < L.n) : Can L E t := by
  obtain ⟨pb, nf, hp, G, T⟩ := h
  have X := T t ht
  obtain ⟨b1, b2, b3⟩ := hB.th t ht
  have part : ∀ p, 1 ≤ p → p ≤ 10 → (E.th t).phase = p → (Y.th t).part = p := by
    intro p h1 h10 hq
    by_cases q : (Y.th t).part = 11
    · have := X.p4 q; omega
    · have := X.p2 (by have := X.p1; omega); omega
  have len : ∀ p, 1 ≤ p → p ≤ 10 → (E.th t).phase = p → (E.th t).past < (Y.th t).len L.n p := by
    intro p h1 h10 hq
    have a := part p h1 h10 hq
    have := X.p3 (by omega) (by omega)
    rw [a] at this
    omega
  have hsp : (E.th t).spare < 2 * L.n + 1 := by rcases X.sp with q | q <;> omega
  refine { N := hN, st := Nat.le_trans b3 hN, pr := hB.pr, sr := by omega, sp := hsp, b := by rw [X.bk]; exact X.bc, p1 := ?_, p2 := ?_, p3 := ?_, p5 := ?_, p6 := ?_, p7 := ?_, p8 := ?_, p9 := ?_, p12 := fun _ => b2 }
  · intro q; have := len 1 (by omega) (by omega) q; simpa [RTh.len] using this
  · intro q
    have e : E.togs (t / 16) = M.bits L.n (fun k => (Y.th k).flips) (t / 16) := G.togs (t / 16) (by unfold M.tw; omega)
    rw [e]
    exact ⟨M.bits_nonneg _ _ _, M.bits_lt _ _ _⟩
  · intro q
    have := len 3 (by omega) (by omega) q
    have e : (Y.th t).len L.n 3 = (Y.th t).backoff := by simp [RTh.len]
    have := X.bc
    omega
  · intro q
    have := len 5 (by omega) (by omega) q
    have e : (Y.th t).len L.n 5 = wds L.n + 1 := by simp [RTh.len]
    have a := part 5 (by omega) (by omega) q
    exact ⟨b1, by omega, (X.s1 (by omega) (by omega)).2.2.2.2.2.2.2⟩
  · intro q
    have := len 6 (by omega) (by omega) q
    have e : (Y.th t).len L.n 6 = M.tw L.n := by simp [RTh.len]
    omega
  · intro q hs k hk
    have a := part 7 (by omega) (by omega) q
    have hs' : (E.th t).stamp = (M.view E Y pb nf).N := by rw [← hs, hp]; rfl
    have t7 := (X.t7 (by omega) (by omega)).1 k hk
    have d7 := (X.d7 (.inr a) hs').1 k (by unfold wds; omega)
    have c7 := G.curW k hk
    rw [t7, d7, c7]
    exact ⟨⟨M.bits_nonneg _ _ _, M.bits_lt _ _ _⟩, M.bits_nonneg _ _ _, M.bits_lt _ _ _⟩
  · intro q
    have a := part 8 (by omega) (by omega) q
    have l := len 8 (by omega) (by omega) q
    have e : (Y.th t).len L.n 8 = 3 * (Y.th t).pend.length := by simp [RTh.len]
    obtain ⟨-, d1, d2⟩ := X.d6 (by omega) (by omega)
    obtain ⟨h1, h2, -⟩ := X.h8 (by omega) (by omega)
    have hl : (E.th t).past < 3 * (E.th t).pend.length := by rw [h1]; omega
    have hm : ∀ k ∈ (E.th t).pend, k < L.n := by
      intro k hk
      rw [h2] at hk
      exact List.mem_range.mp (List.mem_filter.mp hk).1
    refine ⟨?_, hl, ?_, ?_⟩
    · obtain ⟨v, hv⟩ := Option.isSome_iff_exists.mp d1
      obtain ⟨f, hf⟩ := Option.isSome_iff_exists.mp d2
      exact ⟨v, f, hv, hf⟩
    · rw [h2]
      refine Nat.le_trans (List.length_filter_le _ _) ?_
      rw [List.length_range]
      exact hn
    · have hi : (E.th t).past / 3 < (E.th t).pend.length := by omega
      rw [List.getD_eq_getElem?_getD, List.getElem?_eq_getElem hi]
      exact hm _ (List.getElem_mem hi)
  · intro q
    have := len 9 (by omega) (by omega) q
    have e : (Y.th t).len L.n 9 = wds L.n + 1 := by simp [RTh.len]
    have a := part 9 (by omega) (by omega) q
    obtain ⟨-, d1, d2⟩ := X.d6 (by omega) (by omega)
    exact ⟨hsp, by omega, d1, d2⟩
end
end Go.Proofs.YtefjhnhdagolhaaGreat.tree
namespace Go.Proofs.YtefjhnhdagolhaaGreat.tree
open Go.RowKit
open M (upd upd_same upd_other Op Ver ETh ESt RSt RTh wds statusAt valueAt)
attribute [local go_sem ↓] Go.wp_at_zero Go.wp_at_succ
section
variable {σ : Type} {R : SR σ} {L : Lt} {S : Nat → Prop} {E : ESt σ} {w : World} {t : Nat}
set_option maxHeartbeats 1000000 in
theorem busy_w (h : RE R L S E w) (ht : t < L.n) :
    Calls Tryz.prog 331 #[.pointer (some ⟨L.g, t * 28, none⟩)] w fun e w' => e = .returned (.bool (decide ((E.th t).phase ≠ 0))) ∧ w' = w := by
  obtain ⟨cv, cf, pv, hc, -, -, -, hf⟩ := h.cells ht rfl
  have c3 := hc 3 _ (by decide) rfl
  clear h hc hf
  go_enter Tryz.func331, Tryz.ntmps331
  go_wp2
  go_ret
  refine ⟨ret_bool ?_, rfl⟩
  rw [Bool.eq_iff_iff]
  simp
set_option maxHeartbeats 1000000 in
theorem has_w (h : RE R L S E w) (x : Int) :
    Calls Tryz.prog 330 #[.pointer (some ⟨L.bE, 0, none⟩), .int .i64 x] w fun e w' => e = .returned (.bool (decide (0 ≤ x ∧ x < L.n))) ∧ w' = w := by
  have c1 : w.cell? ⟨L.bE, 1, none⟩ = some (.slice (some ⟨L.g, 0, none⟩) L.n L.gc) := h.eng.cell_of rfl
  clear h
  by_cases q : 0 ≤ x
  · have hg : decide (x ≥ 0) = true := by simp [q]
    go_enter Tryz.func330, Tryz.ntmps330
    go_wp2
    go_ret
    refine ⟨ret_bool ?_, rfl⟩
    simp [q]
  · go_enter Tryz.func330, Tryz.ntmps330
    go_wp2
    go_ret
    refine ⟨ret_bool ?_, rfl⟩
    simp
    omega
set_option maxRecDepth 20000 in
set_option maxHeartbeats 1000000 in
theorem begin_w (h : RE R L S E w) (ht : t < L.n) (o : M.Op) :
    Calls Tryz.prog 332 #[.pointer (some ⟨L.g, t * 28, none⟩), .agg #[.int .i64 o.c, .int .i64 o.a, .int .i64 o.b]] w fun e w' => e = .returned (.tuple #[]) ∧ Left R L S w (M.begin E t o) w' := by
  have HH := hide h
  clear h
  go_enter Tryz.func332, Tryz.ntmps332
  go_upto_region 1 with fail
  generalize hW1 : World.alloc w _ = W1
  have hb1 : Below w.heap.size w W1 := by rw [← hW1]; exact below_alloc w _
  have hro : Row W1 w.heap.size 36 [.int .i64 o.c, .int .i64 o.a, .int .i64 o.b] := by rw [← hW1]; exact Row.new w [_, _, _] _
  have o0 : W1.cell? ⟨w.heap.size, 0, none⟩ = some (.int .i64 o.c) := hro.cell_of rfl
  have o1 : W1.cell? ⟨w.heap.size, 1, none⟩ = some (.int .i64 o.a) := hro.cell_of rfl
  have o2 : W1.cell? ⟨w.heap.size, 2, none⟩ = some (.int .i64 o.b) := hro.cell_of rfl
  have HL := hide (Left.below HH.out hb1)
  obtain ⟨cv, cf, pv, hc, -, -, -, hf⟩ := HL.out.re.cells ht rfl
  have c5 := hc 5 _ (by decide) rfl
  have c6 : W1.cell? ⟨L.g, t * 28 + 5 + 1, none⟩ = some (.int .i64 (E.th t).op.a) := hc 6 _ (by decide) rfl
  have c7 : W1.cell? ⟨L.g, t * 28 + 5 + 2, none⟩ = some (.int .i64 (E.th t).op.b) := hc 7 _ (by decide) rfl
  have c10 := hc 10 _ (by decide) rfl
  have f5 := hf (t * 28 + 5)
  have f6 := hf (t * 28 + 5 + 1)
  have f7 := hf (t * 28 + 5 + 2)
  have f10 := hf (t * 28 + 10)
  obtain ⟨h1, k1⟩ := HL.out.re.cell1 ht 5 (by decide) (.int .i64 o.c) { E.th t with op := ⟨o.c, (E.th t).op.a, (E.th t).op.b⟩ } rfl rfl rfl rfl rfl (by intros; rfl)
  obtain ⟨h2, k2⟩ := h1.cell1 ht 6 (by decide) (.int .i64 o.a) { E.th t with op := ⟨o.c, o.a, (E.th t).op.b⟩ } (by simp [upd_same]) (by simp [upd_same]) (by simp [upd_same]) (by simp [upd_same]) (by simp [upd_same]) (by intros; simp only [upd_same]; rfl)
  obtain ⟨h3, k3⟩ := h2.cell1 ht 7 (by decide) (.int .i64 o.b) { E.th t with op := ⟨o.c, o.a, o.b⟩ } (by simp [upd_same]) (by simp [upd_same]) (by simp [upd_same]) (by simp [upd_same]) (by simp [upd_same]) (by intros; simp only [upd_same]; rfl)
  obtain ⟨h4, k4⟩ := h3.cell1 ht 10 (by decide) (.bool false) { E.th t with op := ⟨o.c, o.a, o.b⟩, again := false } (by simp [upd_same]) (by simp [upd_same]) (by simp [upd_same]) (by simp [upd_same]) (by simp [upd_same]) (by intros; simp only [upd_same]; rfl)
  have H4 := hide h4
  have K4 := hide (((k1.trans k2).trans k3).trans k4)
  clear hW1 hb1 hro hc hf h1 h2 h3 h4 k1 k2 k3 k4
  go_wp2_with fail
  refine (enter_w H4.out ht 1).mono ?_
  rintro e w5 ⟨rfl, r5, k5⟩
  have HR := hide (HL.out.next (Left.of r5 (K4.out.trans k5) rfl))
  clear r5 k5
  go_wp2
  refine bodyPost_end (v := .tuple #[]) (by simp [results, Tryz.results332, go_sem]) rfl ⟨rfl, HR.out.cast ?_⟩
  unfold M.begin
  simp only [upd_upd, upd_same]
end
end Go.Proofs.YtefjhnhdagolhaaGreat.tree
namespace Go.Proofs.YtefjhnhdagolhaaGreat.tree
open Go.RowKit
open M (upd upd_same upd_other Ver ETh ESt RSt RTh wds statusAt valueAt)
attribute [local go_sem ↓] Go.wp_at_zero Go.wp_at_succ
section
variable {σ : Type} {R : SR σ} {L : Lt} {S : Nat → Prop} {E : ESt σ} {w : World} {t : Nat}
set_option maxRecDepth 20000 in
set_option maxHeartbeats 1000000 in
theorem Begin_bad (h : RE R L S E w) (x : Int) (hx : ¬ (0 ≤ x ∧ x < L.n)) (o : M.Op) :
    Calls Tryz.prog 324 #[.pointer (some ⟨L.bE, 0, none⟩), .int .i64 x, .agg #[.int .i64 o.c, .int .i64 o.a, .int .i64 o.b]] w fun e w' => e = .returned (.int .i64 3) ∧ Left R L S w E w' := by
  have HH := hide h
  have HX := hide (show decide (0 ≤ x ∧ x < (L.n : Int)) = false by simpa using hx)
  clear h hx
  go_enter Tryz.func324, Tryz.ntmps324
  go_upto_region 1 with fail
  generalize hW1 : World.alloc w _ = W1
  have hb1 : Below w.heap.size w W1 := by rw [← hW1]; exact below_alloc w _
  have HL := hide (Left.below HH.out hb1)
  clear hW1 hb1
  go_wp2_with fail
  refine (has_w HL.out.re x).mono ?_
  rintro e w2 ⟨rfl, rfl⟩
  rw [HX.out]
  go_wp2
  go_ret
  exact ⟨rfl, HL.out⟩
set_option maxRecDepth 20000 in
set_option maxHeartbeats 1000000 in
theorem Begin_busy (h : RE R L S E w) (ht : t < L.n) (hp : (E.th t).phase ≠ 0) (o : M.Op) :
    Calls Tryz.prog 324 #[.pointer (some ⟨L.bE, 0, none⟩), .int .i64 (t : Int), .agg #[.int .i64 o.c, .int .i64 o.a, .int .i64 o.b]] w fun e w' => e = .returned (.int .i64 4) ∧ Left R L S w E w' := by
  have HH := hide h
  have HX := hide (show decide (0 ≤ (t : Int) ∧ (t : Int) < (L.n : Int)) = true by simp; omega)
  have HP := hide (show decide ((E.th t).phase ≠ 0) = true by simpa using hp)
  have ht' : (t : Int) < (L.n : Int) := by omega
  clear h hp
  go_enter Tryz.func324, Tryz.ntmps324
  go_upto_region 1 with fail
  generalize hW1 : World.alloc w _ = W1
  have hb1 : Below w.heap.size w W1 := by rw [← hW1]; exact below_alloc w _
  have HL := hide (Left.below HH.out hb1)
  have c1 : W1.cell? ⟨L.bE, 1, none⟩ = some (.slice (some ⟨L.g, 0, none⟩) L.n L.gc) := HL.out.re.eng.cell_of rfl
  clear hW1 hb1
  go_wp2_with fail
  refine (has_w HL.out.re (t : Int)).mono ?_
  rintro e w2 ⟨rfl, rfl⟩
  rw [HX.out]
  go_wp2_with fail
  refine (busy_w HL.out.re ht).mono ?_
  rintro e w3 ⟨rfl, rfl⟩
  rw [HP.out]
  go_wp2
  go_ret
  exact ⟨rfl, HL.out⟩
set_option maxRecDepth 20000 in
set_option maxHeartbeats 1000000 in
theorem Begin_idle (h : RE R L S E w) (ht : t < L.n) (hp : (E.th t).phase = 0) (o : M.Op) :
    Calls Tryz.prog 324 #[.pointer (some ⟨L.bE, 0, none⟩), .int .i64 (t : Int), .agg #[.int .i64 o.c, .int .i64 o.a, .int .i64 o.b]] w fun e w' => e = .returned (.int .i64 0) ∧ Left R L S w (M.begin E t o) w' := by
  have HH := hide h
  have HX := hide (show decide (0 ≤ (t : Int) ∧ (t : Int) < (L.n : Int)) = true by simp; omega)
  have HP := hide (show decide ((E.th t).phase ≠ 0) = false by simpa using hp)
  have ht' : (t : Int) < (L.n : Int) := by omega
  clear h hp
  go_enter Tryz.func324, Tryz.ntmps324
  go_upto_region 1 with fail
  generalize hW1 : World.alloc w _ = W1
  have hb1 : Below w.heap.size w W1 := by rw [← hW1]; exact below_alloc w _
  have hro : Row W1 w.heap.size 36 [.int .i64 o.c, .int .i64 o.a, .int .i64 o.b] := by rw [← hW1]; exact Row.new w [_, _, _] _
  have o0 : W1.cell? ⟨w.heap.size, 0, none⟩ = some (.int .i64 o.c) := hro.cell_of rfl
  have o1 : W1.cell? ⟨w.heap.size, 1, none⟩ = some (.int .i64 o.a) := hro.cell_of rfl
  have o2 : W1.cell? ⟨w.heap.size, 2, none⟩ = some (.int .i64 o.b) := hro.cell_of rfl
  have HL := hide (Left.below HH.out hb1)
  have c1 : W1.cell? ⟨L.bE, 1, none⟩ = some (.slice (some ⟨L.g, 0, none⟩) L.n L.gc) := HL.out.re.eng.cell_of rfl
  clear hW1 hb1 hro
  go_wp2_with fail
  refine (has_w HL.out.re (t : Int)).mono ?_
  rintro e w2 ⟨rfl, rfl⟩
  rw [HX.out]
  go_wp2_with fail
  refine (busy_w HL.out.re ht).mono ?_
  rintro e w3 ⟨rfl, rfl⟩
  rw [HP.out]
  go_upto_region 5 with fail
  have HB := hide (begin_w (HL.out.re.drew) ht o)
  go_region_with (go_at_call 332; refine HB.out.mono ?_; rintro e w4 ⟨rfl, hr⟩; have HR := hide hr; clear hr)
  all_goals go_wp2
  all_goals go_ret
  all_goals exact ⟨rfl, HL.out.next ⟨HR.out.re, (Fr.refl _ _).drew.trans HR.out.fr⟩⟩
end
end Go.Proofs.YtefjhnhdagolhaaGreat.tree
namespace Go.Proofs.YtefjhnhdagolhaaGreat.tree
open Go.RowKit
open M (upd upd_same upd_other Ver ETh ESt RSt RTh wds statusAt valueAt)
attribute [local go_sem ↓] Go.wp_at_zero Go.wp_at_succ
section
variable {σ : Type} {R : SR σ} {L : Lt} {S : Nat → Prop} {E : ESt σ} {w : World} {t : Nat}
set_option maxRecDepth 20000 in
set_option maxHeartbeats 1000000 in
theorem Step_bad (h : RE R L S E w) (x : Int) (hx : ¬ (0 ≤ x ∧ x < L.n)) :
    Calls Tryz.prog 329 #[.pointer (some ⟨L.bE, 0, none⟩), .int .i64 x] w fun e w' => e = .returned (.tuple #[.int .i64 0, .int .i64 3]) ∧ w' = w := by
  have HH := hide h
  have HX := hide (show decide (0 ≤ x ∧ x < (L.n : Int)) = false by simpa using hx)
  clear h hx
  go_enter Tryz.func329, Tryz.ntmps329
  go_wp2_with fail
  refine (has_w HH.out x).mono ?_
  rintro e w2 ⟨rfl, rfl⟩
  rw [HX.out]
  go_wp2
  refine bodyPost_ret (v := .tuple #[.int .i64 0, .int .i64 3]) (by simp [results, Tryz.results329, go_sem]) rfl ⟨rfl, rfl⟩
set_option maxRecDepth 20000 in
set_option maxHeartbeats 1000000 in
theorem Step_idle (h : RE R L S E w) (ht : t < L.n) (hp : (E.th t).phase = 0) :
    Calls Tryz.prog 329 #[.pointer (some ⟨L.bE, 0, none⟩), .int .i64 (t : Int)] w fun e w' => e = .returned (.tuple #[.int .i64 0, .int .i64 5]) ∧ w' = w := by
  have HH := hide h
  have HX := hide (show decide (0 ≤ (t : Int) ∧ (t : Int) < (L.n : Int)) = true by simp; omega)
  have HP := hide (show decide ((E.th t).phase ≠ 0) = false by simpa using hp)
  have ht' : (t : Int) < (L.n : Int) := by omega
  have c1 : w.cell? ⟨L.bE, 1, none⟩ = some (.slice (some ⟨L.g, 0, none⟩) L.n L.gc) := h.eng.cell_of rfl
  clear h hp
  go_enter Tryz.func329, Tryz.ntmps329
  go_wp2_with fail
  refine (has_w HH.out (t : Int)).mono ?_
  rintro e w2 ⟨rfl, rfl⟩
  rw [HX.out]
  go_wp2_with fail
  refine (busy_w HH.out ht).mono ?_
  rintro e w3 ⟨rfl, rfl⟩
  rw [HP.out]
  go_wp2
  refine bodyPost_ret (v := .tuple #[.int .i64 0, .int .i64 5]) (by simp [results, Tryz.results329, go_sem]) rfl ⟨rfl, rfl⟩
set_option maxRecDepth 20000 in
set_option maxHeartbeats 1000000 in
theorem Step_busy {P : M.Plain σ} {fA : Nat} {rv : Value} (hA : ApOk R P L fA rv) (h : RE R L S E w) (ht : t < L.n) (hC : Can L E t) (hZ : (E.th t).phase = 8 → ∀ v, (E.th t).now = some v → R.sz v.st ≤ 1000000000000) (h1 : 1 ≤ (E.th t).phase) (h13 : (E.th t).phase ≤ 13) :
    Calls Tryz.prog 329 #[.pointer (some ⟨L.bE, 0, none⟩), .int .i64 (t : Int)] w fun e w' => e = .returned (.tuple #[.int .i64 (if ((M.step P L.n L.cap E t).th t).phase = 0 then 2 else 1), .int .i64 0]) ∧ Left R L S w (M.step P L.n L.cap E t) w' := by
  have HH := hide h
  have HX := hide (show decide (0 ≤ (t : Int) ∧ (t : Int) < (L.n : Int)) = true by simp; omega)
  have HP := hide (show decide ((E.th t).phase ≠ 0) = true by simp; omega)
  have HS := hide (step_w hA h ht hC hZ h1 h13)
  have ht' : (t : Int) < (L.n : Int) := by omega
  have c1 : w.cell? ⟨L.bE, 1, none⟩ = some (.slice (some ⟨L.g, 0, none⟩) L.n L.gc) := h.eng.cell_of rfl
  clear h hA hC hZ h1 h13
  go_enter Tryz.func329, Tryz.ntmps329
  go_wp2_with fail
  refine (has_w HH.out (t : Int)).mono ?_
  rintro e w2 ⟨rfl, rfl⟩
  rw [HX.out]
  go_wp2_with fail
  refine (busy_w HH.out ht).mono ?_
  rintro e w3 ⟨rfl, rfl⟩
  rw [HP.out]
  go_wp2_with fail
  refine HS.out.mono ?_
  rintro e w4 ⟨rfl, hr⟩
  have HR := hide hr
  have d1 : w4.cell? ⟨L.bE, 1, none⟩ = some (.slice (some ⟨L.g, 0, none⟩) L.n L.gc) := hr.re.eng.cell_of rfl
  clear hr
  go_wp2_with fail
  refine (busy_w HR.out.re ht).mono ?_
  rintro e w5 ⟨rfl, rfl⟩
  by_cases q : ((M.step P L.n L.cap E t).th t).phase = 0
  · have HQ := hide (show decide (((M.step P L.n L.cap E t).th t).phase ≠ 0) = false by simpa using q)
    rw [HQ.out]
    have HI := hide q
    clear q
    go_wp2
    refine bodyPost_ret (v := .tuple #[.int .i64 2, .int .i64 0]) (by simp [results, Tryz.results329, go_sem]) rfl ⟨rfl, HR.out⟩
  · have HQ := hide (show decide (((M.step P L.n L.cap E t).th t).phase ≠ 0) = true by simpa using q)
    rw [HQ.out]
    have HI := hide q
    clear q
    go_wp2
    refine bodyPost_ret (v := .tuple #[.int .i64 1, .int .i64 0]) (by simp [results, Tryz.results329, go_sem]) rfl ⟨rfl, HR.out⟩
end
end Go.Proofs.YtefjhnhdagolhaaGreat.tree
