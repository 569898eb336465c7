import Derived.Test.YtefjhnhdagolhaaGreatQ15
import Derived.Test.YtefjhnhdagolhaaGreatQ07
import Derived.Test.YtefjhnhdagolhaaGreatQ14
namespace Go.Proofs.YtefjhnhdagolhaaGreat.tree
open Go.RowKit
open M (upd upd_same upd_other Op Ver ETh ESt wds statusAt valueAt)
attribute [local go_sem ↓] Go.wp_at_zero Go.wp_at_succ
section
variable {σ : Type} {R : SR σ} {L : Lt} {S : Nat → Prop} {E E' : ESt σ} {w : World} {t : Nat}
set_option maxRecDepth 20000 in
set_option maxHeartbeats 2000000 in
theorem publish_hit (h : RE R L S E w) (ht : t < L.n) (hN : E.pst ≤ 1000000000) (hs : E.pst = (E.th t).stamp) (hr : E.prec = (E.th t).srec) (hr1 : (E.th t).srec < 129) (hsp : (E.th t).spare < 129) (hb : (E.th t).backoff ≤ 64) :
    Calls Tryz.prog 346 #[.pointer (some ⟨L.g, t * 28, none⟩)] w fun e w' => e = .returned (.tuple #[]) ∧ RE R L S { E with pst := (E.th t).stamp + 1, prec := (E.th t).spare, th := upd E.th t (ETh.enter { E.th t with spare := (E.th t).kept, kept := (E.th t).spare, backoff := (E.th t).backoff / 2 } 11) } w' ∧ Fr L.own w w' := by
  obtain ⟨cv, cf, pv, hc, -, -, -, hf⟩ := h.cells ht rfl
  have c0 : w.cell? ⟨L.g, t * 28, none⟩ = some (.pointer (some ⟨L.bS, 0, none⟩)) := hc 0 _ (by decide) rfl
  have c11 := hc 11 _ (by decide) rfl
  have c12 := hc 12 _ (by decide) rfl
  have c13 := hc 13 _ (by decide) rfl
  have s5 : w.cell? ⟨L.bS, 5, none⟩ = some (.int .i64 (((E.th t).stamp : Int) * 129 + ((E.th t).srec : Int))) := by
    have : w.cell? ⟨L.bS, 5, none⟩ = some (.int .i64 ((E.pst : Int) * 129 + (E.prec : Int))) := h.sh.cell_of rfl
    rw [this, hs, hr]
  have f5 := h.sh.frozen 5
  obtain ⟨nSg, -⟩ := h.th_ne
  have h1 := h.set_pub ((E.th t).stamp + 1) (E.th t).spare
  rw [show (((E.th t).stamp + 1 : Nat) : Int) = ((E.th t).stamp : Int) + 1 by omega] at h1
  have hN' : (E.th t).stamp ≤ 1000000000 := by omega
  have H1 := hide h1
  have HS := hide (And.intro s5 f5)
  clear h hc hf h1 hs hr s5 f5
  go_enter Tryz.func346, Tryz.ntmps346
  go_wp2
  refine rg0 (S := (fun w' => w'.cell? ⟨L.g, t * 28, none⟩ = some (.pointer (some ⟨L.bS, 0, none⟩)) ∧ w'.cell? ⟨L.g, t * 28 + 11, none⟩ = some (.int .i64 ((E.th t).spare : Int)) ∧ w'.cell? ⟨L.g, t * 28 + 13, none⟩ = some (.int .i64 (((E.th t).stamp : Int) * 129 + ((E.th t).srec : Int))))) 21 rfl (by kernel_rfl) ?_ (fun hHeld => ?_)
  · exact ⟨c0, c11, c13⟩
  iterate 18 (refine tk 20 (by rfl) (by kernel_rfl) (by exact fun _ _ _ h => h) (.inl ⟨by rfl, fun w hS => by (try dsimp only at hS); go_simp; (try with_reducible rfl)⟩) (by assumption) ?_; try go_frame)
  refine rd1 18 (by rfl) (by kernel_rfl) (fun K hK => ?_)
  go_simp
  refine (pubNext (E.th t).stamp (E.th t).srec _ _ rfl hr1 (E.th t).spare hsp (by omega)).mono ?_
  rintro e w3 ⟨rfl, rfl⟩
  go_wp2_with fail
  refine hK.out _ _ ?_ (fun hHeld => ?_)
  · exact hHeld
  clear hK K
  (try go_frame)
  refine rd1 19 (by rfl) (by kernel_rfl) (fun K hK => ?_)
  go_simp
  refine (pubReplace_hit L.bS 5 _ _ w.drew HS.out.1 HS.out.2).mono ?_
  rintro e w3 ⟨rfl, rfl⟩
  go_wp2_with fail
  refine hK.out _ _ ?_ (fun hHeld => ?_)
  · exact ⟨cell_kept hHeld.1 (by first | exact .inr (by dsimp only; omega) | exact .inl (by assumption) | exact .inl (Ne.symm (by assumption))), cell_kept hHeld.2.1 (by first | exact .inr (by dsimp only; omega) | exact .inl (by assumption) | exact .inl (Ne.symm (by assumption))), cell_kept hHeld.2.2 (by first | exact .inr (by dsimp only; omega) | exact .inl (by assumption) | exact .inl (Ne.symm (by assumption)))⟩
  clear hK K
  (try go_frame)
  iterate 1 (refine tk 20 (by rfl) (by kernel_rfl) (by exact fun _ _ _ h => h) (.inl ⟨by rfl, fun w hS => by (try dsimp only at hS); go_simp; (try with_reducible rfl)⟩) (by assumption) ?_; try go_frame)
  refine wpAnyH_done (by kernel_rfl) ?_ _
  clear hHeld c0 c11 c12 c13
  have r1 := H1.out.drew
  generalize hW1 : World.drew _ = W1 at r1
  obtain ⟨cv, cf, pv, hc, -, -, -, hf⟩ := r1.cells ht rfl
  have c11 := hc 11 _ (by decide) rfl
  have c12 := hc 12 _ (by decide) rfl
  have f11 := hf (t * 28 + 11)
  have f12 := hf (t * 28 + 12)
  have hk1 : Fr L.own w W1 := by rw [← hW1]; exact (Fr.set w own_bS _).drew
  dsimp only at c11 c12
  obtain ⟨r2, k2⟩ := r1.cell1 ht 11 (by decide) (.int .i64 ((E.th t).kept : Int)) { E.th t with spare := (E.th t).kept } rfl rfl rfl rfl rfl (by intros; rfl)
  obtain ⟨r3, k3⟩ := r2.cell1 ht 12 (by decide) (.int .i64 ((E.th t).spare : Int)) { E.th t with spare := (E.th t).kept, kept := (E.th t).spare } (by simp [upd_same]) (by simp [upd_same]) (by simp [upd_same]) (by simp [upd_same]) (by simp [upd_same]) (by intros; simp only [upd_same]; rfl)
  have H3 := hide r3
  have K3 := hide ((hk1.trans k2).trans k3)
  clear r1 r2 r3 k2 k3 hc hf hk1
  clear hW1
  go_wp2
  go_region
  go_wp2_with fail
  refine (succeed_w H3.out.drew ht (by simp only [upd_same]; exact hb)).mono ?_
  rintro e w4 ⟨rfl, r4, k4⟩
  have HR := hide (And.intro r4 k4)
  clear r4 k4
  go_wp2
  refine bodyPost_end (v := .tuple #[]) (by simp [results, Tryz.results346, go_sem]) rfl ⟨rfl, HR.out.1.cast ?_, K3.out.drew.trans HR.out.2⟩
  simp only [upd_upd, upd_same]
set_option maxRecDepth 20000 in
set_option maxHeartbeats 2000000 in
theorem publish_miss (h : RE R L S E w) (ht : t < L.n) (hN : (E.th t).stamp ≤ 1000000000) (hp : E.prec < 129) (hne : ¬ (E.pst = (E.th t).stamp ∧ E.prec = (E.th t).srec)) (hr1 : (E.th t).srec < 129) (hsp : (E.th t).spare < 129) (hb : (E.th t).backoff ≤ L.cap) :
    Calls Tryz.prog 346 #[.pointer (some ⟨L.g, t * 28, none⟩)] w fun e w' => e = .returned (.tuple #[]) ∧ RE R L S { E with th := upd E.th t ((E.th t).fail L.cap) } w' ∧ Fr L.own w w' := by
  obtain ⟨cv, cf, pv, hc, -, -, -, hf⟩ := h.cells ht rfl
  have c0 : w.cell? ⟨L.g, t * 28, none⟩ = some (.pointer (some ⟨L.bS, 0, none⟩)) := hc 0 _ (by decide) rfl
  have c11 := hc 11 _ (by decide) rfl
  have c13 := hc 13 _ (by decide) rfl
  have s5 : w.cell? ⟨L.bS, 5, none⟩ = some (.int .i64 ((E.pst : Int) * 129 + (E.prec : Int))) := h.sh.cell_of rfl
  have f5 := h.sh.frozen 5
  have hne' := hide (show ¬ ((E.pst : Int) * 129 + (E.prec : Int) = ((E.th t).stamp : Int) * 129 + ((E.th t).srec : Int)) by intro q; exact hne ⟨by omega, by omega⟩)
  have HS := hide (And.intro s5 f5)
  have HH := hide h
  clear h hc hf s5 f5 hne
  go_enter Tryz.func346, Tryz.ntmps346
  go_wp2
  refine rg0 (S := (fun w' => w'.cell? ⟨L.g, t * 28, none⟩ = some (.pointer (some ⟨L.bS, 0, none⟩)) ∧ w'.cell? ⟨L.g, t * 28 + 11, none⟩ = some (.int .i64 ((E.th t).spare : Int)) ∧ w'.cell? ⟨L.g, t * 28 + 13, none⟩ = some (.int .i64 (((E.th t).stamp : Int) * 129 + ((E.th t).srec : Int))))) 21 rfl (by kernel_rfl) ?_ (fun hHeld => ?_)
  · exact ⟨c0, c11, c13⟩
  iterate 18 (refine tk 20 (by rfl) (by kernel_rfl) (by exact fun _ _ _ h => h) (.inl ⟨by rfl, fun w hS => by (try dsimp only at hS); go_simp; (try with_reducible rfl)⟩) (by assumption) ?_; try go_frame)
  refine rd1 18 (by rfl) (by kernel_rfl) (fun K hK => ?_)
  go_simp
  refine (pubNext (E.th t).stamp (E.th t).srec _ _ rfl hr1 (E.th t).spare hsp (by omega)).mono ?_
  rintro e w3 ⟨rfl, rfl⟩
  go_wp2_with fail
  refine hK.out _ _ ?_ (fun hHeld => ?_)
  · exact hHeld
  clear hK K
  (try go_frame)
  refine rd1 19 (by rfl) (by kernel_rfl) (fun K hK => ?_)
  go_simp
  refine (pubReplace_miss L.bS 5 _ _ _ w.drew HS.out.1 HS.out.2 hne'.out).mono ?_
  rintro e w3 ⟨rfl, rfl⟩
  go_wp2_with fail
  refine hK.out _ _ ?_ (fun hHeld => ?_)
  · exact hHeld
  clear hK K
  (try go_frame)
  iterate 1 (refine tk 20 (by rfl) (by kernel_rfl) (by exact fun _ _ _ h => h) (.inl ⟨by rfl, fun w hS => by (try dsimp only at hS); go_simp; (try with_reducible rfl)⟩) (by assumption) ?_; try go_frame)
  refine wpAnyH_done (by kernel_rfl) ?_ _
  clear hHeld c0 c11 c13
  go_wp2_with fail
  refine (fail_w HH.out.drew ht hb).mono ?_
  rintro e w4 ⟨rfl, r4, k4⟩
  have HR := hide (And.intro r4 k4)
  clear r4 k4
  go_wp2
  exact bodyPost_ret (v := .tuple #[]) (by simp [results, Tryz.results346, go_sem]) rfl ⟨rfl, HR.out.1, ((Fr.refl L.own w).drew).trans HR.out.2⟩
end
end Go.Proofs.YtefjhnhdagolhaaGreat.tree
namespace Go.Proofs.YtefjhnhdagolhaaGreat.tree
open Go.RowKit
open M (upd upd_same upd_other Op Ver ETh ESt wds statusAt valueAt)
attribute [local go_sem ↓] Go.wp_at_zero Go.wp_at_succ
theorem run_store_var {P : Program} {v : Value} (hv : v.oneCell' = true) (W : World) (a : Addr) (u : Value) (hc : W.cell? a = some u) (hf : W.frozen? a = false) : (store a v).run P W = .ok () (W.setCell a v) := by
  rw [run_store P W a v _ hv]
  simp [hc, hf]
section
variable {σ : Type} {R : SR σ} {L : Lt} {S : Nat → Prop} {E E' : ESt σ} {w : World} {t : Nat}
set_option maxRecDepth 20000 in
set_option maxHeartbeats 2000000 in
theorem rwriteWord_w (h : RE R L S E w) (ht : t < L.n) {r p : Nat} (hr : r < 2 * L.n + 1) (hp : p < wds L.n) :
    Calls Tryz.prog 357 #[.pointer (some ⟨L.bP, r * 2, none⟩), .int .i64 (p : Int), .pointer (some ⟨L.g, t * 28 + 14, none⟩)] w fun e w' => e = .returned (.tuple #[]) ∧ RE R L S { E with rw := upd E.rw r (upd (E.rw r) p ((E.th t).dw p)) } w' ∧ Fr L.own w w' := by
  obtain ⟨cv, cf, pv, hc, -, -, -, -⟩ := h.cells ht rfl
  have hn := h.ok.n64
  have hwd : wds L.n ≤ 200 := by unfold M.wds M.tw; omega
  have c14 := hc 14 _ (by decide) rfl
  have p0 := h.recd hr
  have d0 : w.cell? ⟨L.gD t, p, none⟩ = some (.int .i64 ((E.th t).dw p)) := (h.gd t ht).cell hp
  have th : w.there (L.bW r) p 1 := (h.rw r hr).there hp
  have nPW : L.bP ≠ L.bW r := by obtain ⟨sp, q2, -⟩ := h.po; exact Row.apart q2 (h.rw r hr) (by decide)
  have ngW : L.g ≠ L.bW r := by obtain ⟨T, q, -⟩ := h.th; exact Row.apart q (h.rw r hr) (by decide)
  have nDW : L.gD t ≠ L.bW r := Row.apart (h.gd t ht) (h.rw r hr) (by decide)
  have hp' : (p : Int) < (wds L.n : Int) := by omega
  have H1 := hide (h.set_word r hr p ((E.th t).dw p))
  clear h hc
  go_enter Tryz.func357, Tryz.ntmps357
  go_wp2
  refine rg0 (S := (fun w' => w'.cell? ⟨L.g, t * 28 + 14, none⟩ = some (.slice (some ⟨L.gD t, 0, none⟩) (wds L.n) (wds L.n)) ∧ w'.cell? ⟨L.bP, r * 2, none⟩ = some (.slice (some ⟨L.bW r, 0, none⟩) (wds L.n) (wds L.n)) ∧ w'.cell? ⟨L.gD t, p, none⟩ = some (.int .i64 ((E.th t).dw p)) ∧ w'.there (L.bW r) (p) 1)) 14 rfl (by kernel_rfl) ?_ (fun hHeld => ?_)
  · exact ⟨c14, p0, d0, th⟩
  iterate 13 (refine tk 13 (by rfl) (by kernel_rfl) (by exact fun _ _ _ h => h) (.inl ⟨by rfl, fun w hS => by (try dsimp only at hS); go_simp; (try with_reducible rfl)⟩) (by assumption) ?_; try go_frame)
  refine rd1 13 (by rfl) (by kernel_rfl) (fun K hK => ?_)
  go_simp
  obtain ⟨⟨u, hu⟩, hz⟩ := there_cell hHeld.2.2.2
  refine (wordWrite (L.bW r) p u _ _ hu hz).mono ?_
  rintro e w3 ⟨rfl, rfl⟩
  go_wp2_with fail
  refine hK.out _ _ ?_ (fun hHeld => ?_)
  · exact ⟨cell_kept hHeld.1 (by first | exact .inr (by dsimp only; omega) | exact .inl (by assumption) | exact .inl (Ne.symm (by assumption))), cell_kept hHeld.2.1 (by first | exact .inr (by dsimp only; omega) | exact .inl (by assumption) | exact .inl (Ne.symm (by assumption))), cell_kept hHeld.2.2.1 (by first | exact .inr (by dsimp only; omega) | exact .inl (by assumption) | exact .inl (Ne.symm (by assumption))), there_set hHeld.2.2.2 _ rfl _⟩
  clear hK K
  (try go_frame)
  refine wpAnyH_done (by kernel_rfl) ?_ _
  clear hHeld hu hz
  go_wp2
  exact bodyPost_ret (v := .tuple #[]) (by simp [results, Tryz.results357, go_sem]) rfl ⟨rfl, H1.out.drew, (Fr.set w (own_bW hr) _).drew⟩
set_option maxRecDepth 20000 in
set_option maxHeartbeats 2000000 in
theorem rwriteState_w (h : RE R L S E w) (ht : t < L.n) {r : Nat} (hr : r < 2 * L.n + 1) {v f : Ver σ} (hv : (E.th t).now = some v) (hf : (E.th t).frm = some f) :
    Calls Tryz.prog 357 #[.pointer (some ⟨L.bP, r * 2, none⟩), .int .i64 (wds L.n : Int), .pointer (some ⟨L.g, t * 28 + 14, none⟩)] w fun e w' => e = .returned (.tuple #[]) ∧ Left R L S w { E with rst := upd E.rst r (some (v, f)) } w' := by
  obtain ⟨cv, cf, pv, hc, hcv, hcf, -, -⟩ := h.cells ht rfl
  have hvr := hcv.2 v hv
  have hfr := hcf.2 f hf
  obtain ⟨x0, x1, rfl⟩ := list_cells hcv.1
  obtain ⟨y0, y1, rfl⟩ := list_cells hcf.1
  have hn := h.ok.n64
  have hwd : wds L.n ≤ 200 := by unfold M.wds M.tw; omega
  have p0 := h.recd hr
  have e0 := hc 15 _ (by decide) rfl
  have e1 := hc 16 _ (by decide) rfl
  have e2 := hc 17 _ (by decide) rfl
  have e3 := hc 18 _ (by decide) rfl
  have ox0 := VRep.one R hvr x0 (by simp)
  have ox1 := VRep.one R hvr x1 (by simp)
  have oy0 := VRep.one R hfr y0 (by simp)
  have oy1 := VRep.one R hfr y1 (by simp)
  have th : w.there L.bP (r * 2 + 1) 1 := by obtain ⟨sp, q2, -⟩ := h.po; exact q2.there hr (by decide)
  have HH := hide h
  have HV := hide (And.intro hvr hfr)
  have TH := hide th
  clear h hc hcv hcf hvr hfr th
  have runx0 := run_store_var (P := Tryz.prog) ox0
  have runx1 := run_store_var (P := Tryz.prog) ox1
  have runy0 := run_store_var (P := Tryz.prog) oy0
  have runy1 := run_store_var (P := Tryz.prog) oy1
  go_enter Tryz.func357, Tryz.ntmps357
  go_wp2_with fail
  generalize hW3 : World.alloc _ _ = W3
  have hrow : Row W3 w.heap.size 269 ([x0, x1] ++ [y0, y1]) := by rw [← hW3]; exact Row.new w ([x0, x1] ++ [y0, y1]) _
  have hb3 : Below w.heap.size w W3 := by
    rw [← hW3]
    exact below_alloc w _
  have hth3 : W3.there L.bP (r * 2 + 1) 1 := there_later hb3 TH.out
  obtain ⟨⟨u, hu⟩, hz⟩ := there_cell hth3
  have q0 : W3.cell? ⟨w.heap.size, 0, none⟩ = some x0 := hrow.cell_of rfl
  have HB := hide hb3
  have HW := hide hrow
  have HU := hide (And.intro hu hz)
  clear hW3 hb3 hrow hu hz hth3
  refine (atomStore L.bP (r * 2 + 1) w.heap.size u x0 W3 HU.out.1 HU.out.2 q0).mono ?_
  rintro e w4 ⟨rfl, rfl⟩
  go_wp2
  refine bodyPost_end (v := .tuple #[]) (by simp [results, Tryz.results357, go_sem]) rfl ⟨rfl, (Left.below HH.out HB.out).next (Left.of ((HH.out.below HB.out).set_state r hr w.heap.size (some (v, f)) ?_) (Fr.set _ own_bP _) rfl)⟩
  have hst : ∀ k, (S k ∧ ¬ L.own k) → k < w.heap.size → (grown S w W3 k ∧ ¬ L.own k) ∧ W3.heap[k]? = w.heap[k]? := fun k hk hlt => ⟨⟨.inl hk.1, hk.2⟩, HB.out.block k hlt⟩
  have hI : ∀ k, (S k ∧ ¬ L.own k) → k < w.heap.size := fun k hk => HH.out.lt k hk.1
  intro v' f' e
  injection e with e
  injection e with e1 e2
  subst e1
  subst e2
  exact ⟨w.heap.size, _, _, rfl, ⟨.inr ⟨Nat.le_refl _, HW.out.lt⟩, fun q => by have := HH.out.lt _ (HH.out.ow _ q); omega⟩, HW.out, VRep.stay hst hI HV.out.1, VRep.stay hst hI HV.out.2⟩
end
end Go.Proofs.YtefjhnhdagolhaaGreat.tree
namespace Go.Proofs.YtefjhnhdagolhaaGreat.tree
open Go.RowKit
open M (upd upd_same upd_other Op Ver ETh ESt wds statusAt valueAt)
attribute [local go_sem ↓] Go.wp_at_zero Go.wp_at_succ
section
variable {σ : Type} {R : SR σ} {L : Lt} {S : Nat → Prop} {E E' : ESt σ} {w : World} {t : Nat}
theorem RE.parts (h : RE R L S E w) (ht : t < L.n) {e : ETh σ} (he : E.th t = e) : w.cell? ⟨L.g, t * 28, none⟩ = some (.pointer (some ⟨L.bS, 0, none⟩)) ∧ w.cell? ⟨L.g, t * 28 + 4, none⟩ = some (.int .i64 (e.past : Int)) ∧ w.cell? ⟨L.g, t * 28 + 11, none⟩ = some (.int .i64 (e.spare : Int)) ∧
    w.cell? ⟨L.g, t * 28 + 13, none⟩ = some (.int .i64 ((e.stamp : Int) * 129 + (e.srec : Int))) ∧ w.cell? ⟨L.bS, 0, none⟩ = some (.int .i64 (L.n : Int)) ∧ w.cell? ⟨L.bS, 4, none⟩ = some (.slice (some ⟨L.bP, 0, none⟩) (2 * L.n + 1) (2 * L.n + 1)) := by
  obtain ⟨cv, cf, pv, hc, -, -, -, -⟩ := h.cells ht he
  exact ⟨hc 0 _ (by decide) rfl, hc 4 _ (by decide) rfl, hc 11 _ (by decide) rfl, hc 13 _ (by decide) rfl, h.sh.cell_of rfl, h.sh.cell_of rfl⟩
theorem parts_eq (n : Nat) : ((n : Int) + 15) / 16 + 2 * (n : Int) + 1 = ((wds n + 1 : Nat) : Int) := by unfold M.wds M.tw; omega
def wrote (E : ESt σ) (t n : Nat) : ESt σ :=
  if (E.th t).past < wds n then { E with rw := upd E.rw (E.th t).spare (upd (E.rw (E.th t).spare) (E.th t).past ((E.th t).dw (E.th t).past)) } else { E with rst := upd E.rst (E.th t).spare ((E.th t).now.bind fun v => (E.th t).frm.map fun f => (v, f)) }
theorem wrote_th (E : ESt σ) (t n : Nat) : (wrote E t n).th = E.th := by unfold wrote; split <;> rfl
theorem rwrite_w (h : RE R L S E w) (ht : t < L.n) (hr : (E.th t).spare < 2 * L.n + 1) (hp : (E.th t).past ≤ wds L.n) (hs : (E.th t).now.isSome ∧ (E.th t).frm.isSome) :
    Calls Tryz.prog 357 #[.pointer (some ⟨L.bP, (E.th t).spare * 2, none⟩), .int .i64 ((E.th t).past : Int), .pointer (some ⟨L.g, t * 28 + 14, none⟩)] w fun e w' => e = .returned (.tuple #[]) ∧ Left R L S w (wrote E t L.n) w' := by
  unfold wrote
  by_cases q : (E.th t).past < wds L.n
  · rw [if_pos q]
    refine (rwriteWord_w h ht hr q).mono ?_
    rintro e w1 ⟨rfl, r1, k1⟩
    exact ⟨rfl, Left.of r1 k1 rfl⟩
  · rw [if_neg q]
    obtain ⟨v, hv⟩ := Option.isSome_iff_exists.1 hs.1
    obtain ⟨f, hf⟩ := Option.isSome_iff_exists.1 hs.2
    have hq : (E.th t).past = wds L.n := by omega
    have := rwriteState_w h ht hr hv hf
    rw [hq, hv, hf]
    exact this
set_option maxRecDepth 20000 in
set_option maxHeartbeats 2000000 in
theorem writePart_w (h : RE R L S E w) (ht : t < L.n) (hr : (E.th t).spare < 2 * L.n + 1) (hp : (E.th t).past ≤ wds L.n) (hs : (E.th t).now.isSome ∧ (E.th t).frm.isSome) :
    Calls Tryz.prog 345 #[.pointer (some ⟨L.g, t * 28, none⟩)] w fun e w' => e = .returned (.tuple #[]) ∧ Left R L S w { wrote E t L.n with th := upd E.th t ((E.th t).pass (wds L.n + 1) 10) } w' := by
  obtain ⟨c0, c4, c11, -, s0, s4⟩ := h.parts ht rfl
  have hn := h.ok.n64
  have hn1 := h.ok.n1
  have hwd : wds L.n ≤ 200 := by unfold M.wds M.tw; omega
  have hr' : ((E.th t).spare : Int) < 2 * (L.n : Int) + 1 := by omega
  have HH := hide h
  have HP := hide (fun (W : World) (hW : RE R L S E W) => rwrite_w hW ht hr hp hs)
  clear h hs
  go_enter Tryz.func345, Tryz.ntmps345
  go_wp2
  refine rg0 (S := (fun w' => w'.cell? ⟨L.g, t * 28, none⟩ = some (.pointer (some ⟨L.bS, 0, none⟩)) ∧ w'.cell? ⟨L.g, t * 28 + 4, none⟩ = some (.int .i64 ((E.th t).past : Int)) ∧ w'.cell? ⟨L.g, t * 28 + 11, none⟩ = some (.int .i64 ((E.th t).spare : Int)) ∧ w'.cell? ⟨L.bS, 4, none⟩ = some (.slice (some ⟨L.bP, 0, none⟩) (2 * L.n + 1) (2 * L.n + 1)))) 20 rfl (by kernel_rfl) ?_ (fun hHeld => ?_)
  · exact ⟨c0, c4, c11, s4⟩
  iterate 19 (refine tk 19 (by rfl) (by kernel_rfl) (by exact fun _ _ _ h => h) (.inl ⟨by rfl, fun w hS => by (try dsimp only at hS); go_simp; (try with_reducible rfl)⟩) (by assumption) ?_; try go_frame)
  refine rd1 19 (by rfl) (by kernel_rfl) (fun K hK => ?_)
  go_simp
  refine (HP.out w.drew HH.out.drew).mono ?_
  rintro e w3 ⟨rfl, L3⟩
  go_wp2_with fail
  refine hK.out _ _ ?_ (fun hHeld => ?_)
  · obtain ⟨z0, z4, z11, -, -, zs4⟩ := L3.re.parts ht (congrFun (wrote_th E t L.n) t); exact ⟨z0, z4, z11, zs4⟩
  clear hK K
  (try go_frame)
  refine wpAnyH_done (by kernel_rfl) ?_ _
  obtain ⟨z0, z4, z11, -, zs0, -⟩ := L3.re.parts ht (congrFun (wrote_th E t L.n) t)
  have HL := hide (show Left R L S w (wrote E t L.n) w3 from ⟨L3.re, ⟨L3.fr.os, L3.fr.tape, L3.fr.output, L3.fr.size, L3.fr.block⟩⟩)
  clear hHeld c0 c4 c11 s0 s4 z4 z11
  go_wp2_with fail
  refine (parts_any (L.n : Int) _ (by omega) (by omega)).mono ?_
  rintro e w4 ⟨rfl, hb4⟩
  rw [parts_eq]
  have HL4 := hide (HL.out.next (Left.below HL.out.re hb4))
  go_wp2_with fail
  refine (pass_w HL4.out.re ht (wds L.n + 1) 10 (by omega) (by rw [wrote_th]; omega)).mono ?_
  rintro e w5 ⟨rfl, r5, k5⟩
  have HR := hide (And.intro r5 k5)
  clear r5 k5
  go_wp2
  refine bodyPost_end (v := .tuple #[]) (by simp [results, Tryz.results345, go_sem]) rfl ⟨rfl, HL4.out.next (Left.of (HR.out.1.cast ?_) HR.out.2 rfl)⟩
  rw [wrote_th]
end
end Go.Proofs.YtefjhnhdagolhaaGreat.tree
namespace Go.Proofs.YtefjhnhdagolhaaGreat.tree
open Go.RowKit
open M (upd upd_same upd_other Op Ver ETh ESt wds statusAt valueAt)
section
variable {σ : Type} {R : SR σ} {L : Lt} {S : Nat → Prop} {E E' : ESt σ} {w : World} {t : Nat}
theorem thCells_raw (e : ETh σ) (cv cf : List Value) (pv : Value) (hv : cv.length = 1 + 1) (hf : cf.length = 1 + 1) (i : Nat) (hi : i < 2 * (1 + 1)) (v : Value) :
    ∃ cv' cf', cv'.length = 1 + 1 ∧ cf'.length = 1 + 1 ∧ (thCells L t e cv cf pv).set (15 + i) v = thCells L t ({ e with now := none, frm := none } : ETh σ) cv' cf' pv := by
  unfold thCells
  by_cases h : i < 1 + 1
  · refine ⟨cv.set i v, cf, by simpa using hv, hf, ?_⟩
    rw [List.set_append_left _ _ (by simp [hv, hf]; omega), List.set_append_left _ _ (by simp [hv]; omega), List.set_append_right _ _ (by simp)]
    simp
  · refine ⟨cv, cf.set (i - (1 + 1)) v, hv, by simpa using hf, ?_⟩
    rw [List.set_append_left _ _ (by simp [hv, hf]; omega), List.set_append_right _ _ (by simp [hv]; omega)]
    have e : ∀ m, m = 15 + (1 + 1) → 15 + i - m = i - (1 + 1) := fun m hm => by omega
    rw [e _ (by simp [hv])]
theorem RE.raw (h : RE R L S E w) (ht0 : t < L.n) (i : Nat) (hi : i < 2 * (1 + 1)) (v : Value) :
    RE R L S { E with th := upd E.th t { E.th t with now := none, frm := none } } (w.setCell ⟨L.g, t * 28 + (15 + i), none⟩ v) ∧ Fr L.own w (w.setCell ⟨L.g, t * 28 + (15 + i), none⟩ v) := by
  refine ⟨?_, Fr.set w own_g _⟩
  obtain ⟨sp, hp1, hp2⟩ := h.po
  obtain ⟨T, ht1, ht2⟩ := h.th
  have hown : L.own (L.g) := own_g
  have ho : ∀ k, k ≠ L.g → (w.setCell ⟨L.g, t * 28 + (15 + i), none⟩ v).heap[k]? = w.heap[k]? := fun k hk => Below.heap_setCell w _ _ k hk
  have hst : ∀ k, (S k ∧ ¬ L.own k) → k < w.heap.size → (S k ∧ ¬ L.own k) ∧ (w.setCell ⟨L.g, t * 28 + (15 + i), none⟩ v).heap[k]? = w.heap[k]? := fun k hk _ => ⟨hk, ho k (by rintro rfl; exact hk.2 hown)⟩
  have hI : ∀ k, (S k ∧ ¬ L.own k) → k < w.heap.size := fun k hk => h.lt k hk.1
  refine { ok := h.ok, eng := h.eng.of_block (ho _ (fun q => h.enS.2 (by rw [q]; exact hown))), enS := h.enS, sh := ?sh, tg := ?tg, an := ?an, po := ?po, rw := ?rw, th := ?th, gd := ?gd, gg := ?gg, ow := h.ow, lt := fun k hk => (by simpa [World.setCell] using h.lt k hk) }
  case sh => exact h.sh.of_block (ho _ (Row.apart h.sh ht1 (by decide)))
  case tg => exact h.tg.of_block (ho _ (Row.apart h.tg ht1 (by decide)))
  case an => exact h.an.of_block (ho _ (Row.apart h.an ht1 (by decide)))
  case po => exact ⟨sp, hp1.of_block (ho _ (Row.apart hp1 ht1 (by decide))), fun r hr => (hp2 r hr).stay hst hI⟩
  case rw => exact fun r hr => (h.rw r hr).of_block (ho _ (Row.apart (h.rw r hr) ht1 (by decide)))
  case th =>
    refine ⟨_, ht1.set (show 15 + i < 28 by omega) v, fun u hu => ?_⟩
    obtain ⟨cv, cf, pv, q⟩ := ht2 u hu
    have q' := q.stay hst hI
    by_cases c : u = t
    · subst c
      obtain ⟨cv', cf', l1, l2, hset⟩ := thCells_raw (L := L) (t := u) (E.th u) cv cf pv q.now.1 q.frm.1 i hi v
      refine ⟨cv', cf', pv, ?_⟩
      show ThRep R L _ _ u (upd E.th u _ u) (upd T u (upd (T u) (15 + i) v) u) _ _ _
      rw [upd_same, upd_same]
      refine ⟨?_, ⟨l1, fun x hx => by cases hx⟩, ⟨l2, fun x hx => by cases hx⟩, q'.pend⟩
      have := q.like.set (15 + i) v
      rwa [hset] at this
    · refine ⟨cv, cf, pv, ?_⟩
      show ThRep R L _ _ u (upd E.th t _ u) (upd T t (upd (T t) (15 + i) v) u) _ _ _
      rw [upd_other _ _ c, upd_other _ _ c]
      exact q'
  case gd =>
    intro u hu
    refine ((h.gd u hu).of_block (ho _ (Row.apart (h.gd u hu) ht1 (by decide)))).congr (fun k _ => ?_)
    exact congrArg _ (congrFun (upd_dw E.th t { E.th t with now := none, frm := none } rfl u).symm k)
  case gg =>
    intro u hu
    refine ((h.gg u hu).of_block (ho _ (Row.apart (h.gg u hu) ht1 (by decide)))).congr (fun k _ => ?_)
    exact congrArg _ (congrFun (upd_tg E.th t { E.th t with now := none, frm := none } rfl u).symm k)
theorem RE.adopt (h : RE R L S E w) (ht0 : t < L.n) {cv cf : List Value} (hcv : ∀ i, i < 1 + 1 → w.cell? ⟨L.g, t * 28 + (15 + i), none⟩ = cv[i]?) (hcf : ∀ i, i < 1 + 1 → w.cell? ⟨L.g, t * 28 + (15 + (1 + 1 + i)), none⟩ = cf[i]?)
    {v f : Ver σ} (hv : VRep R (fun k => S k ∧ ¬ L.own k) w v cv) (hf : VRep R (fun k => S k ∧ ¬ L.own k) w f cf) (e' : ETh σ) (he : e' = { E.th t with now := some v, frm := some f }) : RE R L S { E with th := upd E.th t e' } w := by
  subst he
  obtain ⟨T, ht1, ht2⟩ := h.th
  have lv := VRep.len R hv
  have lf := VRep.len R hf
  refine { ok := h.ok, eng := h.eng, enS := h.enS, sh := h.sh, tg := h.tg, an := h.an, po := h.po, rw := h.rw, th := ⟨T, ht1, fun u hu => ?th⟩, gd := ?gd, gg := ?gg, ow := h.ow, lt := h.lt }
  case th =>
    obtain ⟨cv0, cf0, pv, q⟩ := ht2 u hu
    show ∃ cv cf pv, ThRep R L _ w u (upd E.th t _ u) (T u) cv cf pv
    by_cases c : u = t
    · subst c
      rw [upd_same]
      refine ⟨cv, cf, pv, ?_, ⟨lv, fun x hx => by injection hx with hx; rw [← hx]; exact hv⟩, ⟨lf, fun x hx => by injection hx with hx; rw [← hx]; exact hf⟩, q.pend⟩
      have e1 : cv = cv0 := by
        apply List.ext_getElem?
        intro i
        by_cases hi : i < 1 + 1
        · rw [← hcv i hi, ht1.cell (Nat.lt_of_lt_of_le hu h.ok.gn) (show 15 + i < 28 by omega)]
          have : (thCells L u (E.th u) cv0 cf0 pv)[15 + i]? = cv0[i]? := by
            unfold thCells
            rw [List.getElem?_append_left (by simp [q.now.1, q.frm.1]; omega), List.getElem?_append_left (by simp [q.now.1]; omega), List.getElem?_append_right (by simp)]
            simp
          have hl : i < cv0.length := by rw [q.now.1]; exact hi
          rw [List.getElem?_eq_getElem hl] at this ⊢
          rw [q.like _ _ this]
        · rw [List.getElem?_eq_none (by omega), List.getElem?_eq_none (by have := q.now.1; omega)]
      have e2 : cf = cf0 := by
        apply List.ext_getElem?
        intro i
        by_cases hi : i < 1 + 1
        · rw [← hcf i hi, ht1.cell (Nat.lt_of_lt_of_le hu h.ok.gn) (show 15 + (1 + 1 + i) < 28 by omega)]
          have : (thCells L u (E.th u) cv0 cf0 pv)[15 + (1 + 1 + i)]? = cf0[i]? := by
            unfold thCells
            rw [List.getElem?_append_left (by simp [q.now.1, q.frm.1]; omega), List.getElem?_append_right (by simp [q.now.1]; omega)]
            simp [q.now.1]
            congr 1
            omega
          have hl : i < cf0.length := by rw [q.frm.1]; exact hi
          rw [List.getElem?_eq_getElem hl] at this ⊢
          rw [q.like _ _ this]
        · rw [List.getElem?_eq_none (by omega), List.getElem?_eq_none (by have := q.frm.1; omega)]
      rw [e1, e2]
      exact q.like
    · rw [upd_other _ _ c]
      exact ⟨cv0, cf0, pv, q⟩
  case gd =>
    intro u hu
    refine (h.gd u hu).congr (fun k _ => ?_)
    exact congrArg _ (congrFun (upd_dw E.th t { E.th t with now := some v, frm := some f } rfl u).symm k)
  case gg =>
    intro u hu
    refine (h.gg u hu).congr (fun k _ => ?_)
    exact congrArg _ (congrFun (upd_tg E.th t { E.th t with now := some v, frm := some f } rfl u).symm k)
theorem RE.raws (ht0 : t < L.n) : ∀ (vs : List Value) (i : Nat) (E : ESt σ) (w : World), RE R L S E w → (E.th t).now = none → (E.th t).frm = none → i + vs.length ≤ 2 * (1 + 1) → RE R L S E (w.setCells L.g (t * 28 + (15 + i)) vs) ∧ Fr L.own w (w.setCells L.g (t * 28 + (15 + i)) vs)
  | [], _, _, w, h, _, _, _ => ⟨h, Fr.refl _ w⟩
  | v :: vs, i, E, w, h, h1, h2, hl => by
    simp only [List.length_cons] at hl
    obtain ⟨r1, k1⟩ := h.raw ht0 i (by omega) v
    have e : { E with th := upd E.th t { E.th t with now := none, frm := none } } = E := by
      have : ({ E.th t with now := none, frm := none } : ETh σ) = E.th t := by
        cases hq : E.th t with
        | mk a1 a2 a3 a4 a5 a6 a7 a8 a9 a10 a11 a12 a13 a14 a15 a16 a17 a18 a19 a20 =>
          rw [hq] at h1 h2
          simp only at h1 h2
          subst h1
          subst h2
          rfl
      rw [this]
      have u : upd E.th t (E.th t) = E.th := by funext k; unfold upd; split <;> simp_all
      rw [u]
    rw [e] at r1
    obtain ⟨r2, k2⟩ := RE.raws ht0 vs (i + 1) E _ r1 h1 h2 (by omega)
    rw [World.setCells, show t * 28 + (15 + i) + 1 = t * 28 + (15 + (i + 1)) by omega]
    exact ⟨r2, k1.trans k2⟩
theorem RE.set_vers (h : RE R L S E w) (ht0 : t < L.n) (vs : List Value) (i : Nat) (hl : i + vs.length ≤ 2 * (1 + 1)) (hne : vs ≠ []) {cv cf : List Value} {v f : Ver σ} (hv : VRep R (fun k => S k ∧ ¬ L.own k) w v cv) (hf : VRep R (fun k => S k ∧ ¬ L.own k) w f cf)
    (hc : ∀ j, j < 2 * (1 + 1) → (if i ≤ j ∧ j < i + vs.length then vs[j - i]? else w.cell? ⟨L.g, t * 28 + (15 + j), none⟩) = (cv ++ cf)[j]?) (e' : ETh σ) (he : e' = { E.th t with now := some v, frm := some f }) :
    RE R L S { E with th := upd E.th t e' } (w.setCells L.g (t * 28 + (15 + i)) vs) ∧ Fr L.own w (w.setCells L.g (t * 28 + (15 + i)) vs) := by
  cases vs with
  | nil => exact absurd rfl hne
  | cons a vs =>
    simp only [List.length_cons] at hl
    obtain ⟨r1, k1⟩ := h.raw ht0 i (by omega) a
    obtain ⟨r2, k2⟩ := RE.raws ht0 vs (i + 1) _ _ r1 (by simp [upd_same]) (by simp [upd_same]) (by omega)
    have hw : (w.setCell ⟨L.g, t * 28 + (15 + i), none⟩ a).setCells L.g (t * 28 + (15 + (i + 1))) vs = w.setCells L.g (t * 28 + (15 + i)) (a :: vs) := by
      rw [World.setCells, show t * 28 + (15 + i) + 1 = t * 28 + (15 + (i + 1)) by omega]
    rw [hw] at r2 k2
    have kk := k1.trans k2
    have lv := VRep.len R hv
    have lf := VRep.len R hf
    have hst : ∀ k, (S k ∧ ¬ L.own k) → k < w.heap.size → (S k ∧ ¬ L.own k) ∧ (w.setCells L.g (t * 28 + (15 + i)) (a :: vs)).heap[k]? = w.heap[k]? := fun k hk hlt => ⟨hk, kk.block k hlt hk.2⟩
    have hI : ∀ k, (S k ∧ ¬ L.own k) → k < w.heap.size := fun k hk => h.lt k hk.1
    have hth : ∀ j, j < 2 * (1 + 1) → (w.cell? ⟨L.g, t * 28 + (15 + j), none⟩).isSome = true := by
      obtain ⟨T, ht1, -⟩ := h.th
      intro j hj
      rw [ht1.cell (Nat.lt_of_lt_of_le ht0 h.ok.gn) (show 15 + j < 28 by omega)]
      rfl
    have hcell : ∀ j, j < 2 * (1 + 1) → (w.setCells L.g (t * 28 + (15 + i)) (a :: vs)).cell? ⟨L.g, t * 28 + (15 + j), none⟩ = (cv ++ cf)[j]? := by
      intro j hj
      rw [← hc j hj]
      by_cases q : i ≤ j ∧ j < i + (a :: vs).length
      · rw [if_pos q]
        have hj2 : j - i < (a :: vs).length := by omega
        have := World.cell?_setCells_in L.g (a :: vs) (t * 28 + (15 + i)) w (fun k hk => by
          simp only [List.length_cons] at hk
          have := hth (i + k) (by omega)
          rwa [show t * 28 + (15 + i) + k = t * 28 + (15 + (i + k)) by omega]) (j - i) hj2
        rw [show t * 28 + (15 + i) + (j - i) = t * 28 + (15 + j) by omega] at this
        rw [this, List.getElem?_eq_getElem hj2]
      · rw [if_neg q]
        refine World.cell?_setCells_out L.g (a :: vs) _ w _ (fun _ _ => ?_)
        show t * 28 + (15 + j) < _ ∨ _ ≤ t * 28 + (15 + j)
        omega
    have := r2.adopt ht0 (cv := cv) (cf := cf) (fun j hj => by rw [hcell j (by omega), List.getElem?_append_left (by omega)]) (fun j hj => by rw [hcell (1 + 1 + j) (by omega), List.getElem?_append_right (by omega), lv]; congr 1; omega) (VRep.stay hst hI hv) (VRep.stay hst hI hf) e' (by rw [he]; simp only [upd_same])
    refine ⟨this.cast ?_, kk⟩
    simp only [upd_upd]
end
end Go.Proofs.YtefjhnhdagolhaaGreat.tree
