import Derived.Test.YtefjhnhdagolhaaGreatQ16
import Derived.Test.YtefjhnhdagolhaaGreatQ11
import Derived.Test.YtefjhnhdagolhaaGreatQ17
import Derived.Test.YtefjhnhdagolhaaGreatQ25
namespace Go.Proofs.YtefjhnhdagolhaaGreat.tree
open Go.RowKit
open M (upd upd_same upd_other Op Ver ETh ESt wds statusAt valueAt)
attribute [local go_sem ↓] Go.wp_at_zero Go.wp_at_succ
section
variable {σ : Type} {R : SR σ} {L : Lt} {S : Nat → Prop} {E E' : ESt σ} {w : World} {t : Nat}
set_option maxRecDepth 20000 in
set_option maxHeartbeats 2000000 in
theorem rreadWord_w (h : RE R L S E w) (ht : t < L.n) {r p : Nat} (hr : r < 2 * L.n + 1) (hp : p < wds L.n) :
    Calls Tryz.prog 352 #[.pointer (some ⟨L.bP, r * 2, none⟩), .int .i64 (p : Int), .pointer (some ⟨L.g, t * 28 + 14, none⟩)] w fun e w' => e = .returned (.tuple #[]) ∧ RE R L S { E with th := upd E.th t { E.th t with dw := upd (E.th t).dw p (E.rw r p) } } w' ∧ Fr L.own w w' := by
  obtain ⟨cv, cf, pv, hc, -, -, -, -⟩ := h.cells ht rfl
  have hn := h.ok.n64
  have hwd : wds L.n ≤ 200 := by unfold M.wds M.tw; omega
  have c14 := hc 14 _ (by decide) rfl
  have p0 := h.recd hr
  have d0 : w.cell? ⟨L.bW r, p, none⟩ = some (.int .i64 (E.rw r p)) := (h.rw r hr).cell hp
  have th : w.there (L.gD t) p 1 := (h.gd t ht).there hp
  have nPD : L.bP ≠ L.gD t := by obtain ⟨sp, q2, -⟩ := h.po; exact Row.apart q2 (h.gd t ht) (by decide)
  have ngD : L.g ≠ L.gD t := by obtain ⟨T, q, -⟩ := h.th; exact Row.apart q (h.gd t ht) (by decide)
  have nWD : L.bW r ≠ L.gD t := Row.apart (h.rw r hr) (h.gd t ht) (by decide)
  have hp' : (p : Int) < (wds L.n : Int) := by omega
  have H1 := hide (h.set_draft t ht p (E.rw r p))
  clear h hc
  go_enter Tryz.func352, Tryz.ntmps352
  go_wp2
  refine rg0 (S := (fun w' => w'.cell? ⟨L.g, t * 28 + 14, none⟩ = some (.slice (some ⟨L.gD t, 0, none⟩) (wds L.n) (wds L.n)) ∧ w'.cell? ⟨L.bP, r * 2, none⟩ = some (.slice (some ⟨L.bW r, 0, none⟩) (wds L.n) (wds L.n)) ∧ w'.cell? ⟨L.bW r, p, none⟩ = some (.int .i64 (E.rw r p)) ∧ w'.there (L.gD t) (p) 1)) 14 rfl (by kernel_rfl) ?_ (fun hHeld => ?_)
  · exact ⟨c14, p0, d0, th⟩
  iterate 11 (refine tk 13 (by rfl) (by kernel_rfl) (by exact fun _ _ _ h => h) (.inl ⟨by rfl, fun w hS => by (try dsimp only at hS); go_simp; (try with_reducible rfl)⟩) (by assumption) ?_; try go_frame)
  refine rd1 11 (by rfl) (by kernel_rfl) (fun K hK => ?_)
  go_simp
  refine (wordRead (L.bW r) p _ _ hHeld.2.2.1).mono ?_
  rintro e w3 ⟨rfl, rfl⟩
  go_wp2_with fail
  refine hK.out _ _ ?_ (fun hHeld => ?_)
  · exact hHeld
  clear hK K
  (try go_frame)
  iterate 1 (refine tk 13 (by rfl) (by kernel_rfl) (by exact fun _ _ _ h => h) (.inl ⟨by rfl, fun w hS => by (try dsimp only at hS); go_simp; (try with_reducible rfl)⟩) (by assumption) ?_; try go_frame)
  refine rd1 13 (by rfl) (by kernel_rfl) (fun K hK => ?_)
  rw [if_pos (by rfl)]
  refine wp_store_one _ _ _ rfl (L.gD t) p (.int .i64 (E.rw r p)) rfl rfl rfl rfl hHeld.2.2.2 (by kernel_rfl) ?_
  refine hK.out _ _ ?_ (fun hHeld => ?_)
  · exact ⟨cell_kept hHeld.1 (by first | exact .inr (by dsimp only; omega) | exact .inl (by assumption) | exact .inl (Ne.symm (by assumption))), cell_kept hHeld.2.1 (by first | exact .inr (by dsimp only; omega) | exact .inl (by assumption) | exact .inl (Ne.symm (by assumption))), cell_kept hHeld.2.2.1 (by first | exact .inr (by dsimp only; omega) | exact .inl (by assumption) | exact .inl (Ne.symm (by assumption))), there_set hHeld.2.2.2 _ rfl _⟩
  clear hK K
  (try go_frame)
  refine wpAnyH_done (by kernel_rfl) ?_ _
  clear hHeld
  go_wp2
  exact bodyPost_ret (v := .tuple #[]) (by simp [results, Tryz.results352, go_sem]) rfl ⟨rfl, H1.out.drew, (Fr.set w (own_gD ht) _).drew⟩
set_option maxRecDepth 20000 in
set_option maxHeartbeats 2000000 in
theorem rreadState_w (h : RE R L S E w) (ht : t < L.n) {r : Nat} (hr : r < 2 * L.n + 1) {v f : Ver σ} (hv : E.rst r = some (v, f)) :
    Calls Tryz.prog 352 #[.pointer (some ⟨L.bP, r * 2, none⟩), .int .i64 (wds L.n : Int), .pointer (some ⟨L.g, t * 28 + 14, none⟩)] w fun e w' => e = .returned (.tuple #[]) ∧ Left R L S w { E with th := upd E.th t { E.th t with now := some v, frm := some v } } w' := by
  obtain ⟨cv0, cf0, pv, hc, hcv, hcf, -, hfz⟩ := h.cells ht rfl
  obtain ⟨c0, c1, rfl⟩ := list_cells hcv.1
  obtain ⟨d0, d1, rfl⟩ := list_cells hcf.1
  obtain ⟨b, cv, cf, hpb, hIb, hrow, hvr, hfr⟩ : ∃ b cv cf, w.cell? ⟨L.bP, r * 2 + 1, none⟩ = some (.pointer (some ⟨b, 0, none⟩)) ∧ (S b ∧ ¬ L.own b) ∧ Row w b 269 (cv ++ cf) ∧ VRep R (fun k => S k ∧ ¬ L.own k) w v cv ∧ VRep R (fun k => S k ∧ ¬ L.own k) w f cf := by
    obtain ⟨sp, q1, q2⟩ := h.po
    obtain ⟨b, cv, cf, a1, a2, a3, a4, a5⟩ := q2 r hr v f hv
    refine ⟨b, cv, cf, ?_, a2, a3, a4, a5⟩
    have := q1.cell hr (show 1 < 2 by decide)
    rw [this, a1]
    rfl
  obtain ⟨x0, x1, rfl⟩ := list_cells (VRep.len R hvr)
  obtain ⟨y0, y1, rfl⟩ := list_cells (VRep.len R hfr)
  have hn := h.ok.n64
  have hwd : wds L.n ≤ 200 := by unfold M.wds M.tw; omega
  have p0 := h.recd hr
  have e0 := hc 15 _ (by decide) rfl
  have e1 := hc 16 _ (by decide) rfl
  have e2 := hc 17 _ (by decide) rfl
  have e3 := hc 18 _ (by decide) rfl
  have ef0 := hfz (t * 28 + 15)
  have ef1 := hfz (t * 28 + 16)
  have ef2 := hfz (t * 28 + 17)
  have ef3 := hfz (t * 28 + 18)
  have ox0 := VRep.one R hvr x0 (by simp)
  have ox1 := VRep.one R hvr x1 (by simp)
  have vc0 : w.cell? ⟨b, 0, none⟩ = some x0 := hrow.cell_of rfl
  have vc1 : w.cell? ⟨b, 1, none⟩ = some x1 := hrow.cell_of rfl
  have hgb : L.g < w.heap.size := h.lt _ (h.ow _ own_g)
  have HH := hide h
  have HV := hide hvr
  have HW := hide (And.intro hpb hrow)
  clear h hc hcv hcf hvr hfr hpb hrow hfz hv
  have runx0 := run_store_var (P := Tryz.prog) ox0
  have runx1 := run_store_var (P := Tryz.prog) ox1
  go_enter Tryz.func352, Tryz.ntmps352
  go_wp2_with fail
  refine (atomLoad L.bP (r * 2 + 1) b _ w HW.out.1 HW.out.2 rfl).mono ?_
  rintro e w1 ⟨rfl, rfl⟩
  go_wp2_with fail
  obtain ⟨r1, k1⟩ := HH.out.set_vers ht ([x0, x1] ++ [x0, x1]) 0 (by simp) (by simp) HV.out HV.out (fun j hj => by rw [if_pos ⟨Nat.zero_le _, by simpa using hj⟩]; rfl) { E.th t with now := some v, frm := some v } rfl
  exact bodyPost_end (v := .tuple #[]) (by simp [results, Tryz.results352, go_sem]) rfl ⟨rfl, (Left.of r1 k1 rfl).next (Left.below (Left.of r1 k1 rfl).re (below_alloc _ _))⟩
def copied (E : ESt σ) (t n : Nat) : ETh σ :=
  if (E.th t).past < wds n then { E.th t with dw := upd (E.th t).dw (E.th t).past (E.rw (E.th t).srec (E.th t).past) } else { E.th t with now := (E.rst (E.th t).srec).map Prod.fst, frm := (E.rst (E.th t).srec).map Prod.fst }
theorem copied_past (E : ESt σ) (t n : Nat) : (copied E t n).past = (E.th t).past := by unfold copied; split <;> rfl
theorem rread_w (h : RE R L S E w) (ht : t < L.n) (hr : (E.th t).srec < 2 * L.n + 1) (hp : (E.th t).past ≤ wds L.n) (hs : (E.rst (E.th t).srec).isSome) :
    Calls Tryz.prog 352 #[.pointer (some ⟨L.bP, (E.th t).srec * 2, none⟩), .int .i64 ((E.th t).past : Int), .pointer (some ⟨L.g, t * 28 + 14, none⟩)] w fun e w' => e = .returned (.tuple #[]) ∧ Left R L S w { E with th := upd E.th t (copied E t L.n) } w' := by
  unfold copied
  by_cases q : (E.th t).past < wds L.n
  · rw [if_pos q]
    refine (rreadWord_w h ht hr q).mono ?_
    rintro e w1 ⟨rfl, r1, k1⟩
    exact ⟨rfl, Left.of r1 k1 rfl⟩
  · rw [if_neg q]
    obtain ⟨⟨v, f⟩, hv⟩ := Option.isSome_iff_exists.1 hs
    have hq : (E.th t).past = wds L.n := by omega
    have := rreadState_w h ht hr hv
    rw [hv]
    simp only [hq] at this ⊢
    exact this
set_option maxRecDepth 20000 in
set_option maxHeartbeats 2000000 in
theorem copyPart_w (h : RE R L S E w) (ht : t < L.n) (hr : (E.th t).srec < 2 * L.n + 1) (hp : (E.th t).past ≤ wds L.n) (hN : (E.th t).stamp ≤ 1000000000) (hs : (E.rst (E.th t).srec).isSome) :
    Calls Tryz.prog 341 #[.pointer (some ⟨L.g, t * 28, none⟩)] w fun e w' => e = .returned (.tuple #[]) ∧ Left R L S w { E with th := upd E.th t ((copied E t L.n).pass (wds L.n + 1) 6) } w' := by
  obtain ⟨c0, c4, -, c13, s0, s4⟩ := h.parts ht rfl
  have hn := h.ok.n64
  have hn1 := h.ok.n1
  have hwd : wds L.n ≤ 200 := by unfold M.wds M.tw; omega
  have hr' : ((E.th t).srec : Int) < 2 * (L.n : Int) + 1 := by omega
  have hm := hide (show (((E.th t).stamp : Int) * 129 + ((E.th t).srec : Int)) % 129 = ((E.th t).srec : Int) by omega)
  have hcp : (copied E t L.n).stamp = (E.th t).stamp ∧ (copied E t L.n).srec = (E.th t).srec := by unfold copied; split <;> exact ⟨rfl, rfl⟩
  have HH := hide h
  have HP := hide (fun (W : World) (hW : RE R L S E W) => rread_w hW ht hr hp hs)
  clear h hs
  go_enter Tryz.func341, Tryz.ntmps341
  go_wp2
  refine rg0 (S := (fun w' => w'.cell? ⟨L.g, t * 28, none⟩ = some (.pointer (some ⟨L.bS, 0, none⟩)) ∧ w'.cell? ⟨L.g, t * 28 + 4, none⟩ = some (.int .i64 ((E.th t).past : Int)) ∧ w'.cell? ⟨L.g, t * 28 + 13, none⟩ = some (.int .i64 (((E.th t).stamp : Int) * 129 + ((E.th t).srec : Int))) ∧ w'.cell? ⟨L.bS, 4, none⟩ = some (.slice (some ⟨L.bP, 0, none⟩) (2 * L.n + 1) (2 * L.n + 1)))) 21 rfl (by kernel_rfl) ?_ (fun hHeld => ?_)
  · exact ⟨c0, c4, c13, s4⟩
  iterate 11 (refine tk 20 (by rfl) (by kernel_rfl) (by exact fun _ _ _ h => h) (.inl ⟨by rfl, fun w hS => by (try dsimp only at hS); go_simp; (try with_reducible rfl)⟩) (by assumption) ?_; try go_frame)
  iterate 7 (refine tk 22 (by rfl) (by kernel_rfl) (by exact fun _ _ _ h => h) (.inl ⟨by rfl, fun w hS => by (try dsimp only at hS); go_simp; (try with_reducible rfl)⟩) (by assumption) ?_; try go_frame)
  refine rd1 11 (by rfl) (by kernel_rfl) (fun K hK => ?_)
  go_simp
  refine (pubRecord _ _ (by omega) (by omega)).mono ?_
  rintro e w2 ⟨rfl, rfl⟩
  rw [hm.out]
  go_wp2_with fail
  refine hK.out _ _ ?_ (fun hHeld => ?_)
  · exact hHeld
  clear hK K
  (try go_frame)
  iterate 1 (refine tk 13 (by rfl) (by kernel_rfl) (by exact fun _ _ _ h => h) (.inl ⟨by rfl, fun w hS => by (try dsimp only at hS); go_simp; (try with_reducible rfl)⟩) (by assumption) ?_; try go_frame)
  refine rd1 20 (by rfl) (by kernel_rfl) (fun K hK => ?_)
  go_simp
  refine (HP.out w.drew HH.out.drew).mono ?_
  rintro e w3 ⟨rfl, L3⟩
  go_wp2_with fail
  refine hK.out _ _ ?_ (fun hHeld => ?_)
  · obtain ⟨z0, z4, -, z13, -, zs4⟩ := L3.re.parts ht (upd_same _ _ _); rw [copied_past] at z4; rw [hcp.1, hcp.2] at z13; exact ⟨z0, z4, z13, zs4⟩
  clear hK K
  (try go_frame)
  refine wpAnyH_done (by kernel_rfl) ?_ _
  obtain ⟨z0, z4, -, -, zs0, -⟩ := L3.re.parts ht (upd_same _ _ _)
  have HL := hide (show Left R L S w { E with th := upd E.th t (copied E t L.n) } w3 from ⟨L3.re, ⟨L3.fr.os, L3.fr.tape, L3.fr.output, L3.fr.size, L3.fr.block⟩⟩)
  clear hHeld c0 c4 c13 s0 s4 z4
  go_wp2_with fail
  refine (parts_any (L.n : Int) _ (by omega) (by omega)).mono ?_
  rintro e w4 ⟨rfl, hb4⟩
  rw [parts_eq]
  have HL4 := hide (HL.out.next (Left.below HL.out.re hb4))
  go_wp2_with fail
  refine (pass_w HL4.out.re ht (wds L.n + 1) 6 (by omega) (by simp only [upd_same, copied_past]; omega)).mono ?_
  rintro e w5 ⟨rfl, r5, k5⟩
  have HR := hide (And.intro r5 k5)
  clear r5 k5
  go_wp2
  refine bodyPost_end (v := .tuple #[]) (by simp [results, Tryz.results341, go_sem]) rfl ⟨rfl, HL4.out.next (Left.of (HR.out.1.cast ?_) HR.out.2 rfl)⟩
  simp only [upd_upd, upd_same]
end
end Go.Proofs.YtefjhnhdagolhaaGreat.tree
namespace Go.Proofs.YtefjhnhdagolhaaGreat.tree
open Go.RowKit
open M (upd upd_same upd_other Op Ver ETh ESt wds statusAt valueAt)
attribute [local go_sem ↓] Go.wp_at_zero Go.wp_at_succ
section
variable {σ : Type} {R : SR σ} {L : Lt} {S : Nat → Prop} {E E' : ESt σ} {w : World} {t : Nat}
def Word16 (x : Int) : Prop := 0 ≤ x ∧ x < 65536
def waits (e : ETh σ) (k : Nat) : List Nat := (List.range k).filter fun i => M.hasBit e.tg i != M.hasBit e.dw i
theorem waits_succ (e : ETh σ) (k : Nat) : waits e (k + 1) = waits e k ++ if M.hasBit e.tg k != M.hasBit e.dw k then [k] else [] := by
  unfold waits
  rw [List.range_succ, List.filter_append]
  congr 1
  by_cases h : (M.hasBit e.tg k != M.hasBit e.dw k) = true
  · simp [h]
  · simp [h]
theorem waits_len (e : ETh σ) (k : Nat) : (waits e k).length ≤ k := by
  unfold waits
  exact Nat.le_trans (List.length_filter_le _ _) (by simp)
set_option maxRecDepth 20000 in
set_option maxHeartbeats 4000000 in
theorem waiting_w (h : RE R L S E w) (ht : t < L.n) (hw : ∀ k, k < M.tw L.n → Word16 ((E.th t).tg k) ∧ Word16 ((E.th t).dw k)) :
    Calls Tryz.prog 354 #[.pointer (some ⟨L.g, t * 28, none⟩)] w fun e w' => ∃ v, e = .returned v ∧ w'.ownsRow w.heap.size 3 1 v ((E.th t).waiting L.n).length (ints (((E.th t).waiting L.n).map Int.ofNat)) ∧ Below w.heap.size w w' := by
  obtain ⟨mi, hmi, hmz⟩ := Option.map_eq_some_iff.1 info_i3
  simp only [Prod.mk.injEq] at hmz
  obtain ⟨hmz1, hmz2, hmz3⟩ := hmz
  have HMI := hide hmi
  have HM1 := hide hmz1
  have HM2 := hide hmz2
  have HM3 := hide hmz3
  obtain ⟨cv, cf, pv, hc, hcv, hcf, -, -⟩ := h.cells ht rfl
  obtain ⟨x0, x1, rfl⟩ := list_cells hcv.1
  obtain ⟨y0, y1, rfl⟩ := list_cells hcf.1
  have hn := h.ok.n64
  have c0 : w.cell? ⟨L.g, t * 28, none⟩ = some (.pointer (some ⟨L.bS, 0, none⟩)) := hc 0 _ (by decide) rfl
  have c14 := hc 14 _ (by decide) rfl
  have cg := hc 19 _ (by decide) rfl
  have s0 : w.cell? ⟨L.bS, 0, none⟩ = some (.int .i64 (L.n : Int)) := h.sh.cell_of rfl
  have HD := hide (fun k (hk : k < M.wds L.n) => (h.gd t ht).cell hk)
  have HG := hide (fun k (hk : k < M.tw L.n) => (h.gg t ht).cell hk)
  have HC := hide (And.intro c14 cg)
  have HW := hide hw
  clear h hc hcv hcf hmi hmz1 hmz2 hmz3 c14 cg hw
  have haw : ∀ k, k < L.n → k / 16 < M.tw L.n := fun k hk => by unfold M.tw; omega
  have hbw : ∀ k, k < L.n → k / 16 < M.wds L.n := fun k hk => by unfold M.wds; have := haw k hk; omega
  generalize M.tw L.n = a at *
  generalize M.wds L.n = b at *
  generalize L.gG t = gg at *
  generalize L.gD t = gd at *
  go_enter Tryz.func354, Tryz.ntmps354
  go_wp2
  go_loopw [3, 13] (fun th i w' => ∃ k : Nat, k ≤ L.n ∧ i = .int .i64 (k : Int) ∧ Below w.heap.size w w' ∧ w'.ownsRow w.heap.size 3 1 th (waits (E.th t) k).length (ints ((waits (E.th t) k).map Int.ofNat))) (fun _ i _ => L.n - (intOf i).toNat)
  case atStart => exact ⟨0, Nat.zero_le _, rfl, Below.refl _ _, World.ownsRow_nil _ _ _ _⟩
  case round =>
    obtain ⟨k, hk, rfl, hB, hO⟩ := hrel
    by_cases hlt : k < L.n
    · have hlt' : (k : Int) < (L.n : Int) := by omega
      have hq := haw k hlt
      have hq2 := hbw k hlt
      have d14 := cell_later hB HC.out.1
      have dg := cell_later hB HC.out.2
      have a1 := cell_later hB (HG.out _ hq)
      have a2 := cell_later hB (HD.out _ hq2)
      obtain ⟨⟨u1, u2⟩, u3, u4⟩ := HW.out _ hq
      have hbit : (M.hasBit (E.th t).tg k != M.hasBit (E.th t).dw k) = (decide (((E.th t).tg (k / 16) / 2 ^ (k % 16)) % 2 = 1) != decide (((E.th t).dw (k / 16) / 2 ^ (k % 16)) % 2 = 1)) := rfl
      have HBT := hide (waits_succ (E.th t) k)
      rw [hbit] at HBT
      generalize (E.th t).tg (k / 16) = x1 at *
      generalize (E.th t).dw (k / 16) = x2 at *
      generalize hy1 : decide ((x1 / 2 ^ (k % 16)) % 2 = 1) = y1 at *
      generalize hy2 : decide ((x2 / 2 ^ (k % 16)) % 2 = 1) = y2 at *
      have HB := hide hB
      have HO := hide hO
      have H1 := hide (fun (W : World) (hW : W.cell? ⟨gg, k / 16, none⟩ = some (.int .i64 x1)) => hasBit_w gg a a k x1 W (by omega) hq hW u1 u2)
      have H2 := hide (fun (W : World) (hW : W.cell? ⟨gd, k / 16, none⟩ = some (.int .i64 x2)) => hasBit_w gd b b k x2 W (by omega) hq2 hW u3 u4)
      rw [hy1] at H1
      rw [hy2] at H2
      have A1 := hide (fun n => Calls.quiet_of (n := n) (H1.out (wr.drewN n) a1))
      have A2 := hide (fun n => Calls.quiet_of (n := n) (H2.out (wr.drewN n) a2))
      clear hB hO a1 a2 H1 H2 hbit hy1 hy2 hq hq2 u1 u2 u3 u4
      go_wp2
      go_quiet ((go_at_call 242; first | (with_reducible exact A1.out _) | (with_reducible exact A2.out _)))
      have HN := hide (waits_len (E.th t) k)
      have hszw := HB.out.size
      cases y1 <;> cases y2
      case' false.true | true.false =>
        have hw1 := hide (show waits (E.th t) (k + 1) = waits (E.th t) k ++ [k] by have e := HBT.out; simpa using e)
        go_wp2_with (at_builtin; refine wpList_append_keep _ rfl (.tmp 30) (.tmp 32) 22 rfl w.heap.size 3 mi (.int .i64 0) 1 8 Tryz.underlying22 HMI.out HM1.out HM2.out HM3.out rfl (by decide) _ (waits (E.th t) k).length _ rfl ((show (wr.drewN nq).ownsRow w.heap.size 3 1 _ _ _ from HO.out).kept (grown_below (below_alloc _ _)) (by cases (Value.ownBlock _) <;> simp)) ⟨(wr.drewN nq).heap.size, 0, none⟩ 1 1 [.int .i64 (k : Int)] rfl rfl (World.news_of_block (Row.new _ _ _)) (by simp [Value.oneCell']) (by decide) (by have := HN.out; unfold maxLen; omega) (by have := HN.out; omega) (by simp; omega) ?_)
        intro g3 c3 w3 hown hgr hl3 hk3
        have hb3 : Below w.heap.size w w3 := (Below.next (Below.drewN HB.out nq) (below_alloc (wr.drewN nq) _) hszw).grown hgr (by simp; omega) (fun q hq => (HO.out.lt q hq).1)
        have HR := hide (And.intro hb3 hown)
        clear hown hgr hl3 hk3 hb3
        go_wp2
        go_roundw
        case rel =>
          refine ⟨k + 1, by omega, by go_num, HR.out.1, ?_⟩
          rw [hw1.out]
          have := HR.out.2
          simpa [ints] using this
        case measure => simp [intOf]; omega
      all_goals
        have hw1 := hide (show waits (E.th t) (k + 1) = waits (E.th t) k by have e := HBT.out; simpa using e)
        go_wp2
        go_roundw
        case rel => exact ⟨k + 1, by omega, by go_num, Below.drewN HB.out _, by rw [hw1.out]; exact HO.out⟩
        case measure => simp [intOf]; omega
    · have hlt' : ¬ (k : Int) < (L.n : Int) := by omega
      have hkn : k = L.n := by omega
      have HB := hide (show Below w.heap.size w wr from hB)
      have HO := hide (show wr.ownsRow w.heap.size 3 1 _ ((E.th t).waiting L.n).length (ints (((E.th t).waiting L.n).map Int.ofNat)) by rw [hkn] at hO; exact hO)
      clear hB hO hkn
      go_wp2
      go_ret
      exact ⟨_, rfl, HO.out, HB.out⟩
end
end Go.Proofs.YtefjhnhdagolhaaGreat.tree
namespace Go.Proofs.YtefjhnhdagolhaaGreat.tree
open Go.RowKit
open M (upd upd_same upd_other Op Ver ETh ESt wds statusAt valueAt)
attribute [local go_sem ↓] Go.wp_at_zero Go.wp_at_succ
section
variable {σ : Type} {R : SR σ} {L : Lt} {S : Nat → Prop} {E E' : ESt σ} {w : World} {t : Nat}
theorem mem_ofNat (p : List Nat) (t : Nat) : ((t : Int) ∈ p.map Int.ofNat) ↔ t ∈ p := by
  constructor
  · intro h
    obtain ⟨k, hk, e⟩ := List.mem_map.1 h
    have : k = t := by have e' : (k : Int) = (t : Int) := e; omega
    rw [← this]; exact hk
  · intro h
    exact List.mem_map.2 ⟨t, h, rfl⟩
def checked (E : ESt σ) (t n cap : Nat) : ETh σ := if E.pst = (E.th t).stamp then ETh.enter { E.th t with pend := (E.th t).waiting n } (if t ∈ (E.th t).waiting n then 8 else 11) else (E.th t).fail cap
set_option maxRecDepth 20000 in
set_option maxHeartbeats 4000000 in
theorem check_w (h : RE R L S E w) (ht : t < L.n) (hN : E.pst ≤ 1000000000) (hs : (E.th t).stamp ≤ 1000000000) (hp : E.prec < 129) (hr : (E.th t).srec < 129) (hb : (E.th t).backoff ≤ L.cap) (hw : E.pst = (E.th t).stamp → ∀ k, k < M.tw L.n → Word16 ((E.th t).tg k) ∧ Word16 ((E.th t).dw k)) :
    Calls Tryz.prog 343 #[.pointer (some ⟨L.g, t * 28, none⟩)] w fun e w' => e = .returned (.tuple #[]) ∧ Left R L S w { E with th := upd E.th t (checked E t L.n L.cap) } w' := by
  obtain ⟨cv, cf, pv, hc, hcv, hcf, -, -⟩ := h.cells ht rfl
  obtain ⟨x0, x1, rfl⟩ := list_cells hcv.1
  obtain ⟨y0, y1, rfl⟩ := list_cells hcf.1
  have hn := h.ok.n64
  have c0 : w.cell? ⟨L.g, t * 28, none⟩ = some (.pointer (some ⟨L.bS, 0, none⟩)) := hc 0 _ (by decide) rfl
  have c13 := hc 13 _ (by decide) rfl
  have s5 : w.cell? ⟨L.bS, 5, none⟩ = some (.int .i64 ((E.pst : Int) * 129 + (E.prec : Int))) := h.sh.cell_of rfl
  have hq1 : ((E.pst : Int) * 129 + (E.prec : Int)) / 129 = (E.pst : Int) := by omega
  have hq2 : (((E.th t).stamp : Int) * 129 + ((E.th t).srec : Int)) / 129 = ((E.th t).stamp : Int) := by omega
  have A0 := hide (fun n => Calls.quiet_of_same (n := n) (pubRead L.bS 5 _ (w.drewN n) s5))
  have A1 := hide (fun n => Calls.quiet_of_same (n := n) (pubStamp ((E.pst : Int) * 129 + (E.prec : Int)) (w.drewN n) (by omega) (by omega)))
  have A2 := hide (fun n => Calls.quiet_of_same (n := n) (pubStamp (((E.th t).stamp : Int) * 129 + ((E.th t).srec : Int)) (w.drewN n) (by omega) (by omega)))
  rw [hq1] at A1
  rw [hq2] at A2
  have HH := hide h
  have HW := hide hw
  clear h hc hcv hcf hq1 hq2 hw
  by_cases hst : E.pst = (E.th t).stamp
  · have hst1 : (E.pst : Int) ≤ ((E.th t).stamp : Int) := by omega
    have hst2 : ((E.th t).stamp : Int) ≤ (E.pst : Int) := by omega
    have HW2 := hide (HW.out hst)
    have HST := hide hst
    clear hst
    go_enter Tryz.func343, Tryz.ntmps343
    go_wp2
    go_quiet ((first | (go_at_call 218; with_reducible exact A0.out _) | (go_at_call 226; first | (with_reducible exact A1.out _) | (with_reducible exact A2.out _))))
    generalize hW1 : World.drewN w nq = W1
    have hr1 : RE R L S E W1 := by rw [← hW1]; exact HH.out.drewN nq
    have hk1 : Fr L.own w W1 := by rw [← hW1]; exact (Fr.refl _ w).drewN nq
    have HR1 := hide hr1
    have HK1 := hide hk1
    clear hW1 hr1 hk1 c0 c13 s5
    go_wp2_with fail
    refine (waiting_w HR1.out ht HW2.out).mono ?_
    rintro e w2 ⟨v, rfl, hO, hb2⟩
    have hp1 : (((E.th t).waiting L.n).map Int.ofNat).length ≤ 1048576 := by
      have : ((E.th t).waiting L.n).length ≤ L.n := waits_len (E.th t) L.n
      simp; omega
    generalize hpe : (E.th t).waiting L.n = p at *
    have HPE := hide hpe
    clear hpe
    have hL2 := Left.below HR1.out hb2
    have hsl := sl_own hO
    have hlen : (ints (p.map Int.ofNat)).length = p.length := by simp [ints]
    have hpr : PRep (fun k => grown S W1 w2 k ∧ ¬ L.own k) w2 p v ∧ (∃ a n c, v = .slice a n c) ∧ ∀ u : Value, Sl (w2.setCell ⟨L.g, t * 28 + 20, none⟩ u) v (ints (p.map Int.ofNat)) := by
      rcases hO.2 with ⟨rfl, hn0⟩ | ⟨gp, cap, cur, rfl, hge, hblk, hcc, -⟩
      · obtain rfl : p = [] := List.eq_nil_of_length_eq_zero hn0
        exact ⟨.inl ⟨rfl, rfl⟩, ⟨_, _, _, rfl⟩, fun u => Sl.nil _⟩
      · have hgl : L.g < W1.heap.size := HR1.out.lt _ (HR1.out.ow _ own_g)
        have hlt : gp < w2.heap.size := (hO.lt gp rfl).2
        refine ⟨.inr ⟨gp, _, _, ⟨.inr ⟨hge, hlt⟩, fun q => by have := HR1.out.lt _ (HR1.out.ow _ q); omega⟩, rfl, hsl⟩, ⟨_, _, _, rfl⟩, fun u => Sl.block rfl hsl (Below.heap_setCell w2 _ u gp (by show gp ≠ L.g; omega))⟩
    obtain ⟨hpr1, ⟨va, vn, vc, rfl⟩, hpr2⟩ := hpr
    have hr3 := hL2.re.set_pend t ht (.slice va vn vc) p hpr1 { E.th t with pend := p } rfl rfl rfl
    obtain ⟨cv, cf, pv, hc, hcv, hcf, -, hfz⟩ := hL2.re.cells ht rfl
    obtain ⟨c0, c1, rfl⟩ := list_cells hcv.1
    obtain ⟨d0, d1, rfl⟩ := list_cells hcf.1
    have cpv := hc 20 _ (by decide) rfl
    have fpv := hfz (t * 28 + 20)
    have b1 := hc 1 _ (by decide) rfl
    have A3 := hide (fun n => Calls.quiet_of_same (n := n) (contains_w (p.map Int.ofNat) (.slice va vn vc) (t : Int) ((w2.setCell ⟨L.g, t * 28 + 20, none⟩ (.slice va vn vc)).drewN n) ((hpr2 _).drewN) hp1))
    rw [show decide ((t : Int) ∈ p.map Int.ofNat) = decide (t ∈ p) by rw [decide_eq_decide]; exact mem_ofNat p t] at A3
    have H3 := hide hr3
    have HL2 := hide hL2
    have HP := hide hpr1
    clear hO hb2 hL2 hsl hpr1 hpr2 hr3 hc hcv hcf hfz hlen
    go_wp2
    go_quiet ((go_at_call 229; with_reducible exact A3.out _))
    have HR4 := hide (H3.out.drewN nq)
    have HK4 := hide (show Left R L S w { E with th := upd E.th t { E.th t with pend := p } } ((w2.setCell ⟨L.g, t * 28 + 20, none⟩ (.slice va vn vc)).drewN nq) from (Left.of HR1.out HK1.out rfl).next (by
      have q := HL2.out.next (Left.of H3.out (Fr.set w2 own_g _) rfl)
      exact ⟨(q.re.drewN nq).mono (fun k hk => by rcases hk with hk | hk; exact .inl (.inl hk); exact .inr hk) (fun k hk => by rcases hk with hk | hk; rcases hk with hk | hk; exact q.re.lt k (.inl hk); exact Nat.lt_of_lt_of_le hk.2 q.fr.size; exact hk.2), q.fr.drewN nq⟩))
    clear HR4
    by_cases hm : t ∈ p
    · rw [decide_eq_true hm]
      have HM := hide hm
      clear hm
      go_wp2_with fail
      refine (enter_w HK4.out.re ht 8).mono ?_
      rintro e w4 ⟨rfl, r4, k4⟩
      have HR := hide (And.intro r4 k4)
      clear r4 k4
      go_wp2
      refine bodyPost_end (v := .tuple #[]) (by simp [results, Tryz.results343, go_sem]) rfl ⟨rfl, HK4.out.next (Left.of (HR.out.1.cast ?_) HR.out.2 rfl)⟩
      unfold checked
      rw [if_pos HST.out, HPE.out, if_pos HM.out]
      simp only [upd_upd, upd_same]
    · rw [decide_eq_false hm]
      have HM := hide hm
      clear hm
      go_wp2_with fail
      refine (enter_w HK4.out.re ht 11).mono ?_
      rintro e w4 ⟨rfl, r4, k4⟩
      have HR := hide (And.intro r4 k4)
      clear r4 k4
      go_wp2
      refine bodyPost_end (v := .tuple #[]) (by simp [results, Tryz.results343, go_sem]) rfl ⟨rfl, HK4.out.next (Left.of (HR.out.1.cast ?_) HR.out.2 rfl)⟩
      unfold checked
      rw [if_pos HST.out, HPE.out, if_neg HM.out]
      simp only [upd_upd, upd_same]
  · have hst' : ¬ (E.pst : Int) = ((E.th t).stamp : Int) := by omega
    have HST := hide hst
    clear hst
    go_enter Tryz.func343, Tryz.ntmps343
    go_wp2
    go_quiet ((first | (go_at_call 218; with_reducible exact A0.out _) | (go_at_call 226; first | (with_reducible exact A1.out _) | (with_reducible exact A2.out _))))
    go_wp2_with fail
    refine (fail_w (HH.out.drewN nq) ht hb).mono ?_
    rintro e w4 ⟨rfl, r4, k4⟩
    have HR := hide (And.intro r4 k4)
    clear r4 k4
    go_wp2
    refine bodyPost_ret (v := .tuple #[]) (by simp [results, Tryz.results343, go_sem]) rfl ⟨rfl, Left.of (HR.out.1.cast ?_) (((Fr.refl L.own w).drewN nq).trans HR.out.2) rfl⟩
    unfold checked
    rw [if_neg HST.out]
end
end Go.Proofs.YtefjhnhdagolhaaGreat.tree
