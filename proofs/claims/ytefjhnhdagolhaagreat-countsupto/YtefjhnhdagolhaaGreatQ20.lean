import Derived.Test.YtefjhnhdagolhaaGreatQ19
import Derived.Test.YtefjhnhdagolhaaGreatQ04
namespace Go.Proofs.YtefjhnhdagolhaaGreat.int
open Go.RowKit
open M (upd upd_same upd_other Op Ver ETh ESt wds statusAt valueAt)
attribute [local go_sem ↓] Go.wp_at_zero Go.wp_at_succ
section
variable {σ : Type} {R : SR σ} {L : Lt} {S : Nat → Prop} {E E' : ESt σ} {w : World} {t : Nat}
set_option maxRecDepth 20000 in
set_option maxHeartbeats 2000000 in
theorem publish_hit (h : RE R L S E w) (ht : t < L.n) (hN : E.pst ≤ 1000000000) (hs : E.pst = (E.th t).stamp) (hr : E.prec = (E.th t).srec) (hr1 : (E.th t).srec < 129) (hsp : (E.th t).spare < 129) (hb : (E.th t).backoff ≤ 64) :
    Calls Tryz.prog 213 #[.pointer (some ⟨L.g, t * 28, none⟩)] w fun e w' => e = .returned (.tuple #[]) ∧ RE R L S { E with pst := (E.th t).stamp + 1, prec := (E.th t).spare, th := upd E.th t (ETh.enter { E.th t with spare := (E.th t).kept, kept := (E.th t).spare, backoff := (E.th t).backoff / 2 } 11) } w' ∧ Fr L.own w w' := by
  obtain ⟨cv, cf, pv, hc, -, -, -, hf⟩ := h.cells ht rfl
  have c0 : w.cell? ⟨L.g, t * 28, none⟩ = some (.pointer (some ⟨L.bS, 0, none⟩)) := hc 0 _ (by decide) rfl
  have c11 := hc 11 _ (by decide) rfl
  have c12 := hc 12 _ (by decide) rfl
  have c13 := hc 13 _ (by decide) rfl
  have s5 : w.cell? ⟨L.bS, 5, none⟩ = some (.int .i64 (((E.th t).stamp : Int) * 129 + ((E.th t).srec : Int))) := by
    have : w.cell? ⟨L.bS, 5, none⟩ = some (.int .i64 ((E.pst : Int) * 129 + (E.prec : Int))) := h.sh.cell_of rfl
    rw [this, hs, hr]
  have f5 := h.sh.frozen 5
  obtain ⟨nSg, -⟩ := h.th_ne
  have h1 := h.set_pub ((E.th t).stamp + 1) (E.th t).spare
  rw [show (((E.th t).stamp + 1 : Nat) : Int) = ((E.th t).stamp : Int) + 1 by omega] at h1
  have hN' : (E.th t).stamp ≤ 1000000000 := by omega
  have H1 := hide h1
  have HS := hide (And.intro s5 f5)
  clear h hc hf h1 hs hr s5 f5
  go_enter Tryz.func213, Tryz.ntmps213
  go_wp2
  refine wp_region_held_drew (S := (fun w' => w'.cell? ⟨L.g, t * 28, none⟩ = some (.pointer (some ⟨L.bS, 0, none⟩)) ∧ w'.cell? ⟨L.g, t * 28 + 11, none⟩ = some (.int .i64 ((E.th t).spare : Int)) ∧ w'.cell? ⟨L.g, t * 28 + 13, none⟩ = some (.int .i64 (((E.th t).stamp : Int) * 129 + ((E.th t).srec : Int))))) (by kernel_rfl) ?_ (fun hHeld => ?_)
  · exact ⟨c0, c11, c13⟩
  refine wpAnyH_take (i := 0) (oi := ⟨some 2, .move (.tmp 0), 381, "attempt.go:82", #[], none⟩) (v := ?v1751) rfl (by kernel_rfl) (by kernel_rfl) (by kernel_rfl) (fun _ _ _ h => h) (Or.inl ⟨by rfl, ?hy1751⟩) (by assumption) ?rest1751
  case hy1751 => (intro w hSw; (try dsimp only at hSw); go_simp; (try with_reducible rfl))
  (try go_frame)
  refine wpAnyH_take (i := 1) (oi := ⟨some 3, .nilCheck (.tmp 2), 0, "attempt.go:82", #[⟨0, .data⟩], none⟩) (v := ?v1752) rfl (by kernel_rfl) (by kernel_rfl) (by kernel_rfl) (fun _ _ _ h => h) (Or.inl ⟨by rfl, ?hy1752⟩) (by assumption) ?rest1752
  case hy1752 => (intro w hSw; (try dsimp only at hSw); go_simp; (try with_reducible rfl))
  (try go_frame)
  refine wpAnyH_take (i := 2) (oi := ⟨some 4, .fieldAddr 231 (.tmp 3) 0, 0, "attempt.go:82", #[⟨1, .data⟩], none⟩) (v := ?v1753) rfl (by kernel_rfl) (by kernel_rfl) (by kernel_rfl) (fun _ _ _ h => h) (Or.inl ⟨by rfl, ?hy1753⟩) (by assumption) ?rest1753
  case hy1753 => (intro w hSw; (try dsimp only at hSw); go_simp; (try with_reducible rfl))
  (try go_frame)
  refine wpAnyH_take (i := 3) (oi := ⟨some 5, .load 215 (.tmp 4), 215, "attempt.go:82", #[⟨2, .data⟩], none⟩) (v := ?v1754) rfl (by kernel_rfl) (by kernel_rfl) (by kernel_rfl) (fun _ _ _ h => h) (Or.inl ⟨by rfl, ?hy1754⟩) (by assumption) ?rest1754
  case hy1754 => (intro w hSw; (try dsimp only at hSw); go_simp; (try with_reducible rfl))
  (try go_frame)
  refine wpAnyH_take (i := 4) (oi := ⟨some 6, .nilCheck (.tmp 5), 0, "attempt.go:82", #[⟨3, .data⟩], none⟩) (v := ?v1755) rfl (by kernel_rfl) (by kernel_rfl) (by kernel_rfl) (fun _ _ _ h => h) (Or.inl ⟨by rfl, ?hy1755⟩) (by assumption) ?rest1755
  case hy1755 => (intro w hSw; (try dsimp only at hSw); go_simp; (try with_reducible rfl))
  (try go_frame)
  refine wpAnyH_take (i := 5) (oi := ⟨some 7, .fieldAddr 296 (.tmp 6) 5, 0, "attempt.go:82", #[⟨4, .data⟩], none⟩) (v := ?v1756) rfl (by kernel_rfl) (by kernel_rfl) (by kernel_rfl) (fun _ _ _ h => h) (Or.inl ⟨by rfl, ?hy1756⟩) (by assumption) ?rest1756
  case hy1756 => (intro w hSw; (try dsimp only at hSw); go_simp; (try with_reducible rfl))
  (try go_frame)
  refine wpAnyH_take (i := 6) (oi := ⟨some 8, .move (.tmp 0), 381, "attempt.go:82", #[], none⟩) (v := ?v1757) rfl (by kernel_rfl) (by kernel_rfl) (by kernel_rfl) (fun _ _ _ h => h) (Or.inl ⟨by rfl, ?hy1757⟩) (by assumption) ?rest1757
  case hy1757 => (intro w hSw; (try dsimp only at hSw); go_simp; (try with_reducible rfl))
  (try go_frame)
  refine wpAnyH_take (i := 7) (oi := ⟨some 9, .nilCheck (.tmp 8), 0, "attempt.go:82", #[⟨6, .data⟩], none⟩) (v := ?v1758) rfl (by kernel_rfl) (by kernel_rfl) (by kernel_rfl) (fun _ _ _ h => h) (Or.inl ⟨by rfl, ?hy1758⟩) (by assumption) ?rest1758
  case hy1758 => (intro w hSw; (try dsimp only at hSw); go_simp; (try with_reducible rfl))
  (try go_frame)
  refine wpAnyH_take (i := 8) (oi := ⟨some 10, .fieldAddr 231 (.tmp 9) 11, 0, "attempt.go:82", #[⟨7, .data⟩], none⟩) (v := ?v1759) rfl (by kernel_rfl) (by kernel_rfl) (by kernel_rfl) (fun _ _ _ h => h) (Or.inl ⟨by rfl, ?hy1759⟩) (by assumption) ?rest1759
  case hy1759 => (intro w hSw; (try dsimp only at hSw); go_simp; (try with_reducible rfl))
  (try go_frame)
  refine wpAnyH_take (i := 9) (oi := ⟨some 11, .load 222 (.tmp 10), 222, "attempt.go:82", #[⟨8, .data⟩], none⟩) (v := ?v1760) rfl (by kernel_rfl) (by kernel_rfl) (by kernel_rfl) (fun _ _ _ h => h) (Or.inl ⟨by rfl, ?hy1760⟩) (by assumption) ?rest1760
  case hy1760 => (intro w hSw; (try dsimp only at hSw); go_simp; (try with_reducible rfl))
  (try go_frame)
  refine wpAnyH_take (i := 10) (oi := ⟨some 12, .move (.tmp 0), 381, "attempt.go:82", #[], none⟩) (v := ?v1761) rfl (by kernel_rfl) (by kernel_rfl) (by kernel_rfl) (fun _ _ _ h => h) (Or.inl ⟨by rfl, ?hy1761⟩) (by assumption) ?rest1761
  case hy1761 => (intro w hSw; (try dsimp only at hSw); go_simp; (try with_reducible rfl))
  (try go_frame)
  refine wpAnyH_take (i := 11) (oi := ⟨some 13, .nilCheck (.tmp 12), 0, "attempt.go:82", #[⟨10, .data⟩], none⟩) (v := ?v1762) rfl (by kernel_rfl) (by kernel_rfl) (by kernel_rfl) (fun _ _ _ h => h) (Or.inl ⟨by rfl, ?hy1762⟩) (by assumption) ?rest1762
  case hy1762 => (intro w hSw; (try dsimp only at hSw); go_simp; (try with_reducible rfl))
  (try go_frame)
  refine wpAnyH_take (i := 12) (oi := ⟨some 14, .fieldAddr 231 (.tmp 13) 11, 0, "attempt.go:82", #[⟨11, .data⟩], none⟩) (v := ?v1763) rfl (by kernel_rfl) (by kernel_rfl) (by kernel_rfl) (fun _ _ _ h => h) (Or.inl ⟨by rfl, ?hy1763⟩) (by assumption) ?rest1763
  case hy1763 => (intro w hSw; (try dsimp only at hSw); go_simp; (try with_reducible rfl))
  (try go_frame)
  refine wpAnyH_take (i := 13) (oi := ⟨some 15, .load 222 (.tmp 14), 222, "attempt.go:82", #[⟨12, .data⟩], none⟩) (v := ?v1764) rfl (by kernel_rfl) (by kernel_rfl) (by kernel_rfl) (fun _ _ _ h => h) (Or.inl ⟨by rfl, ?hy1764⟩) (by assumption) ?rest1764
  case hy1764 => (intro w hSw; (try dsimp only at hSw); go_simp; (try with_reducible rfl))
  (try go_frame)
  refine wpAnyH_take (i := 14) (oi := ⟨some 16, .move (.tmp 0), 381, "attempt.go:82", #[], none⟩) (v := ?v1765) rfl (by kernel_rfl) (by kernel_rfl) (by kernel_rfl) (fun _ _ _ h => h) (Or.inl ⟨by rfl, ?hy1765⟩) (by assumption) ?rest1765
  case hy1765 => (intro w hSw; (try dsimp only at hSw); go_simp; (try with_reducible rfl))
  (try go_frame)
  refine wpAnyH_take (i := 15) (oi := ⟨some 17, .nilCheck (.tmp 16), 0, "attempt.go:82", #[⟨14, .data⟩], none⟩) (v := ?v1766) rfl (by kernel_rfl) (by kernel_rfl) (by kernel_rfl) (fun _ _ _ h => h) (Or.inl ⟨by rfl, ?hy1766⟩) (by assumption) ?rest1766
  case hy1766 => (intro w hSw; (try dsimp only at hSw); go_simp; (try with_reducible rfl))
  (try go_frame)
  refine wpAnyH_take (i := 16) (oi := ⟨some 18, .fieldAddr 231 (.tmp 17) 9, 0, "attempt.go:82", #[⟨15, .data⟩], none⟩) (v := ?v1767) rfl (by kernel_rfl) (by kernel_rfl) (by kernel_rfl) (fun _ _ _ h => h) (Or.inl ⟨by rfl, ?hy1767⟩) (by assumption) ?rest1767
  case hy1767 => (intro w hSw; (try dsimp only at hSw); go_simp; (try with_reducible rfl))
  (try go_frame)
  refine wpAnyH_take (i := 17) (oi := ⟨some 19, .load 3 (.tmp 18), 3, "attempt.go:82", #[⟨16, .data⟩], none⟩) (v := ?v1768) rfl (by kernel_rfl) (by kernel_rfl) (by kernel_rfl) (fun _ _ _ h => h) (Or.inl ⟨by rfl, ?hy1768⟩) (by assumption) ?rest1768
  case hy1768 => (intro w hSw; (try dsimp only at hSw); go_simp; (try with_reducible rfl))
  (try go_frame)
  refine wpAnyH_ready (rs := [18]) (by kernel_rfl) (by simp) ?_
  refine AllReadyH.cons (o := ⟨some 20, .call ⟨.value (.func 234), #[.tmp 15, .tmp 19], #[222, 3]⟩, 222, "attempt.go:82", #[⟨13, .data⟩, ⟨17, .data⟩], none⟩) (by rfl) (fun K hK => ?_) AllReadyH.nil
  go_simp
  refine (pubNext (E.th t).stamp (E.th t).srec _ _ rfl hr1 (E.th t).spare hsp (by omega)).mono ?_
  rintro e w3 ⟨rfl, rfl⟩
  go_wp2_with fail
  refine hK.out _ _ ?_ (fun hHeld => ?_)
  · exact hHeld
  clear hK K
  (try go_frame)
  refine wpAnyH_ready (rs := [19]) (by kernel_rfl) (by simp) ?_
  refine AllReadyH.cons (o := ⟨some 21, .call ⟨.value (.func 233), #[.tmp 7, .tmp 11, .tmp 20], #[294, 222, 222]⟩, 4, "attempt.go:82", #[⟨5, .data⟩, ⟨9, .data⟩, ⟨18, .data⟩, ⟨18, .chain⟩], none⟩) (by rfl) (fun K hK => ?_) AllReadyH.nil
  go_simp
  refine (pubReplace_hit L.bS 5 _ _ w.drew HS.out.1 HS.out.2).mono ?_
  rintro e w3 ⟨rfl, rfl⟩
  go_wp2_with fail
  refine hK.out _ _ ?_ (fun hHeld => ?_)
  · exact ⟨cell_kept hHeld.1 (by first | exact .inr (by dsimp only; omega) | exact .inl (by assumption) | exact .inl (Ne.symm (by assumption))), cell_kept hHeld.2.1 (by first | exact .inr (by dsimp only; omega) | exact .inl (by assumption) | exact .inl (Ne.symm (by assumption))), cell_kept hHeld.2.2 (by first | exact .inr (by dsimp only; omega) | exact .inl (by assumption) | exact .inl (Ne.symm (by assumption)))⟩
  clear hK K
  (try go_frame)
  refine wpAnyH_take (i := 20) (oi := ⟨some 22, .unOp .not 4 (.tmp 21), 4, "attempt.go:82", #[⟨19, .data⟩], none⟩) (v := ?v1769) rfl (by kernel_rfl) (by kernel_rfl) (by kernel_rfl) (fun _ _ _ h => h) (Or.inl ⟨by rfl, ?hy1769⟩) (by assumption) ?rest1769
  case hy1769 => (intro w hSw; (try dsimp only at hSw); go_simp; (try with_reducible rfl))
  (try go_frame)
  refine wpAnyH_done (by kernel_rfl) ?_ _
  clear hHeld c0 c11 c12 c13
  have r1 := H1.out.drew
  generalize hW1 : World.drew _ = W1 at r1
  obtain ⟨cv, cf, pv, hc, -, -, -, hf⟩ := r1.cells ht rfl
  have c11 := hc 11 _ (by decide) rfl
  have c12 := hc 12 _ (by decide) rfl
  have f11 := hf (t * 28 + 11)
  have f12 := hf (t * 28 + 12)
  have hk1 : Fr L.own w W1 := by rw [← hW1]; exact (Fr.set w own_bS _).drew
  dsimp only at c11 c12
  obtain ⟨r2, k2⟩ := r1.cell1 ht 11 (by decide) (.int .i64 ((E.th t).kept : Int)) { E.th t with spare := (E.th t).kept } rfl rfl rfl rfl rfl (by intros; rfl)
  obtain ⟨r3, k3⟩ := r2.cell1 ht 12 (by decide) (.int .i64 ((E.th t).spare : Int)) { E.th t with spare := (E.th t).kept, kept := (E.th t).spare } (by simp [upd_same]) (by simp [upd_same]) (by simp [upd_same]) (by simp [upd_same]) (by simp [upd_same]) (by intros; simp only [upd_same]; rfl)
  have H3 := hide r3
  have K3 := hide ((hk1.trans k2).trans k3)
  clear r1 r2 r3 k2 k3 hc hf hk1
  clear hW1
  go_wp2
  go_region
  go_wp2_with fail
  refine (succeed_w H3.out.drew ht (by simp only [upd_same]; exact hb)).mono ?_
  rintro e w4 ⟨rfl, r4, k4⟩
  have HR := hide (And.intro r4 k4)
  clear r4 k4
  go_wp2
  refine bodyPost_end (v := .tuple #[]) (by simp [results, Tryz.results213, go_sem]) rfl ⟨rfl, HR.out.1.cast ?_, K3.out.drew.trans HR.out.2⟩
  simp only [upd_upd, upd_same]
set_option maxRecDepth 20000 in
set_option maxHeartbeats 2000000 in
theorem publish_miss (h : RE R L S E w) (ht : t < L.n) (hN : (E.th t).stamp ≤ 1000000000) (hp : E.prec < 129) (hne : ¬ (E.pst = (E.th t).stamp ∧ E.prec = (E.th t).srec)) (hr1 : (E.th t).srec < 129) (hsp : (E.th t).spare < 129) (hb : (E.th t).backoff ≤ L.cap) :
    Calls Tryz.prog 213 #[.pointer (some ⟨L.g, t * 28, none⟩)] w fun e w' => e = .returned (.tuple #[]) ∧ RE R L S { E with th := upd E.th t ((E.th t).fail L.cap) } w' ∧ Fr L.own w w' := by
  obtain ⟨cv, cf, pv, hc, -, -, -, hf⟩ := h.cells ht rfl
  have c0 : w.cell? ⟨L.g, t * 28, none⟩ = some (.pointer (some ⟨L.bS, 0, none⟩)) := hc 0 _ (by decide) rfl
  have c11 := hc 11 _ (by decide) rfl
  have c13 := hc 13 _ (by decide) rfl
  have s5 : w.cell? ⟨L.bS, 5, none⟩ = some (.int .i64 ((E.pst : Int) * 129 + (E.prec : Int))) := h.sh.cell_of rfl
  have f5 := h.sh.frozen 5
  have hne' := hide (show ¬ ((E.pst : Int) * 129 + (E.prec : Int) = ((E.th t).stamp : Int) * 129 + ((E.th t).srec : Int)) by intro q; exact hne ⟨by omega, by omega⟩)
  have HS := hide (And.intro s5 f5)
  have HH := hide h
  clear h hc hf s5 f5 hne
  go_enter Tryz.func213, Tryz.ntmps213
  go_wp2
  refine wp_region_held_drew (S := (fun w' => w'.cell? ⟨L.g, t * 28, none⟩ = some (.pointer (some ⟨L.bS, 0, none⟩)) ∧ w'.cell? ⟨L.g, t * 28 + 11, none⟩ = some (.int .i64 ((E.th t).spare : Int)) ∧ w'.cell? ⟨L.g, t * 28 + 13, none⟩ = some (.int .i64 (((E.th t).stamp : Int) * 129 + ((E.th t).srec : Int))))) (by kernel_rfl) ?_ (fun hHeld => ?_)
  · exact ⟨c0, c11, c13⟩
  refine wpAnyH_take (i := 0) (oi := ⟨some 2, .move (.tmp 0), 381, "attempt.go:82", #[], none⟩) (v := ?v1770) rfl (by kernel_rfl) (by kernel_rfl) (by kernel_rfl) (fun _ _ _ h => h) (Or.inl ⟨by rfl, ?hy1770⟩) (by assumption) ?rest1770
  case hy1770 => (intro w hSw; (try dsimp only at hSw); go_simp; (try with_reducible rfl))
  (try go_frame)
  refine wpAnyH_take (i := 1) (oi := ⟨some 3, .nilCheck (.tmp 2), 0, "attempt.go:82", #[⟨0, .data⟩], none⟩) (v := ?v1771) rfl (by kernel_rfl) (by kernel_rfl) (by kernel_rfl) (fun _ _ _ h => h) (Or.inl ⟨by rfl, ?hy1771⟩) (by assumption) ?rest1771
  case hy1771 => (intro w hSw; (try dsimp only at hSw); go_simp; (try with_reducible rfl))
  (try go_frame)
  refine wpAnyH_take (i := 2) (oi := ⟨some 4, .fieldAddr 231 (.tmp 3) 0, 0, "attempt.go:82", #[⟨1, .data⟩], none⟩) (v := ?v1772) rfl (by kernel_rfl) (by kernel_rfl) (by kernel_rfl) (fun _ _ _ h => h) (Or.inl ⟨by rfl, ?hy1772⟩) (by assumption) ?rest1772
  case hy1772 => (intro w hSw; (try dsimp only at hSw); go_simp; (try with_reducible rfl))
  (try go_frame)
  refine wpAnyH_take (i := 3) (oi := ⟨some 5, .load 215 (.tmp 4), 215, "attempt.go:82", #[⟨2, .data⟩], none⟩) (v := ?v1773) rfl (by kernel_rfl) (by kernel_rfl) (by kernel_rfl) (fun _ _ _ h => h) (Or.inl ⟨by rfl, ?hy1773⟩) (by assumption) ?rest1773
  case hy1773 => (intro w hSw; (try dsimp only at hSw); go_simp; (try with_reducible rfl))
  (try go_frame)
  refine wpAnyH_take (i := 4) (oi := ⟨some 6, .nilCheck (.tmp 5), 0, "attempt.go:82", #[⟨3, .data⟩], none⟩) (v := ?v1774) rfl (by kernel_rfl) (by kernel_rfl) (by kernel_rfl) (fun _ _ _ h => h) (Or.inl ⟨by rfl, ?hy1774⟩) (by assumption) ?rest1774
  case hy1774 => (intro w hSw; (try dsimp only at hSw); go_simp; (try with_reducible rfl))
  (try go_frame)
  refine wpAnyH_take (i := 5) (oi := ⟨some 7, .fieldAddr 296 (.tmp 6) 5, 0, "attempt.go:82", #[⟨4, .data⟩], none⟩) (v := ?v1775) rfl (by kernel_rfl) (by kernel_rfl) (by kernel_rfl) (fun _ _ _ h => h) (Or.inl ⟨by rfl, ?hy1775⟩) (by assumption) ?rest1775
  case hy1775 => (intro w hSw; (try dsimp only at hSw); go_simp; (try with_reducible rfl))
  (try go_frame)
  refine wpAnyH_take (i := 6) (oi := ⟨some 8, .move (.tmp 0), 381, "attempt.go:82", #[], none⟩) (v := ?v1776) rfl (by kernel_rfl) (by kernel_rfl) (by kernel_rfl) (fun _ _ _ h => h) (Or.inl ⟨by rfl, ?hy1776⟩) (by assumption) ?rest1776
  case hy1776 => (intro w hSw; (try dsimp only at hSw); go_simp; (try with_reducible rfl))
  (try go_frame)
  refine wpAnyH_take (i := 7) (oi := ⟨some 9, .nilCheck (.tmp 8), 0, "attempt.go:82", #[⟨6, .data⟩], none⟩) (v := ?v1777) rfl (by kernel_rfl) (by kernel_rfl) (by kernel_rfl) (fun _ _ _ h => h) (Or.inl ⟨by rfl, ?hy1777⟩) (by assumption) ?rest1777
  case hy1777 => (intro w hSw; (try dsimp only at hSw); go_simp; (try with_reducible rfl))
  (try go_frame)
  refine wpAnyH_take (i := 8) (oi := ⟨some 10, .fieldAddr 231 (.tmp 9) 11, 0, "attempt.go:82", #[⟨7, .data⟩], none⟩) (v := ?v1778) rfl (by kernel_rfl) (by kernel_rfl) (by kernel_rfl) (fun _ _ _ h => h) (Or.inl ⟨by rfl, ?hy1778⟩) (by assumption) ?rest1778
  case hy1778 => (intro w hSw; (try dsimp only at hSw); go_simp; (try with_reducible rfl))
  (try go_frame)
  refine wpAnyH_take (i := 9) (oi := ⟨some 11, .load 222 (.tmp 10), 222, "attempt.go:82", #[⟨8, .data⟩], none⟩) (v := ?v1779) rfl (by kernel_rfl) (by kernel_rfl) (by kernel_rfl) (fun _ _ _ h => h) (Or.inl ⟨by rfl, ?hy1779⟩) (by assumption) ?rest1779
  case hy1779 => (intro w hSw; (try dsimp only at hSw); go_simp; (try with_reducible rfl))
  (try go_frame)
  refine wpAnyH_take (i := 10) (oi := ⟨some 12, .move (.tmp 0), 381, "attempt.go:82", #[], none⟩) (v := ?v1780) rfl (by kernel_rfl) (by kernel_rfl) (by kernel_rfl) (fun _ _ _ h => h) (Or.inl ⟨by rfl, ?hy1780⟩) (by assumption) ?rest1780
  case hy1780 => (intro w hSw; (try dsimp only at hSw); go_simp; (try with_reducible rfl))
  (try go_frame)
  refine wpAnyH_take (i := 11) (oi := ⟨some 13, .nilCheck (.tmp 12), 0, "attempt.go:82", #[⟨10, .data⟩], none⟩) (v := ?v1781) rfl (by kernel_rfl) (by kernel_rfl) (by kernel_rfl) (fun _ _ _ h => h) (Or.inl ⟨by rfl, ?hy1781⟩) (by assumption) ?rest1781
  case hy1781 => (intro w hSw; (try dsimp only at hSw); go_simp; (try with_reducible rfl))
  (try go_frame)
  refine wpAnyH_take (i := 12) (oi := ⟨some 14, .fieldAddr 231 (.tmp 13) 11, 0, "attempt.go:82", #[⟨11, .data⟩], none⟩) (v := ?v1782) rfl (by kernel_rfl) (by kernel_rfl) (by kernel_rfl) (fun _ _ _ h => h) (Or.inl ⟨by rfl, ?hy1782⟩) (by assumption) ?rest1782
  case hy1782 => (intro w hSw; (try dsimp only at hSw); go_simp; (try with_reducible rfl))
  (try go_frame)
  refine wpAnyH_take (i := 13) (oi := ⟨some 15, .load 222 (.tmp 14), 222, "attempt.go:82", #[⟨12, .data⟩], none⟩) (v := ?v1783) rfl (by kernel_rfl) (by kernel_rfl) (by kernel_rfl) (fun _ _ _ h => h) (Or.inl ⟨by rfl, ?hy1783⟩) (by assumption) ?rest1783
  case hy1783 => (intro w hSw; (try dsimp only at hSw); go_simp; (try with_reducible rfl))
  (try go_frame)
  refine wpAnyH_take (i := 14) (oi := ⟨some 16, .move (.tmp 0), 381, "attempt.go:82", #[], none⟩) (v := ?v1784) rfl (by kernel_rfl) (by kernel_rfl) (by kernel_rfl) (fun _ _ _ h => h) (Or.inl ⟨by rfl, ?hy1784⟩) (by assumption) ?rest1784
  case hy1784 => (intro w hSw; (try dsimp only at hSw); go_simp; (try with_reducible rfl))
  (try go_frame)
  refine wpAnyH_take (i := 15) (oi := ⟨some 17, .nilCheck (.tmp 16), 0, "attempt.go:82", #[⟨14, .data⟩], none⟩) (v := ?v1785) rfl (by kernel_rfl) (by kernel_rfl) (by kernel_rfl) (fun _ _ _ h => h) (Or.inl ⟨by rfl, ?hy1785⟩) (by assumption) ?rest1785
  case hy1785 => (intro w hSw; (try dsimp only at hSw); go_simp; (try with_reducible rfl))
  (try go_frame)
  refine wpAnyH_take (i := 16) (oi := ⟨some 18, .fieldAddr 231 (.tmp 17) 9, 0, "attempt.go:82", #[⟨15, .data⟩], none⟩) (v := ?v1786) rfl (by kernel_rfl) (by kernel_rfl) (by kernel_rfl) (fun _ _ _ h => h) (Or.inl ⟨by rfl, ?hy1786⟩) (by assumption) ?rest1786
  case hy1786 => (intro w hSw; (try dsimp only at hSw); go_simp; (try with_reducible rfl))
  (try go_frame)
  refine wpAnyH_take (i := 17) (oi := ⟨some 19, .load 3 (.tmp 18), 3, "attempt.go:82", #[⟨16, .data⟩], none⟩) (v := ?v1787) rfl (by kernel_rfl) (by kernel_rfl) (by kernel_rfl) (fun _ _ _ h => h) (Or.inl ⟨by rfl, ?hy1787⟩) (by assumption) ?rest1787
  case hy1787 => (intro w hSw; (try dsimp only at hSw); go_simp; (try with_reducible rfl))
  (try go_frame)
  refine wpAnyH_ready (rs := [18]) (by kernel_rfl) (by simp) ?_
  refine AllReadyH.cons (o := ⟨some 20, .call ⟨.value (.func 234), #[.tmp 15, .tmp 19], #[222, 3]⟩, 222, "attempt.go:82", #[⟨13, .data⟩, ⟨17, .data⟩], none⟩) (by rfl) (fun K hK => ?_) AllReadyH.nil
  go_simp
  refine (pubNext (E.th t).stamp (E.th t).srec _ _ rfl hr1 (E.th t).spare hsp (by omega)).mono ?_
  rintro e w3 ⟨rfl, rfl⟩
  go_wp2_with fail
  refine hK.out _ _ ?_ (fun hHeld => ?_)
  · exact hHeld
  clear hK K
  (try go_frame)
  refine wpAnyH_ready (rs := [19]) (by kernel_rfl) (by simp) ?_
  refine AllReadyH.cons (o := ⟨some 21, .call ⟨.value (.func 233), #[.tmp 7, .tmp 11, .tmp 20], #[294, 222, 222]⟩, 4, "attempt.go:82", #[⟨5, .data⟩, ⟨9, .data⟩, ⟨18, .data⟩, ⟨18, .chain⟩], none⟩) (by rfl) (fun K hK => ?_) AllReadyH.nil
  go_simp
  refine (pubReplace_miss L.bS 5 _ _ _ w.drew HS.out.1 HS.out.2 hne'.out).mono ?_
  rintro e w3 ⟨rfl, rfl⟩
  go_wp2_with fail
  refine hK.out _ _ ?_ (fun hHeld => ?_)
  · exact hHeld
  clear hK K
  (try go_frame)
  refine wpAnyH_take (i := 20) (oi := ⟨some 22, .unOp .not 4 (.tmp 21), 4, "attempt.go:82", #[⟨19, .data⟩], none⟩) (v := ?v1788) rfl (by kernel_rfl) (by kernel_rfl) (by kernel_rfl) (fun _ _ _ h => h) (Or.inl ⟨by rfl, ?hy1788⟩) (by assumption) ?rest1788
  case hy1788 => (intro w hSw; (try dsimp only at hSw); go_simp; (try with_reducible rfl))
  (try go_frame)
  refine wpAnyH_done (by kernel_rfl) ?_ _
  clear hHeld c0 c11 c13
  go_wp2_with fail
  refine (fail_w HH.out.drew ht hb).mono ?_
  rintro e w4 ⟨rfl, r4, k4⟩
  have HR := hide (And.intro r4 k4)
  clear r4 k4
  go_wp2
  exact bodyPost_ret (v := .tuple #[]) (by simp [results, Tryz.results213, go_sem]) rfl ⟨rfl, HR.out.1, ((Fr.refl L.own w).drew).trans HR.out.2⟩
end
end Go.Proofs.YtefjhnhdagolhaaGreat.int
namespace Go.Proofs.YtefjhnhdagolhaaGreat.int
open Go.RowKit
open M (upd upd_same upd_other Op Ver ETh ESt wds statusAt valueAt)
attribute [local go_sem ↓] Go.wp_at_zero Go.wp_at_succ
theorem run_store_var {P : Program} {v : Value} (hv : v.oneCell' = true) (W : World) (a : Addr) (u : Value) (hc : W.cell? a = some u) (hf : W.frozen? a = false) : (store a v).run P W = .ok () (W.setCell a v) := by
  rw [run_store P W a v _ hv]
  simp [hc, hf]
section
variable {σ : Type} {R : SR σ} {L : Lt} {S : Nat → Prop} {E E' : ESt σ} {w : World} {t : Nat}
set_option maxRecDepth 20000 in
set_option maxHeartbeats 2000000 in
theorem rwriteWord_w (h : RE R L S E w) (ht : t < L.n) {r p : Nat} (hr : r < 2 * L.n + 1) (hp : p < wds L.n) :
    Calls Tryz.prog 232 #[.pointer (some ⟨L.bP, r * 2, none⟩), .int .i64 (p : Int), .pointer (some ⟨L.g, t * 28 + 14, none⟩)] w fun e w' => e = .returned (.tuple #[]) ∧ RE R L S { E with rw := upd E.rw r (upd (E.rw r) p ((E.th t).dw p)) } w' ∧ Fr L.own w w' := by
  obtain ⟨cv, cf, pv, hc, -, -, -, -⟩ := h.cells ht rfl
  have hn := h.ok.n64
  have hwd : wds L.n ≤ 200 := by unfold M.wds M.tw; omega
  have c14 := hc 14 _ (by decide) rfl
  have p0 := h.recd hr
  have d0 : w.cell? ⟨L.gD t, p, none⟩ = some (.int .i64 ((E.th t).dw p)) := (h.gd t ht).cell hp
  have th : w.there (L.bW r) p 1 := (h.rw r hr).there hp
  have nPW : L.bP ≠ L.bW r := by obtain ⟨sp, q2, -⟩ := h.po; exact Row.apart q2 (h.rw r hr) (by decide)
  have ngW : L.g ≠ L.bW r := by obtain ⟨T, q, -⟩ := h.th; exact Row.apart q (h.rw r hr) (by decide)
  have nDW : L.gD t ≠ L.bW r := Row.apart (h.gd t ht) (h.rw r hr) (by decide)
  have hp' : (p : Int) < (wds L.n : Int) := by omega
  have H1 := hide (h.set_word r hr p ((E.th t).dw p))
  clear h hc
  go_enter Tryz.func232, Tryz.ntmps232
  go_wp2
  refine wp_region_held_drew (S := (fun w' => w'.cell? ⟨L.g, t * 28 + 14, none⟩ = some (.slice (some ⟨L.gD t, 0, none⟩) (wds L.n) (wds L.n)) ∧ w'.cell? ⟨L.bP, r * 2, none⟩ = some (.slice (some ⟨L.bW r, 0, none⟩) (wds L.n) (wds L.n)) ∧ w'.cell? ⟨L.gD t, p, none⟩ = some (.int .i64 ((E.th t).dw p)) ∧ w'.there (L.bW r) (p) 1)) (by kernel_rfl) ?_ (fun hHeld => ?_)
  · exact ⟨c14, p0, d0, th⟩
  refine wpAnyH_take (i := 0) (oi := ⟨some 14, .move (.tmp 0), 405, "record.go:47", #[], none⟩) (v := ?v1903) rfl (by kernel_rfl) (by kernel_rfl) (by kernel_rfl) (fun _ _ _ h => h) (Or.inl ⟨by rfl, ?hy1903⟩) (by assumption) ?rest1903
  case hy1903 => (intro w hSw; (try dsimp only at hSw); go_simp; (try with_reducible rfl))
  (try go_frame)
  refine wpAnyH_take (i := 1) (oi := ⟨some 15, .nilCheck (.tmp 14), 0, "record.go:47", #[⟨0, .data⟩], none⟩) (v := ?v1904) rfl (by kernel_rfl) (by kernel_rfl) (by kernel_rfl) (fun _ _ _ h => h) (Or.inl ⟨by rfl, ?hy1904⟩) (by assumption) ?rest1904
  case hy1904 => (intro w hSw; (try dsimp only at hSw); go_simp; (try with_reducible rfl))
  (try go_frame)
  refine wpAnyH_take (i := 2) (oi := ⟨some 16, .fieldAddr 304 (.tmp 15) 0, 0, "record.go:47", #[⟨1, .data⟩], none⟩) (v := ?v1905) rfl (by kernel_rfl) (by kernel_rfl) (by kernel_rfl) (fun _ _ _ h => h) (Or.inl ⟨by rfl, ?hy1905⟩) (by assumption) ?rest1905
  case hy1905 => (intro w hSw; (try dsimp only at hSw); go_simp; (try with_reducible rfl))
  (try go_frame)
  refine wpAnyH_take (i := 3) (oi := ⟨some 17, .load 288 (.tmp 16), 288, "record.go:47", #[⟨2, .data⟩], none⟩) (v := ?v1906) rfl (by kernel_rfl) (by kernel_rfl) (by kernel_rfl) (fun _ _ _ h => h) (Or.inl ⟨by rfl, ?hy1906⟩) (by assumption) ?rest1906
  case hy1906 => (intro w hSw; (try dsimp only at hSw); go_simp; (try with_reducible rfl))
  (try go_frame)
  refine wpAnyH_take (i := 4) (oi := ⟨some 18, .move (.tmp 1), 3, "record.go:47", #[], none⟩) (v := ?v1907) rfl (by kernel_rfl) (by kernel_rfl) (by kernel_rfl) (fun _ _ _ h => h) (Or.inl ⟨by rfl, ?hy1907⟩) (by assumption) ?rest1907
  case hy1907 => (intro w hSw; (try dsimp only at hSw); go_simp; (try with_reducible rfl))
  (try go_frame)
  refine wpAnyH_take (i := 5) (oi := ⟨some 19, .indexAddr 288 (.tmp 17) (.tmp 18), 0, "record.go:47", #[⟨3, .data⟩, ⟨4, .data⟩], none⟩) (v := ?v1908) rfl (by kernel_rfl) (by kernel_rfl) (by kernel_rfl) (fun _ _ _ h => h) (Or.inl ⟨by rfl, ?hy1908⟩) (by assumption) ?rest1908
  case hy1908 => (intro w hSw; (try dsimp only at hSw); go_simp; (try with_reducible rfl))
  (try go_frame)
  refine wpAnyH_take (i := 6) (oi := ⟨some 20, .move (.tmp 2), 393, "record.go:47", #[], none⟩) (v := ?v1909) rfl (by kernel_rfl) (by kernel_rfl) (by kernel_rfl) (fun _ _ _ h => h) (Or.inl ⟨by rfl, ?hy1909⟩) (by assumption) ?rest1909
  case hy1909 => (intro w hSw; (try dsimp only at hSw); go_simp; (try with_reducible rfl))
  (try go_frame)
  refine wpAnyH_take (i := 7) (oi := ⟨some 21, .nilCheck (.tmp 20), 0, "record.go:47", #[⟨6, .data⟩], none⟩) (v := ?v1910) rfl (by kernel_rfl) (by kernel_rfl) (by kernel_rfl) (fun _ _ _ h => h) (Or.inl ⟨by rfl, ?hy1910⟩) (by assumption) ?rest1910
  case hy1910 => (intro w hSw; (try dsimp only at hSw); go_simp; (try with_reducible rfl))
  (try go_frame)
  refine wpAnyH_take (i := 8) (oi := ⟨some 22, .fieldAddr 229 (.tmp 21) 0, 0, "record.go:47", #[⟨7, .data⟩], none⟩) (v := ?v1911) rfl (by kernel_rfl) (by kernel_rfl) (by kernel_rfl) (fun _ _ _ h => h) (Or.inl ⟨by rfl, ?hy1911⟩) (by assumption) ?rest1911
  case hy1911 => (intro w hSw; (try dsimp only at hSw); go_simp; (try with_reducible rfl))
  (try go_frame)
  refine wpAnyH_take (i := 9) (oi := ⟨some 23, .load 22 (.tmp 22), 22, "record.go:47", #[⟨8, .data⟩], none⟩) (v := ?v1912) rfl (by kernel_rfl) (by kernel_rfl) (by kernel_rfl) (fun _ _ _ h => h) (Or.inl ⟨by rfl, ?hy1912⟩) (by assumption) ?rest1912
  case hy1912 => (intro w hSw; (try dsimp only at hSw); go_simp; (try with_reducible rfl))
  (try go_frame)
  refine wpAnyH_take (i := 10) (oi := ⟨some 24, .move (.tmp 1), 3, "record.go:47", #[], none⟩) (v := ?v1913) rfl (by kernel_rfl) (by kernel_rfl) (by kernel_rfl) (fun _ _ _ h => h) (Or.inl ⟨by rfl, ?hy1913⟩) (by assumption) ?rest1913
  case hy1913 => (intro w hSw; (try dsimp only at hSw); go_simp; (try with_reducible rfl))
  (try go_frame)
  refine wpAnyH_take (i := 11) (oi := ⟨some 25, .indexAddr 22 (.tmp 23) (.tmp 24), 0, "record.go:47", #[⟨9, .data⟩, ⟨10, .data⟩], none⟩) (v := ?v1914) rfl (by kernel_rfl) (by kernel_rfl) (by kernel_rfl) (fun _ _ _ h => h) (Or.inl ⟨by rfl, ?hy1914⟩) (by assumption) ?rest1914
  case hy1914 => (intro w hSw; (try dsimp only at hSw); go_simp; (try with_reducible rfl))
  (try go_frame)
  refine wpAnyH_take (i := 12) (oi := ⟨some 26, .load 3 (.tmp 25), 3, "record.go:47", #[⟨11, .data⟩], none⟩) (v := ?v1915) rfl (by kernel_rfl) (by kernel_rfl) (by kernel_rfl) (fun _ _ _ h => h) (Or.inl ⟨by rfl, ?hy1915⟩) (by assumption) ?rest1915
  case hy1915 => (intro w hSw; (try dsimp only at hSw); go_simp; (try with_reducible rfl))
  (try go_frame)
  refine wpAnyH_ready (rs := [13]) (by kernel_rfl) (by simp) ?_
  refine AllReadyH.cons (o := ⟨some 27, .call ⟨.value (.func 219), #[.tmp 19, .tmp 26], #[387, 3]⟩, 0, "record.go:47", #[⟨5, .data⟩, ⟨12, .data⟩], none⟩) (by rfl) (fun K hK => ?_) AllReadyH.nil
  go_simp
  obtain ⟨⟨u, hu⟩, hz⟩ := there_cell hHeld.2.2.2
  refine (wordWrite (L.bW r) p u _ _ hu hz).mono ?_
  rintro e w3 ⟨rfl, rfl⟩
  go_wp2_with fail
  refine hK.out _ _ ?_ (fun hHeld => ?_)
  · exact ⟨cell_kept hHeld.1 (by first | exact .inr (by dsimp only; omega) | exact .inl (by assumption) | exact .inl (Ne.symm (by assumption))), cell_kept hHeld.2.1 (by first | exact .inr (by dsimp only; omega) | exact .inl (by assumption) | exact .inl (Ne.symm (by assumption))), cell_kept hHeld.2.2.1 (by first | exact .inr (by dsimp only; omega) | exact .inl (by assumption) | exact .inl (Ne.symm (by assumption))), there_set hHeld.2.2.2 _ rfl _⟩
  clear hK K
  (try go_frame)
  refine wpAnyH_done (by kernel_rfl) ?_ _
  clear hHeld hu hz
  go_wp2
  exact bodyPost_ret (v := .tuple #[]) (by simp [results, Tryz.results232, go_sem]) rfl ⟨rfl, H1.out.drew, (Fr.set w (own_bW hr) _).drew⟩
set_option maxRecDepth 20000 in
set_option maxHeartbeats 2000000 in
theorem rwriteState_w (h : RE R L S E w) (ht : t < L.n) {r : Nat} (hr : r < 2 * L.n + 1) {v f : Ver σ} (hv : (E.th t).now = some v) (hf : (E.th t).frm = some f) :
    Calls Tryz.prog 232 #[.pointer (some ⟨L.bP, r * 2, none⟩), .int .i64 (wds L.n : Int), .pointer (some ⟨L.g, t * 28 + 14, none⟩)] w fun e w' => e = .returned (.tuple #[]) ∧ Left R L S w { E with rst := upd E.rst r (some (v, f)) } w' := by
  obtain ⟨cv, cf, pv, hc, hcv, hcf, -, -⟩ := h.cells ht rfl
  have hvr := hcv.2 v hv
  have hfr := hcf.2 f hf
  obtain ⟨x0, x1, rfl⟩ := list_cells hcv.1
  obtain ⟨y0, y1, rfl⟩ := list_cells hcf.1
  have hn := h.ok.n64
  have hwd : wds L.n ≤ 200 := by unfold M.wds M.tw; omega
  have p0 := h.recd hr
  have e0 := hc 15 _ (by decide) rfl
  have e1 := hc 16 _ (by decide) rfl
  have e2 := hc 17 _ (by decide) rfl
  have e3 := hc 18 _ (by decide) rfl
  have ox0 := VRep.one R hvr x0 (by simp)
  have ox1 := VRep.one R hvr x1 (by simp)
  have oy0 := VRep.one R hfr y0 (by simp)
  have oy1 := VRep.one R hfr y1 (by simp)
  have th : w.there L.bP (r * 2 + 1) 1 := by obtain ⟨sp, q2, -⟩ := h.po; exact q2.there hr (by decide)
  have HH := hide h
  have HV := hide (And.intro hvr hfr)
  have TH := hide th
  clear h hc hcv hcf hvr hfr th
  have runx0 := run_store_var (P := Tryz.prog) ox0
  have runx1 := run_store_var (P := Tryz.prog) ox1
  have runy0 := run_store_var (P := Tryz.prog) oy0
  have runy1 := run_store_var (P := Tryz.prog) oy1
  go_enter Tryz.func232, Tryz.ntmps232
  go_wp2_with fail
  generalize hW3 : World.alloc _ _ = W3
  have hrow : Row W3 w.heap.size 227 ([x0, x1] ++ [y0, y1]) := by rw [← hW3]; exact Row.new w ([x0, x1] ++ [y0, y1]) _
  have hb3 : Below w.heap.size w W3 := by
    rw [← hW3]
    exact below_alloc w _
  have hth3 : W3.there L.bP (r * 2 + 1) 1 := there_later hb3 TH.out
  obtain ⟨⟨u, hu⟩, hz⟩ := there_cell hth3
  have q0 : W3.cell? ⟨w.heap.size, 0, none⟩ = some x0 := hrow.cell_of rfl
  have HB := hide hb3
  have HW := hide hrow
  have HU := hide (And.intro hu hz)
  clear hW3 hb3 hrow hu hz hth3
  refine (atomStore L.bP (r * 2 + 1) w.heap.size u x0 W3 HU.out.1 HU.out.2 q0).mono ?_
  rintro e w4 ⟨rfl, rfl⟩
  go_wp2
  refine bodyPost_end (v := .tuple #[]) (by simp [results, Tryz.results232, go_sem]) rfl ⟨rfl, (Left.below HH.out HB.out).next (Left.of ((HH.out.below HB.out).set_state r hr w.heap.size (some (v, f)) ?_) (Fr.set _ own_bP _) rfl)⟩
  have hst : ∀ k, (S k ∧ ¬ L.own k) → k < w.heap.size → (grown S w W3 k ∧ ¬ L.own k) ∧ W3.heap[k]? = w.heap[k]? := fun k hk hlt => ⟨⟨.inl hk.1, hk.2⟩, HB.out.block k hlt⟩
  have hI : ∀ k, (S k ∧ ¬ L.own k) → k < w.heap.size := fun k hk => HH.out.lt k hk.1
  intro v' f' e
  injection e with e
  injection e with e1 e2
  subst e1
  subst e2
  exact ⟨w.heap.size, _, _, rfl, ⟨.inr ⟨Nat.le_refl _, HW.out.lt⟩, fun q => by have := HH.out.lt _ (HH.out.ow _ q); omega⟩, HW.out, VRep.stay hst hI HV.out.1, VRep.stay hst hI HV.out.2⟩
end
end Go.Proofs.YtefjhnhdagolhaaGreat.int
