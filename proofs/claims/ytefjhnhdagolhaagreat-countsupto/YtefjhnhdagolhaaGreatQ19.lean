import Derived.Test.YtefjhnhdagolhaaGreatQ18
namespace Go.Proofs.YtefjhnhdagolhaaGreat.int
open Go.RowKit
open M (upd upd_same upd_other Op Ver ETh ESt tw wds statusAt valueAt)
attribute [local go_sem ↓] Go.wp_at_zero Go.wp_at_succ
section
variable {σ : Type} {R : SR σ} {L : Lt} {S : Nat → Prop} {E E' : ESt σ} {w : World} {t : Nat}
theorem own_an : L.own L.bAn := .inr (.inr (.inl rfl))
theorem own_tg : L.own L.bTg := .inr (.inl rfl)
theorem own_bS : L.own L.bS := .inl rfl
theorem own_gG (ht : t < L.n) : L.own (L.gG t) := .inr (.inr (.inr (.inr (.inr (.inr ⟨t, ht, .inr rfl⟩)))))
theorem own_gD (ht : t < L.n) : L.own (L.gD t) := .inr (.inr (.inr (.inr (.inr (.inr ⟨t, ht, .inl rfl⟩)))))
theorem own_bW {r : Nat} (hr : r < 2 * L.n + 1) : L.own (L.bW r) := .inr (.inr (.inr (.inr (.inl ⟨r, hr, rfl⟩))))
theorem own_bP : L.own L.bP := .inr (.inr (.inr (.inl rfl)))
theorem RE.th_ne (h : RE R L S E w) : L.bS ≠ L.g ∧ L.bP ≠ L.g ∧ L.bAn ≠ L.g ∧ L.bTg ≠ L.g ∧ L.bS ≠ L.bAn ∧ L.bS ≠ L.bTg ∧ L.bS ≠ L.bP := by
  obtain ⟨T, q, -⟩ := h.th
  obtain ⟨sp, q2, -⟩ := h.po
  exact ⟨Row.apart h.sh q (by decide), Row.apart q2 q (by decide), Row.apart h.an q (by decide), Row.apart h.tg q (by decide), Row.apart h.sh h.an (by decide), Row.apart h.sh h.tg (by decide), Row.apart h.sh q2 (by decide)⟩
theorem there_cell {b o : Nat} (h : w.there b o 1) : (∃ u, w.cell? ⟨b, o, none⟩ = some u) ∧ w.frozen? ⟨b, o, none⟩ = false := by
  have := h 0 (by decide)
  exact ⟨Option.isSome_iff_exists.1 this.1, this.2⟩
set_option maxRecDepth 20000 in
set_option maxHeartbeats 2000000 in
theorem announce_w (h : RE R L S E w) (ht : t < L.n) (hp : (E.th t).past < 3) :
    Calls Tryz.prog 204 #[.pointer (some ⟨L.g, t * 28, none⟩)] w fun e w' => e = .returned (.tuple #[]) ∧ RE R L S { E with ann := upd E.ann t (upd (E.ann t) (E.th t).past ((E.th t).op.w (E.th t).past)), th := upd E.th t ((E.th t).pass 3 2) } w' ∧ Fr L.own w w' := by
  obtain ⟨cv, cf, pv, hc, -, -, -, -⟩ := h.cells ht rfl
  have hn := h.ok.n64
  have c0 : w.cell? ⟨L.g, t * 28, none⟩ = some (.pointer (some ⟨L.bS, 0, none⟩)) := hc 0 _ (by decide) rfl
  have c1 := hc 1 _ (by decide) rfl
  have c4 := hc 4 _ (by decide) rfl
  have co : w.cell? ⟨L.g, t * 28 + 5 + (E.th t).past, none⟩ = some (.int .i64 ((E.th t).op.w (E.th t).past)) := by
    rcases (by omega : (E.th t).past = 0 ∨ (E.th t).past = 1 ∨ (E.th t).past = 2) with q | q | q <;> rw [q]
    · exact hc 5 _ (by decide) rfl
    · exact hc 6 _ (by decide) rfl
    · exact hc 7 _ (by decide) rfl
  have s3 : w.cell? ⟨L.bS, 3, none⟩ = some (.slice (some ⟨L.bAn, 0, none⟩) L.n L.n) := h.sh.cell_of rfl
  have th : w.there L.bAn (t * 3 + (E.th t).past) 1 := h.an.there ht hp
  obtain ⟨-, -, nAg, -, nSA, -, -⟩ := h.th_ne
  have ht' : (t : Int) < (L.n : Int) := by omega
  have hp' : ((E.th t).past : Int) < 3 := by omega
  obtain ⟨y, hy⟩ : ∃ y, y = (E.th t).op.w (E.th t).past := ⟨_, rfl⟩
  rw [← hy] at co ⊢
  have h1 := h.set_ann t (E.th t).past hp y
  have H1 := hide h1
  clear h hc h1 hy
  go_enter Tryz.func204, Tryz.ntmps204
  go_wp2
  refine wp_region_held_drew (S := (fun w' => w'.cell? ⟨L.g, t * 28, none⟩ = some (.pointer (some ⟨L.bS, 0, none⟩)) ∧ w'.cell? ⟨L.g, t * 28 + 1, none⟩ = some (.int .i64 (t : Int)) ∧ w'.cell? ⟨L.g, t * 28 + 4, none⟩ = some (.int .i64 ((E.th t).past : Int)) ∧ w'.cell? ⟨L.g, t * 28 + 5 + (E.th t).past, none⟩ = some (.int .i64 y) ∧ w'.cell? ⟨L.bS, 3, none⟩ = some (.slice (some ⟨L.bAn, 0, none⟩) L.n L.n) ∧ w'.there (L.bAn) (t * 3 + (E.th t).past) 1)) (by kernel_rfl) ?_ (fun hHeld => ?_)
  · exact ⟨c0, c1, c4, co, s3, th⟩
  refine wpAnyH_take (i := 0) (oi := ⟨some 2, .move (.tmp 0), 381, "thread.go:113", #[], none⟩) (v := ?v1563) rfl (by kernel_rfl) (by kernel_rfl) (by kernel_rfl) (fun _ _ _ h => h) (Or.inl ⟨by rfl, ?hy1563⟩) (by assumption) ?rest1563
  case hy1563 => (intro w hSw; (try dsimp only at hSw); go_simp; (try with_reducible rfl))
  (try go_frame)
  refine wpAnyH_take (i := 1) (oi := ⟨some 3, .nilCheck (.tmp 2), 0, "thread.go:113", #[⟨0, .data⟩], none⟩) (v := ?v1564) rfl (by kernel_rfl) (by kernel_rfl) (by kernel_rfl) (fun _ _ _ h => h) (Or.inl ⟨by rfl, ?hy1564⟩) (by assumption) ?rest1564
  case hy1564 => (intro w hSw; (try dsimp only at hSw); go_simp; (try with_reducible rfl))
  (try go_frame)
  refine wpAnyH_take (i := 2) (oi := ⟨some 4, .fieldAddr 231 (.tmp 3) 0, 0, "thread.go:113", #[⟨1, .data⟩], none⟩) (v := ?v1565) rfl (by kernel_rfl) (by kernel_rfl) (by kernel_rfl) (fun _ _ _ h => h) (Or.inl ⟨by rfl, ?hy1565⟩) (by assumption) ?rest1565
  case hy1565 => (intro w hSw; (try dsimp only at hSw); go_simp; (try with_reducible rfl))
  (try go_frame)
  refine wpAnyH_take (i := 3) (oi := ⟨some 5, .load 215 (.tmp 4), 215, "thread.go:113", #[⟨2, .data⟩], none⟩) (v := ?v1566) rfl (by kernel_rfl) (by kernel_rfl) (by kernel_rfl) (fun _ _ _ h => h) (Or.inl ⟨by rfl, ?hy1566⟩) (by assumption) ?rest1566
  case hy1566 => (intro w hSw; (try dsimp only at hSw); go_simp; (try with_reducible rfl))
  (try go_frame)
  refine wpAnyH_take (i := 4) (oi := ⟨some 6, .nilCheck (.tmp 5), 0, "thread.go:113", #[⟨3, .data⟩], none⟩) (v := ?v1567) rfl (by kernel_rfl) (by kernel_rfl) (by kernel_rfl) (fun _ _ _ h => h) (Or.inl ⟨by rfl, ?hy1567⟩) (by assumption) ?rest1567
  case hy1567 => (intro w hSw; (try dsimp only at hSw); go_simp; (try with_reducible rfl))
  (try go_frame)
  refine wpAnyH_take (i := 5) (oi := ⟨some 7, .fieldAddr 296 (.tmp 6) 3, 0, "thread.go:113", #[⟨4, .data⟩], none⟩) (v := ?v1568) rfl (by kernel_rfl) (by kernel_rfl) (by kernel_rfl) (fun _ _ _ h => h) (Or.inl ⟨by rfl, ?hy1568⟩) (by assumption) ?rest1568
  case hy1568 => (intro w hSw; (try dsimp only at hSw); go_simp; (try with_reducible rfl))
  (try go_frame)
  refine wpAnyH_take (i := 6) (oi := ⟨some 8, .load 289 (.tmp 7), 289, "thread.go:113", #[⟨5, .data⟩], none⟩) (v := ?v1569) rfl (by kernel_rfl) (by kernel_rfl) (by kernel_rfl) (fun _ _ _ h => h) (Or.inl ⟨by rfl, ?hy1569⟩) (by assumption) ?rest1569
  case hy1569 => (intro w hSw; (try dsimp only at hSw); go_simp; (try with_reducible rfl))
  (try go_frame)
  refine wpAnyH_take (i := 7) (oi := ⟨some 9, .move (.tmp 0), 381, "thread.go:113", #[], none⟩) (v := ?v1570) rfl (by kernel_rfl) (by kernel_rfl) (by kernel_rfl) (fun _ _ _ h => h) (Or.inl ⟨by rfl, ?hy1570⟩) (by assumption) ?rest1570
  case hy1570 => (intro w hSw; (try dsimp only at hSw); go_simp; (try with_reducible rfl))
  (try go_frame)
  refine wpAnyH_take (i := 8) (oi := ⟨some 10, .nilCheck (.tmp 9), 0, "thread.go:113", #[⟨7, .data⟩], none⟩) (v := ?v1571) rfl (by kernel_rfl) (by kernel_rfl) (by kernel_rfl) (fun _ _ _ h => h) (Or.inl ⟨by rfl, ?hy1571⟩) (by assumption) ?rest1571
  case hy1571 => (intro w hSw; (try dsimp only at hSw); go_simp; (try with_reducible rfl))
  (try go_frame)
  refine wpAnyH_take (i := 9) (oi := ⟨some 11, .fieldAddr 231 (.tmp 10) 1, 0, "thread.go:113", #[⟨8, .data⟩], none⟩) (v := ?v1572) rfl (by kernel_rfl) (by kernel_rfl) (by kernel_rfl) (fun _ _ _ h => h) (Or.inl ⟨by rfl, ?hy1572⟩) (by assumption) ?rest1572
  case hy1572 => (intro w hSw; (try dsimp only at hSw); go_simp; (try with_reducible rfl))
  (try go_frame)
  refine wpAnyH_take (i := 10) (oi := ⟨some 12, .load 3 (.tmp 11), 3, "thread.go:113", #[⟨9, .data⟩], none⟩) (v := ?v1573) rfl (by kernel_rfl) (by kernel_rfl) (by kernel_rfl) (fun _ _ _ h => h) (Or.inl ⟨by rfl, ?hy1573⟩) (by assumption) ?rest1573
  case hy1573 => (intro w hSw; (try dsimp only at hSw); go_simp; (try with_reducible rfl))
  (try go_frame)
  refine wpAnyH_take (i := 11) (oi := ⟨some 13, .move (.tmp 0), 381, "thread.go:113", #[], none⟩) (v := ?v1574) rfl (by kernel_rfl) (by kernel_rfl) (by kernel_rfl) (fun _ _ _ h => h) (Or.inl ⟨by rfl, ?hy1574⟩) (by assumption) ?rest1574
  case hy1574 => (intro w hSw; (try dsimp only at hSw); go_simp; (try with_reducible rfl))
  (try go_frame)
  refine wpAnyH_take (i := 12) (oi := ⟨some 14, .nilCheck (.tmp 13), 0, "thread.go:113", #[⟨11, .data⟩], none⟩) (v := ?v1575) rfl (by kernel_rfl) (by kernel_rfl) (by kernel_rfl) (fun _ _ _ h => h) (Or.inl ⟨by rfl, ?hy1575⟩) (by assumption) ?rest1575
  case hy1575 => (intro w hSw; (try dsimp only at hSw); go_simp; (try with_reducible rfl))
  (try go_frame)
  refine wpAnyH_take (i := 13) (oi := ⟨some 15, .fieldAddr 231 (.tmp 14) 4, 0, "thread.go:113", #[⟨12, .data⟩], none⟩) (v := ?v1576) rfl (by kernel_rfl) (by kernel_rfl) (by kernel_rfl) (fun _ _ _ h => h) (Or.inl ⟨by rfl, ?hy1576⟩) (by assumption) ?rest1576
  case hy1576 => (intro w hSw; (try dsimp only at hSw); go_simp; (try with_reducible rfl))
  (try go_frame)
  refine wpAnyH_take (i := 14) (oi := ⟨some 16, .load 3 (.tmp 15), 3, "thread.go:113", #[⟨13, .data⟩], none⟩) (v := ?v1577) rfl (by kernel_rfl) (by kernel_rfl) (by kernel_rfl) (fun _ _ _ h => h) (Or.inl ⟨by rfl, ?hy1577⟩) (by assumption) ?rest1577
  case hy1577 => (intro w hSw; (try dsimp only at hSw); go_simp; (try with_reducible rfl))
  (try go_frame)
  refine wpAnyH_take (i := 15) (oi := ⟨some 17, .indexAddr 289 (.tmp 8) (.tmp 12), 0, "thread.go:113", #[⟨6, .data⟩, ⟨10, .data⟩], none⟩) (v := ?v1578) rfl (by kernel_rfl) (by kernel_rfl) (by kernel_rfl) (fun _ _ _ h => h) (Or.inl ⟨by rfl, ?hy1578⟩) (by assumption) ?rest1578
  case hy1578 => (intro w hSw; (try dsimp only at hSw); go_simp; (try with_reducible rfl))
  (try go_frame)
  refine wpAnyH_take (i := 16) (oi := ⟨some 18, .indexAddr 388 (.tmp 17) (.tmp 16), 0, "thread.go:113", #[⟨15, .data⟩, ⟨14, .data⟩], none⟩) (v := ?v1579) rfl (by kernel_rfl) (by kernel_rfl) (by kernel_rfl) (fun _ _ _ h => h) (Or.inl ⟨by rfl, ?hy1579⟩) (by assumption) ?rest1579
  case hy1579 => (intro w hSw; (try dsimp only at hSw); go_simp; (try with_reducible rfl))
  (try go_frame)
  refine wpAnyH_take (i := 17) (oi := ⟨some 19, .move (.tmp 0), 381, "thread.go:113", #[], none⟩) (v := ?v1580) rfl (by kernel_rfl) (by kernel_rfl) (by kernel_rfl) (fun _ _ _ h => h) (Or.inl ⟨by rfl, ?hy1580⟩) (by assumption) ?rest1580
  case hy1580 => (intro w hSw; (try dsimp only at hSw); go_simp; (try with_reducible rfl))
  (try go_frame)
  refine wpAnyH_take (i := 18) (oi := ⟨some 20, .move (.tmp 0), 381, "thread.go:113", #[], none⟩) (v := ?v1581) rfl (by kernel_rfl) (by kernel_rfl) (by kernel_rfl) (fun _ _ _ h => h) (Or.inl ⟨by rfl, ?hy1581⟩) (by assumption) ?rest1581
  case hy1581 => (intro w hSw; (try dsimp only at hSw); go_simp; (try with_reducible rfl))
  (try go_frame)
  refine wpAnyH_take (i := 19) (oi := ⟨some 21, .nilCheck (.tmp 20), 0, "thread.go:113", #[⟨18, .data⟩], none⟩) (v := ?v1582) rfl (by kernel_rfl) (by kernel_rfl) (by kernel_rfl) (fun _ _ _ h => h) (Or.inl ⟨by rfl, ?hy1582⟩) (by assumption) ?rest1582
  case hy1582 => (intro w hSw; (try dsimp only at hSw); go_simp; (try with_reducible rfl))
  (try go_frame)
  refine wpAnyH_take (i := 20) (oi := ⟨some 22, .fieldAddr 231 (.tmp 21) 4, 0, "thread.go:113", #[⟨19, .data⟩], none⟩) (v := ?v1583) rfl (by kernel_rfl) (by kernel_rfl) (by kernel_rfl) (fun _ _ _ h => h) (Or.inl ⟨by rfl, ?hy1583⟩) (by assumption) ?rest1583
  case hy1583 => (intro w hSw; (try dsimp only at hSw); go_simp; (try with_reducible rfl))
  (try go_frame)
  refine wpAnyH_take (i := 21) (oi := ⟨some 23, .load 3 (.tmp 22), 3, "thread.go:113", #[⟨20, .data⟩], none⟩) (v := ?v1584) rfl (by kernel_rfl) (by kernel_rfl) (by kernel_rfl) (fun _ _ _ h => h) (Or.inl ⟨by rfl, ?hy1584⟩) (by assumption) ?rest1584
  case hy1584 => (intro w hSw; (try dsimp only at hSw); go_simp; (try with_reducible rfl))
  (try go_frame)
  refine wpAnyH_take (i := 22) (oi := ⟨some 24, .nilCheck (.tmp 19), 0, "thread.go:113", #[⟨17, .data⟩], none⟩) (v := ?v1585) rfl (by kernel_rfl) (by kernel_rfl) (by kernel_rfl) (fun _ _ _ h => h) (Or.inl ⟨by rfl, ?hy1585⟩) (by assumption) ?rest1585
  case hy1585 => (intro w hSw; (try dsimp only at hSw); go_simp; (try with_reducible rfl))
  (try go_frame)
  refine wpAnyH_take (i := 23) (oi := ⟨some 25, .fieldAddr 231 (.tmp 24) 5, 0, "thread.go:113", #[⟨22, .data⟩], none⟩) (v := ?v1586) rfl (by kernel_rfl) (by kernel_rfl) (by kernel_rfl) (fun _ _ _ h => h) (Or.inl ⟨by rfl, ?hy1586⟩) (by assumption) ?rest1586
  case hy1586 => (intro w hSw; (try dsimp only at hSw); go_simp; (try with_reducible rfl))
  (try go_frame)
  refine wpAnyH_take (i := 24) (oi := ⟨some 26, .indexAddr 221 (.tmp 25) (.tmp 23), 0, "thread.go:113", #[⟨23, .data⟩, ⟨21, .data⟩], none⟩) (v := ?v1587) rfl (by kernel_rfl) (by kernel_rfl) (by kernel_rfl) (fun _ _ _ h => h) (Or.inl ⟨by rfl, ?hy1587⟩) (by assumption) ?rest1587
  case hy1587 => (intro w hSw; (try dsimp only at hSw); go_simp; (try with_reducible rfl))
  (try go_frame)
  refine wpAnyH_take (i := 25) (oi := ⟨some 27, .load 3 (.tmp 26), 3, "thread.go:113", #[⟨24, .data⟩], none⟩) (v := ?v1588) rfl (by kernel_rfl) (by kernel_rfl) (by kernel_rfl) (fun _ _ _ h => h) (Or.inl ⟨by rfl, ?hy1588⟩) (by assumption) ?rest1588
  case hy1588 => (intro w hSw; (try dsimp only at hSw); go_simp; (try with_reducible rfl))
  (try go_frame)
  refine wpAnyH_ready (rs := [26]) (by kernel_rfl) (by simp) ?_
  refine AllReadyH.cons (o := ⟨some 28, .call ⟨.value (.func 219), #[.tmp 18, .tmp 27], #[387, 3]⟩, 0, "thread.go:113", #[⟨16, .data⟩, ⟨25, .data⟩], none⟩) (by rfl) (fun K hK => ?_) AllReadyH.nil
  go_simp
  obtain ⟨⟨u, hu⟩, hz⟩ := there_cell hHeld.2.2.2.2.2
  refine (wordWrite L.bAn (t * 3 + (E.th t).past) u y _ hu hz).mono ?_
  rintro e w3 ⟨rfl, rfl⟩
  go_wp2_with fail
  refine hK.out _ _ ?_ (fun hHeld => ?_)
  · exact ⟨cell_kept hHeld.1 (by first | exact .inr (by dsimp only; omega) | exact .inl (by assumption) | exact .inl (Ne.symm (by assumption))), cell_kept hHeld.2.1 (by first | exact .inr (by dsimp only; omega) | exact .inl (by assumption) | exact .inl (Ne.symm (by assumption))), cell_kept hHeld.2.2.1 (by first | exact .inr (by dsimp only; omega) | exact .inl (by assumption) | exact .inl (Ne.symm (by assumption))), cell_kept hHeld.2.2.2.1 (by first | exact .inr (by dsimp only; omega) | exact .inl (by assumption) | exact .inl (Ne.symm (by assumption))), cell_kept hHeld.2.2.2.2.1 (by first | exact .inr (by dsimp only; omega) | exact .inl (by assumption) | exact .inl (Ne.symm (by assumption))), there_set hHeld.2.2.2.2.2 _ rfl _⟩
  clear hK K
  (try go_frame)
  refine wpAnyH_done (by kernel_rfl) ?_ _
  clear hHeld hu hz
  go_wp2_with fail
  refine (pass_w (t := t) H1.out.drew ht 3 2 (by decide) (by show (E.th t).past ≤ _; omega)).mono ?_
  rintro e w4 ⟨rfl, r4, k4⟩
  have HR := hide (And.intro r4 k4)
  clear r4 k4
  go_wp2
  exact bodyPost_end (v := .tuple #[]) (by simp [results, Tryz.results204, go_sem]) rfl ⟨rfl, HR.out.1, ((Fr.set w own_an _).drew).trans HR.out.2⟩
theorem bit_le (t : Nat) : 2 ^ (t % 16) ≤ 32768 := Nat.le_trans (Nat.pow_le_pow_right (by decide) (show t % 16 ≤ 15 by omega)) (by decide)
set_option maxRecDepth 20000 in
set_option maxHeartbeats 2000000 in
theorem flip_w (h : RE R L S E w) (ht : t < L.n) (h0 : 0 ≤ E.togs (t / 16)) (h1 : E.togs (t / 16) < 65536) :
    Calls Tryz.prog 205 #[.pointer (some ⟨L.g, t * 28, none⟩)] w fun e w' => e = .returned (.tuple #[]) ∧ RE R L S { E with togs := upd E.togs (t / 16) (E.togs (t / 16) + (if (E.th t).toggle = true then -(2 ^ (t % 16)) else 2 ^ (t % 16))), th := upd E.th t (ETh.approach { E.th t with toggle := !(E.th t).toggle }) } w' ∧ Fr L.own w w' := by
  obtain ⟨cv, cf, pv, hc, -, -, -, hf⟩ := h.cells ht rfl
  have hn := h.ok.n64
  have c0 : w.cell? ⟨L.g, t * 28, none⟩ = some (.pointer (some ⟨L.bS, 0, none⟩)) := hc 0 _ (by decide) rfl
  have c1 := hc 1 _ (by decide) rfl
  have c8 := hc 8 _ (by decide) rfl
  have f8 := hf (t * 28 + 8)
  have s2 : w.cell? ⟨L.bS, 2, none⟩ = some (.slice (some ⟨L.bTg, 0, none⟩) (M.tw L.n) (M.tw L.n)) := h.sh.cell_of rfl
  have hqt : t / 16 < M.tw L.n := by unfold M.tw; omega
  have htw : M.tw L.n ≤ 4 := by unfold M.tw; omega
  have a0 : w.cell? ⟨L.bTg, t / 16, none⟩ = some (.int .i64 (E.togs (t / 16))) := h.tg.cell hqt
  have fa := h.tg.frozen (t / 16)
  obtain ⟨-, -, -, nTg, -, nST, -⟩ := h.th_ne
  obtain ⟨r1, k1⟩ := h.cell1 ht 8 (by decide) (.bool (!(E.th t).toggle)) { E.th t with toggle := !(E.th t).toggle } rfl rfl rfl rfl rfl (by intros; rfl)
  have hbl := bit_le t
  rw [show ((2 : Int) ^ (t % 16)) = ((2 ^ (t % 16) : Nat) : Int) by push_cast; rfl]
  obtain ⟨m, hm⟩ : ∃ m, m = 2 ^ (t % 16) := ⟨_, rfl⟩
  rw [← hm] at hbl ⊢
  obtain ⟨q, hq⟩ : ∃ q, q = t / 16 := ⟨_, rfl⟩
  rw [← hq] at hqt a0 fa h0 h1 ⊢
  have hq' : (q : Int) < (M.tw L.n : Int) := by omega
  have HA := hide (And.intro hq hm)
  have H1 := hide r1
  have K1 := hide k1
  clear h hc hf r1 k1 hq hm
  cases htg : (E.th t).toggle
  · rw [htg] at c8 H1 K1
    go_enter Tryz.func205, Tryz.ntmps205
    go_wp2_with fail
    refine (toggleAt_of t q m _ (by omega) HA.out.1 HA.out.2).mono ?_
    rintro e w2 ⟨rfl, kk, rfl⟩
    go_wp2_with fail
    have b0 : ((w.drewN kk).setCell ⟨L.g, t * 28 + 8, none⟩ (.bool true)).cell? ⟨L.bTg, q, none⟩ = some (.int .i64 (E.togs q)) := cell_kept a0 (.inl (by exact nTg))
    refine (int64Add L.bTg q (E.togs q) (m : Int) _ b0 (frozen_kept fa) (by omega) (by omega)).mono ?_
    rintro e w3 ⟨rfl, rfl⟩
    have H2 := hide ((H1.out.drewN kk).set_tog q (E.togs q + (m : Int)))
    go_wp2_with fail
    refine (approach_w H2.out ht).mono ?_
    rintro e w4 ⟨rfl, r4, k4⟩
    have HR := hide (And.intro r4 k4)
    clear r4 k4
    go_wp2
    refine bodyPost_end (v := .tuple #[]) (by simp [results, Tryz.results205, go_sem]) rfl ⟨rfl, HR.out.1.cast ?_, (((K1.out.drewN kk)).trans (Fr.set _ own_tg _)).trans HR.out.2⟩
    simp [upd_upd, upd_same]
  · rw [htg] at c8 H1 K1
    go_enter Tryz.func205, Tryz.ntmps205
    go_wp2_with fail
    refine (toggleAt_of t q m _ (by omega) HA.out.1 HA.out.2).mono ?_
    rintro e w2 ⟨rfl, kk, rfl⟩
    go_wp2_with fail
    have b0 : ((w.drewN kk).setCell ⟨L.g, t * 28 + 8, none⟩ (.bool false)).cell? ⟨L.bTg, q, none⟩ = some (.int .i64 (E.togs q)) := cell_kept a0 (.inl (by exact nTg))
    refine (int64Add L.bTg q (E.togs q) (-(m : Int)) _ b0 (frozen_kept fa) (by omega) (by omega)).mono ?_
    rintro e w3 ⟨rfl, rfl⟩
    have H2 := hide ((H1.out.drewN kk).set_tog q (E.togs q + -(m : Int)))
    go_wp2_with fail
    refine (approach_w H2.out ht).mono ?_
    rintro e w4 ⟨rfl, r4, k4⟩
    have HR := hide (And.intro r4 k4)
    clear r4 k4
    go_wp2
    refine bodyPost_end (v := .tuple #[]) (by simp [results, Tryz.results205, go_sem]) rfl ⟨rfl, HR.out.1.cast ?_, (((K1.out.drewN kk)).trans (Fr.set _ own_tg _)).trans HR.out.2⟩
    simp [upd_upd, upd_same]
end
end Go.Proofs.YtefjhnhdagolhaaGreat.int
namespace Go.Proofs.YtefjhnhdagolhaaGreat.int
open Go.RowKit
open M (upd upd_same upd_other Op Ver ETh ESt wds statusAt valueAt)
attribute [local go_sem ↓] Go.wp_at_zero Go.wp_at_succ
section
variable {σ : Type} {R : SR σ} {L : Lt} {S : Nat → Prop} {E E' : ESt σ} {w : World} {t : Nat}
set_option maxRecDepth 20000 in
set_option maxHeartbeats 2000000 in
theorem scan_w (h : RE R L S E w) (ht : t < L.n) (hp : (E.th t).past < M.tw L.n) :
    Calls Tryz.prog 209 #[.pointer (some ⟨L.g, t * 28, none⟩)] w fun e w' => e = .returned (.tuple #[]) ∧ RE R L S { E with th := upd E.th t (ETh.pass { E.th t with tg := upd (E.th t).tg (E.th t).past (E.togs (E.th t).past) } (M.tw L.n) 7) } w' ∧ Fr L.own w w' := by
  obtain ⟨cv, cf, pv, hc, hcv, hcf, -, -⟩ := h.cells ht rfl
  obtain ⟨x0, x1, rfl⟩ := list_cells hcv.1
  obtain ⟨y0, y1, rfl⟩ := list_cells hcf.1
  have hn := h.ok.n64
  have htw : M.tw L.n ≤ 4 := by unfold M.tw; omega
  have c0 : w.cell? ⟨L.g, t * 28, none⟩ = some (.pointer (some ⟨L.bS, 0, none⟩)) := hc 0 _ (by decide) rfl
  have c4 := hc 4 _ (by decide) rfl
  have cg := hc 19 _ (by decide) rfl
  have s2 : w.cell? ⟨L.bS, 2, none⟩ = some (.slice (some ⟨L.bTg, 0, none⟩) (M.tw L.n) (M.tw L.n)) := h.sh.cell_of rfl
  have a0 : w.cell? ⟨L.bTg, (E.th t).past, none⟩ = some (.int .i64 (E.togs (E.th t).past)) := h.tg.cell hp
  have th : w.there (L.gG t) (E.th t).past 1 := (h.gg t ht).there hp
  have nSG : L.bS ≠ L.gG t := Row.apart h.sh (h.gg t ht) (by decide)
  have nTG : L.bTg ≠ L.gG t := Row.apart h.tg (h.gg t ht) (by decide)
  have ngG : L.g ≠ L.gG t := by obtain ⟨T, q, -⟩ := h.th; exact Row.apart q (h.gg t ht) (by decide)
  have hp' : ((E.th t).past : Int) < (M.tw L.n : Int) := by omega
  have H1 := hide (h.set_read t ht (E.th t).past (E.togs (E.th t).past))
  clear h hc hcv hcf
  go_enter Tryz.func209, Tryz.ntmps209
  go_wp2
  refine wp_region_held_drew (S := (fun w' => w'.cell? ⟨L.g, t * 28, none⟩ = some (.pointer (some ⟨L.bS, 0, none⟩)) ∧ w'.cell? ⟨L.g, t * 28 + 4, none⟩ = some (.int .i64 ((E.th t).past : Int)) ∧ w'.cell? ⟨L.g, t * 28 + 19, none⟩ = some (.slice (some ⟨L.gG t, 0, none⟩) (M.tw L.n) (M.tw L.n)) ∧ w'.cell? ⟨L.bS, 2, none⟩ = some (.slice (some ⟨L.bTg, 0, none⟩) (M.tw L.n) (M.tw L.n)) ∧ w'.cell? ⟨L.bTg, (E.th t).past, none⟩ = some (.int .i64 (E.togs (E.th t).past)) ∧ w'.there (L.gG t) ((E.th t).past) 1)) (by kernel_rfl) ?_ (fun hHeld => ?_)
  · exact ⟨c0, c4, cg, s2, a0, th⟩
  refine wpAnyH_take (i := 0) (oi := ⟨some 2, .move (.tmp 0), 381, "attempt.go:20", #[], none⟩) (v := ?v1667) rfl (by kernel_rfl) (by kernel_rfl) (by kernel_rfl) (fun _ _ _ h => h) (Or.inl ⟨by rfl, ?hy1667⟩) (by assumption) ?rest1667
  case hy1667 => (intro w hSw; (try dsimp only at hSw); go_simp; (try with_reducible rfl))
  (try go_frame)
  refine wpAnyH_take (i := 1) (oi := ⟨some 3, .nilCheck (.tmp 2), 0, "attempt.go:20", #[⟨0, .data⟩], none⟩) (v := ?v1668) rfl (by kernel_rfl) (by kernel_rfl) (by kernel_rfl) (fun _ _ _ h => h) (Or.inl ⟨by rfl, ?hy1668⟩) (by assumption) ?rest1668
  case hy1668 => (intro w hSw; (try dsimp only at hSw); go_simp; (try with_reducible rfl))
  (try go_frame)
  refine wpAnyH_take (i := 2) (oi := ⟨some 4, .fieldAddr 231 (.tmp 3) 13, 0, "attempt.go:20", #[⟨1, .data⟩], none⟩) (v := ?v1669) rfl (by kernel_rfl) (by kernel_rfl) (by kernel_rfl) (fun _ _ _ h => h) (Or.inl ⟨by rfl, ?hy1669⟩) (by assumption) ?rest1669
  case hy1669 => (intro w hSw; (try dsimp only at hSw); go_simp; (try with_reducible rfl))
  (try go_frame)
  refine wpAnyH_take (i := 3) (oi := ⟨some 5, .load 22 (.tmp 4), 22, "attempt.go:20", #[⟨2, .data⟩], none⟩) (v := ?v1670) rfl (by kernel_rfl) (by kernel_rfl) (by kernel_rfl) (fun _ _ _ h => h) (Or.inl ⟨by rfl, ?hy1670⟩) (by assumption) ?rest1670
  case hy1670 => (intro w hSw; (try dsimp only at hSw); go_simp; (try with_reducible rfl))
  (try go_frame)
  refine wpAnyH_take (i := 4) (oi := ⟨some 6, .move (.tmp 0), 381, "attempt.go:20", #[], none⟩) (v := ?v1671) rfl (by kernel_rfl) (by kernel_rfl) (by kernel_rfl) (fun _ _ _ h => h) (Or.inl ⟨by rfl, ?hy1671⟩) (by assumption) ?rest1671
  case hy1671 => (intro w hSw; (try dsimp only at hSw); go_simp; (try with_reducible rfl))
  (try go_frame)
  refine wpAnyH_take (i := 5) (oi := ⟨some 7, .nilCheck (.tmp 6), 0, "attempt.go:20", #[⟨4, .data⟩], none⟩) (v := ?v1672) rfl (by kernel_rfl) (by kernel_rfl) (by kernel_rfl) (fun _ _ _ h => h) (Or.inl ⟨by rfl, ?hy1672⟩) (by assumption) ?rest1672
  case hy1672 => (intro w hSw; (try dsimp only at hSw); go_simp; (try with_reducible rfl))
  (try go_frame)
  refine wpAnyH_take (i := 6) (oi := ⟨some 8, .fieldAddr 231 (.tmp 7) 4, 0, "attempt.go:20", #[⟨5, .data⟩], none⟩) (v := ?v1673) rfl (by kernel_rfl) (by kernel_rfl) (by kernel_rfl) (fun _ _ _ h => h) (Or.inl ⟨by rfl, ?hy1673⟩) (by assumption) ?rest1673
  case hy1673 => (intro w hSw; (try dsimp only at hSw); go_simp; (try with_reducible rfl))
  (try go_frame)
  refine wpAnyH_take (i := 7) (oi := ⟨some 9, .load 3 (.tmp 8), 3, "attempt.go:20", #[⟨6, .data⟩], none⟩) (v := ?v1674) rfl (by kernel_rfl) (by kernel_rfl) (by kernel_rfl) (fun _ _ _ h => h) (Or.inl ⟨by rfl, ?hy1674⟩) (by assumption) ?rest1674
  case hy1674 => (intro w hSw; (try dsimp only at hSw); go_simp; (try with_reducible rfl))
  (try go_frame)
  refine wpAnyH_take (i := 8) (oi := ⟨some 10, .move (.tmp 0), 381, "attempt.go:20", #[], none⟩) (v := ?v1675) rfl (by kernel_rfl) (by kernel_rfl) (by kernel_rfl) (fun _ _ _ h => h) (Or.inl ⟨by rfl, ?hy1675⟩) (by assumption) ?rest1675
  case hy1675 => (intro w hSw; (try dsimp only at hSw); go_simp; (try with_reducible rfl))
  (try go_frame)
  refine wpAnyH_take (i := 9) (oi := ⟨some 11, .nilCheck (.tmp 10), 0, "attempt.go:20", #[⟨8, .data⟩], none⟩) (v := ?v1676) rfl (by kernel_rfl) (by kernel_rfl) (by kernel_rfl) (fun _ _ _ h => h) (Or.inl ⟨by rfl, ?hy1676⟩) (by assumption) ?rest1676
  case hy1676 => (intro w hSw; (try dsimp only at hSw); go_simp; (try with_reducible rfl))
  (try go_frame)
  refine wpAnyH_take (i := 10) (oi := ⟨some 12, .fieldAddr 231 (.tmp 11) 0, 0, "attempt.go:20", #[⟨9, .data⟩], none⟩) (v := ?v1677) rfl (by kernel_rfl) (by kernel_rfl) (by kernel_rfl) (fun _ _ _ h => h) (Or.inl ⟨by rfl, ?hy1677⟩) (by assumption) ?rest1677
  case hy1677 => (intro w hSw; (try dsimp only at hSw); go_simp; (try with_reducible rfl))
  (try go_frame)
  refine wpAnyH_take (i := 11) (oi := ⟨some 13, .load 215 (.tmp 12), 215, "attempt.go:20", #[⟨10, .data⟩], none⟩) (v := ?v1678) rfl (by kernel_rfl) (by kernel_rfl) (by kernel_rfl) (fun _ _ _ h => h) (Or.inl ⟨by rfl, ?hy1678⟩) (by assumption) ?rest1678
  case hy1678 => (intro w hSw; (try dsimp only at hSw); go_simp; (try with_reducible rfl))
  (try go_frame)
  refine wpAnyH_take (i := 12) (oi := ⟨some 14, .nilCheck (.tmp 13), 0, "attempt.go:20", #[⟨11, .data⟩], none⟩) (v := ?v1679) rfl (by kernel_rfl) (by kernel_rfl) (by kernel_rfl) (fun _ _ _ h => h) (Or.inl ⟨by rfl, ?hy1679⟩) (by assumption) ?rest1679
  case hy1679 => (intro w hSw; (try dsimp only at hSw); go_simp; (try with_reducible rfl))
  (try go_frame)
  refine wpAnyH_take (i := 13) (oi := ⟨some 15, .fieldAddr 296 (.tmp 14) 2, 0, "attempt.go:20", #[⟨12, .data⟩], none⟩) (v := ?v1680) rfl (by kernel_rfl) (by kernel_rfl) (by kernel_rfl) (fun _ _ _ h => h) (Or.inl ⟨by rfl, ?hy1680⟩) (by assumption) ?rest1680
  case hy1680 => (intro w hSw; (try dsimp only at hSw); go_simp; (try with_reducible rfl))
  (try go_frame)
  refine wpAnyH_take (i := 14) (oi := ⟨some 16, .load 288 (.tmp 15), 288, "attempt.go:20", #[⟨13, .data⟩], none⟩) (v := ?v1681) rfl (by kernel_rfl) (by kernel_rfl) (by kernel_rfl) (fun _ _ _ h => h) (Or.inl ⟨by rfl, ?hy1681⟩) (by assumption) ?rest1681
  case hy1681 => (intro w hSw; (try dsimp only at hSw); go_simp; (try with_reducible rfl))
  (try go_frame)
  refine wpAnyH_take (i := 15) (oi := ⟨some 17, .move (.tmp 0), 381, "attempt.go:20", #[], none⟩) (v := ?v1682) rfl (by kernel_rfl) (by kernel_rfl) (by kernel_rfl) (fun _ _ _ h => h) (Or.inl ⟨by rfl, ?hy1682⟩) (by assumption) ?rest1682
  case hy1682 => (intro w hSw; (try dsimp only at hSw); go_simp; (try with_reducible rfl))
  (try go_frame)
  refine wpAnyH_take (i := 16) (oi := ⟨some 18, .nilCheck (.tmp 17), 0, "attempt.go:20", #[⟨15, .data⟩], none⟩) (v := ?v1683) rfl (by kernel_rfl) (by kernel_rfl) (by kernel_rfl) (fun _ _ _ h => h) (Or.inl ⟨by rfl, ?hy1683⟩) (by assumption) ?rest1683
  case hy1683 => (intro w hSw; (try dsimp only at hSw); go_simp; (try with_reducible rfl))
  (try go_frame)
  refine wpAnyH_take (i := 17) (oi := ⟨some 19, .fieldAddr 231 (.tmp 18) 4, 0, "attempt.go:20", #[⟨16, .data⟩], none⟩) (v := ?v1684) rfl (by kernel_rfl) (by kernel_rfl) (by kernel_rfl) (fun _ _ _ h => h) (Or.inl ⟨by rfl, ?hy1684⟩) (by assumption) ?rest1684
  case hy1684 => (intro w hSw; (try dsimp only at hSw); go_simp; (try with_reducible rfl))
  (try go_frame)
  refine wpAnyH_take (i := 18) (oi := ⟨some 20, .load 3 (.tmp 19), 3, "attempt.go:20", #[⟨17, .data⟩], none⟩) (v := ?v1685) rfl (by kernel_rfl) (by kernel_rfl) (by kernel_rfl) (fun _ _ _ h => h) (Or.inl ⟨by rfl, ?hy1685⟩) (by assumption) ?rest1685
  case hy1685 => (intro w hSw; (try dsimp only at hSw); go_simp; (try with_reducible rfl))
  (try go_frame)
  refine wpAnyH_take (i := 19) (oi := ⟨some 21, .indexAddr 288 (.tmp 16) (.tmp 20), 0, "attempt.go:20", #[⟨14, .data⟩, ⟨18, .data⟩], none⟩) (v := ?v1686) rfl (by kernel_rfl) (by kernel_rfl) (by kernel_rfl) (fun _ _ _ h => h) (Or.inl ⟨by rfl, ?hy1686⟩) (by assumption) ?rest1686
  case hy1686 => (intro w hSw; (try dsimp only at hSw); go_simp; (try with_reducible rfl))
  (try go_frame)
  refine wpAnyH_ready (rs := [20]) (by kernel_rfl) (by simp) ?_
  refine AllReadyH.cons (o := ⟨some 22, .call ⟨.value (.func 225), #[.tmp 21], #[387]⟩, 3, "attempt.go:20", #[⟨19, .data⟩], none⟩) (by rfl) (fun K hK => ?_) AllReadyH.nil
  go_simp
  refine (wordRead L.bTg (E.th t).past _ _ hHeld.2.2.2.2.1).mono ?_
  rintro e w3 ⟨rfl, rfl⟩
  go_wp2_with fail
  refine hK.out _ _ ?_ (fun hHeld => ?_)
  · exact hHeld
  clear hK K
  (try go_frame)
  refine wpAnyH_take (i := 21) (oi := ⟨some 23, .indexAddr 22 (.tmp 5) (.tmp 9), 0, "attempt.go:20", #[⟨3, .data⟩, ⟨7, .data⟩, ⟨0, .phase⟩, ⟨1, .phase⟩, ⟨2, .phase⟩, ⟨3, .phase⟩, ⟨4, .phase⟩, ⟨5, .phase⟩, ⟨6, .phase⟩, ⟨7, .phase⟩, ⟨8, .phase⟩, ⟨9, .phase⟩, ⟨10, .phase⟩, ⟨11, .phase⟩, ⟨12, .phase⟩, ⟨13, .phase⟩, ⟨14, .phase⟩, ⟨15, .phase⟩, ⟨16, .phase⟩, ⟨17, .phase⟩, ⟨18, .phase⟩, ⟨19, .phase⟩, ⟨20, .phase⟩], none⟩) (v := ?v1687) rfl (by kernel_rfl) (by kernel_rfl) (by kernel_rfl) (fun _ _ _ h => h) (Or.inl ⟨by rfl, ?hy1687⟩) (by assumption) ?rest1687
  case hy1687 => (intro w hSw; (try dsimp only at hSw); go_simp; (try with_reducible rfl))
  (try go_frame)
  refine wpAnyH_ready (rs := [22]) (by kernel_rfl) (by simp) ?_
  refine AllReadyH.cons (o := ⟨none, .store 3 (.tmp 23) (.tmp 22), 0, "attempt.go:20", #[⟨21, .data⟩, ⟨20, .data⟩, ⟨20, .chain⟩, ⟨0, .phase⟩, ⟨1, .phase⟩, ⟨2, .phase⟩, ⟨3, .phase⟩, ⟨4, .phase⟩, ⟨5, .phase⟩, ⟨6, .phase⟩, ⟨7, .phase⟩, ⟨8, .phase⟩, ⟨9, .phase⟩, ⟨10, .phase⟩, ⟨11, .phase⟩, ⟨12, .phase⟩, ⟨13, .phase⟩, ⟨14, .phase⟩, ⟨15, .phase⟩, ⟨16, .phase⟩, ⟨17, .phase⟩, ⟨18, .phase⟩, ⟨19, .phase⟩, ⟨20, .phase⟩], none⟩) (by rfl) (fun K hK => ?_) AllReadyH.nil
  rw [if_pos (by rfl)]
  refine wp_store_one _ _ _ rfl (L.gG t) (E.th t).past (.int .i64 (E.togs (E.th t).past)) rfl rfl rfl rfl hHeld.2.2.2.2.2 (by kernel_rfl) ?_
  refine hK.out _ _ ?_ (fun hHeld => ?_)
  · exact ⟨cell_kept hHeld.1 (by first | exact .inr (by dsimp only; omega) | exact .inl (by assumption) | exact .inl (Ne.symm (by assumption))), cell_kept hHeld.2.1 (by first | exact .inr (by dsimp only; omega) | exact .inl (by assumption) | exact .inl (Ne.symm (by assumption))), cell_kept hHeld.2.2.1 (by first | exact .inr (by dsimp only; omega) | exact .inl (by assumption) | exact .inl (Ne.symm (by assumption))), cell_kept hHeld.2.2.2.1 (by first | exact .inr (by dsimp only; omega) | exact .inl (by assumption) | exact .inl (Ne.symm (by assumption))), cell_kept hHeld.2.2.2.2.1 (by first | exact .inr (by dsimp only; omega) | exact .inl (by assumption) | exact .inl (Ne.symm (by assumption))), there_set hHeld.2.2.2.2.2 _ rfl _⟩
  clear hK K
  (try go_frame)
  refine wpAnyH_done (by kernel_rfl) ?_ _
  have cg' := hHeld.2.2.1
  clear hHeld
  go_wp2_with fail
  refine (pass_w (t := t) (H1.out.drew) ht (M.tw L.n) 7 (by omega) (by simp only [upd_same]; omega)).mono ?_
  rintro e w4 ⟨rfl, r4, k4⟩
  have HR := hide (And.intro r4 k4)
  clear r4 k4
  go_wp2
  refine bodyPost_end (v := .tuple #[]) (by simp [results, Tryz.results209, go_sem]) rfl ⟨rfl, HR.out.1.cast ?_, ((Fr.set w (own_gG ht) _).drew).trans HR.out.2⟩
  simp only [upd_upd, upd_same]
end
end Go.Proofs.YtefjhnhdagolhaaGreat.int
