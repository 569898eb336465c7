import Derived.Test.YtefjhnhdagolhaaGreatQ09
import Derived.Test.YtefjhnhdagolhaaGreatQ01
import Derived.Test.YtefjhnhdagolhaaGreatQ06
import Derived.Laws.BitsLemmas
namespace Go.Proofs.YtefjhnhdagolhaaGreat.M
section
variable {σ : Type} {P : Plain σ} {n cap : Nat} {E : ESt σ} {Y : RSt} {t : Nat}
theorem sim_7 (h : Inv P n cap E Y) (ht : t < n) (hp : (Y.th t).part = 7) : Stepped P n cap E Y t := by
  obtain ⟨pb, nf, h1, h2, h3⟩ := h
  have hT := h3 t ht
  have hph : (E.th t).phase = 7 := (hT.p2 (by omega)).trans hp
  obtain ⟨k1, k2, k3⟩ := own7 ht hT h2 hp
  have hst : (Y.th t).stamp = (E.th t).stamp := (hT.att (by omega) (by omega)).st
  unfold Stepped
  by_cases hs0 : (E.th t).stamp = Y.bs.length
  · obtain ⟨q1, q2⟩ := k3 hs0 _ rfl
    have hpd : Y.pending n { Y.th t with left := 0 } = (List.range n).filter (fun k => decide (((Y.th t).flipped k + cnt Y.bs k) % 2 = 1)) := rfl
    have hs : step P n cap E t = { E with th := upd E.th t (ETh.enter { E.th t with pend := (List.range n).filter (fun k => decide (((Y.th t).flipped k + cnt Y.bs k) % 2 = 1)) } (if t ∈ (List.range n).filter (fun k => decide (((Y.th t).flipped k + cnt Y.bs k) % 2 = 1)) then 8 else 11)) } := by
      unfold step
      simp only [hph]
      rw [if_pos (by rw [h1, hs0]), q1]
      rfl
    have ho : over n cap Y t { Y.th t with left := 0 } = (Y.set t (RTh.enter n { Y.th t with left := 0, pend := (List.range n).filter (fun k => decide (((Y.th t).flipped k + cnt Y.bs k) % 2 = 1)) } (if t ∈ (List.range n).filter (fun k => decide (((Y.th t).flipped k + cnt Y.bs k) % 2 = 1)) then 8 else 11)), false) := by
      unfold over
      simp only [hp]
      rw [if_pos (by rw [hst, hs0])]
      rfl
    rw [hs, rstep_end rfl (by omega) k1, ho]
    exact ⟨inv_mk pb nf (view_of pb nf rfl (enter_flips _ _).1 (enter_flips _ _).2) h1 h2 rfl rfl (fun k hk _ => h3 k hk) q2, flag_in (enter_part _ _ (by split <;> decide))⟩
  · have hs : step P n cap E t = { E with th := upd E.th t ((E.th t).fail cap) } := by
      unfold step
      simp only [hph]
      rw [if_neg (by rw [h1]; exact fun q => hs0 q.symm)]
    have ho : over n cap Y t { Y.th t with left := 0 } = (Y.set t (RTh.fail n cap { Y.th t with left := 0 }), false) := by
      unfold over
      simp only [hp]
      rw [if_neg (by rw [hst]; exact fun q => hs0 q.symm)]
    rw [hs, rstep_end rfl (by omega) k1, ho]
    exact ⟨inv_mk pb nf (view_of pb nf rfl (fail_flips _).1 (fail_flips _).2) h1 h2 rfl rfl (fun k hk _ => h3 k hk) (k2 hs0), flag_in (fail_part _)⟩
theorem sim_8 (h : Inv P n cap E Y) (ht : t < n) (hp : (Y.th t).part = 8) : Stepped P n cap E Y t := by
  obtain ⟨pb, nf, h1, h2, h3⟩ := h
  have hT := h3 t ht
  have hph : (E.th t).phase = 8 := (hT.p2 (by omega)).trans hp
  obtain ⟨e3, he3⟩ : ∃ e3, e3 = (if (E.th t).past + 1 = 3 * (E.th t).pend.length then ETh.close n (if (E.th t).past % 3 = 2 then ETh.apply P n { E.th t with heard := upd (E.th t).heard ((E.th t).past % 3) (E.ann ((E.th t).pend.getD ((E.th t).past / 3) 0) ((E.th t).past % 3)) } ((E.th t).pend.getD ((E.th t).past / 3) 0) else { E.th t with heard := upd (E.th t).heard ((E.th t).past % 3) (E.ann ((E.th t).pend.getD ((E.th t).past / 3) 0) ((E.th t).past % 3)) }) else (if (E.th t).past % 3 = 2 then ETh.apply P n { E.th t with heard := upd (E.th t).heard ((E.th t).past % 3) (E.ann ((E.th t).pend.getD ((E.th t).past / 3) 0) ((E.th t).past % 3)) } ((E.th t).pend.getD ((E.th t).past / 3) 0) else { E.th t with heard := upd (E.th t).heard ((E.th t).past % 3) (E.ann ((E.th t).pend.getD ((E.th t).past / 3) 0) ((E.th t).past % 3)) })) := ⟨_, rfl⟩
  obtain ⟨-, k1, k2⟩ := own8 hT h2 hp e3 _ rfl he3
  obtain ⟨l1, l2⟩ := hT.p3 (by omega) (by omega)
  have hs : step P n cap E t = { E with th := upd E.th t (e3.pass (3 * (E.th t).pend.length) 9) } := by
    rw [he3]
    unfold step
    simp only [hph]
  unfold Stepped
  rw [hs]
  by_cases hl : 1 < (Y.th t).left
  · rw [rstep_in rfl (by omega) hl]
    exact ⟨inv_mk pb nf (view_of pb nf rfl rfl rfl) h1 h2 rfl rfl (fun k hk _ => h3 k hk) (k1 hl), flag_in (by show (Y.th t).part ≠ 0; omega)⟩
  · have hl1 : (Y.th t).left = 1 := by omega
    have ho : over n cap Y t { Y.th t with left := 0 } = (Y.set t (RTh.enter n { Y.th t with left := 0 } 9), false) := by unfold over; simp only [hp]
    rw [rstep_end rfl (by omega) hl1, ho]
    exact ⟨inv_mk pb nf (view_of pb nf rfl (enter_flips _ _).1 (enter_flips _ _).2) h1 h2 rfl rfl (fun k hk _ => h3 k hk) (k2 hl1), flag_in (enter_part _ _ (by decide))⟩
theorem spare_ne {V : View σ} {u : Nat} {e f : ETh σ} {x y : RTh} (h : Thr P n cap V t e x) (h' : Thr P n cap V u f y) (hu : u ≠ t) : f.spare ≠ e.spare := by
  rcases h.sp with ⟨a, b⟩ | ⟨a, b⟩ <;> rcases h'.sp with ⟨c, d⟩ | ⟨c, d⟩ <;> omega
theorem sim_9 (h : Inv P n cap E Y) (ht : t < n) (hp : (Y.th t).part = 9) : Stepped P n cap E Y t := by
  obtain ⟨pb, nf, h1, h2, h3⟩ := h
  have hT := h3 t ht
  have hph : (E.th t).phase = 9 := (hT.p2 (by omega)).trans hp
  unfold Stepped
  by_cases hw : (E.th t).past < wds n
  · obtain ⟨k1, k2⟩ := own9w hT hp hw
    have hs : step P n cap E t = { E with rw := upd E.rw (E.th t).spare (upd (E.rw (E.th t).spare) (E.th t).past ((E.th t).dw (E.th t).past)), th := upd E.th t ((E.th t).pass (wds n + 1) 10) } := by unfold step; simp only [hph, hw, if_true]
    rw [hs, rstep_in rfl (by omega) k1]
    exact ⟨inv_mk pb nf (view_of pb nf rfl rfl rfl) h1 (h2.word hT.spc (hT.att (by omega) (by omega)).spb (hT.d6 (by omega) (by omega)).1) rfl rfl (fun k hk hkt => (h3 k hk).word hT.spc (spare_ne hT (h3 k hk) hkt) _) k2, flag_in (by show (Y.th t).part ≠ 0; omega)⟩
  · obtain ⟨k1, k2, k3⟩ := own9s hT hp hw
    have hs : step P n cap E t = { E with rst := upd E.rst (E.th t).spare ((E.th t).now.bind fun v => (E.th t).frm.map fun f => (v, f)), th := upd E.th t ((E.th t).pass (wds n + 1) 10) } := by unfold step; simp only [hph, hw, if_false]
    have ho : over n cap Y t { Y.th t with left := 0 } = (Y.set t (RTh.enter n { Y.th t with left := 0 } 10), false) := by unfold over; simp only [hp]
    rw [hs, rstep_end rfl (by omega) k1, ho]
    exact ⟨inv_mk pb nf (view_of pb nf rfl (enter_flips _ _).1 (enter_flips _ _).2) h1 (h2.state hT.spc _) rfl rfl (fun k hk hkt => (h3 k hk).state (spare_ne hT (h3 k hk) hkt) _ k2) k3, flag_in (enter_part _ _ (by decide))⟩
theorem sim_10 (h : Inv P n cap E Y) (ht : t < n) (hp : (Y.th t).part = 10) : Stepped P n cap E Y t := by
  obtain ⟨pb, nf, h1, h2, h3⟩ := h
  have hT := h3 t ht
  have hph : (E.th t).phase = 10 := (hT.p2 (by omega)).trans hp
  obtain ⟨k1, k2, k3⟩ := own10 ht hT h2 hp
  have hst : (Y.th t).stamp = (E.th t).stamp := (hT.att (by omega) (by omega)).st
  unfold Stepped
  by_cases hs0 : (E.th t).stamp = Y.bs.length
  · obtain ⟨q1, q2, q3, q4, q5, q6⟩ := k3 hs0
    have hs : step P n cap E t = { E with pst := (E.th t).stamp + 1, prec := (E.th t).spare, th := upd E.th t (ETh.enter { E.th t with spare := (E.th t).kept, kept := (E.th t).spare, backoff := (E.th t).backoff / 2 } 11) } := by
      unfold step
      simp only [hph]
      rw [if_pos ⟨by rw [h1, hs0], q1.symm⟩]
    have ho : over n cap Y t { Y.th t with left := 0 } = ({ th := upd Y.th t (RTh.enter n { Y.th t with left := 0, pend := [], backoff := (Y.th t).backoff / 2 } 11), bs := Y.bs ++ [(E.th t).pend] }, false) := by
      unfold over
      simp only [hp]
      rw [if_pos (by rw [hst, hs0]), q2]
    rw [hs, rstep_end rfl (by omega) k1, ho]
    refine ⟨inv_mk (upd pb (E.th t).spare (Y.bs.length + 1)) nf (V' := (view E Y pb nf).publish (E.th t).spare (E.th t).pend) (view_of _ nf rfl (enter_flips _ _).1 (enter_flips _ _).2) (by simp [hs0]) q4 rfl rfl (fun k hk hkt => (h3 k hk).publish q5 h2 (spare_ne hT (h3 k hk) hkt)) q6, ?_⟩
    show false = decide ((upd Y.th t _ t).part = 0)
    rw [upd_same]
    have := enter_part (n := n) { Y.th t with left := 0, pend := [], backoff := (Y.th t).backoff / 2 } 11 (by decide)
    simp [this]
  · have hs : step P n cap E t = { E with th := upd E.th t ((E.th t).fail cap) } := by
      unfold step
      simp only [hph]
      rw [if_neg (by rintro ⟨q, -⟩; rw [h1] at q; exact hs0 q.symm)]
    have ho : over n cap Y t { Y.th t with left := 0 } = (Y.set t (RTh.fail n cap { Y.th t with left := 0 }), false) := by
      unfold over
      simp only [hp]
      rw [if_neg (by rw [hst]; exact fun q => hs0 q.symm)]
    rw [hs, rstep_end rfl (by omega) k1, ho]
    exact ⟨inv_mk pb nf (view_of pb nf rfl (fail_flips _).1 (fail_flips _).2) h1 h2 rfl rfl (fun k hk _ => h3 k hk) (k2 hs0), flag_in (fail_part _)⟩
theorem sim_11 (h : Inv P n cap E Y) (ht : t < n) (hp : (Y.th t).part = 11) : Stepped P n cap E Y t := by
  obtain ⟨pb, nf, h1, h2, h3⟩ := h
  have hT := h3 t ht
  obtain ⟨l1, l2, l3⟩ := hT.p4 hp
  obtain ⟨k1, k2, k3⟩ := own11 ht hT h2 hp
  unfold Stepped
  rcases (by omega : (Y.th t).left = 3 ∨ (Y.th t).left = 2 ∨ (Y.th t).left = 1) with hl | hl | hl
  · have hph : (E.th t).phase = 11 := by rw [l3, hl]
    have hs : step P n cap E t = { E with th := upd E.th t (ETh.enter { E.th t with found := E.prec } 12) } := by unfold step; simp only [hph]
    rw [hs, rstep_in rfl (by omega) (by omega)]
    exact ⟨inv_mk pb nf (view_of pb nf rfl rfl rfl) h1 h2 rfl rfl (fun k hk _ => h3 k hk) (k1 hl), flag_in (by show (Y.th t).part ≠ 0; omega)⟩
  · have hph : (E.th t).phase = 12 := by rw [l3, hl]
    have hs : step P n cap E t = { E with th := upd E.th t (ETh.enter { E.th t with sta := E.rw (E.th t).found (statusAt n t) } 13) } := by unfold step; simp only [hph]
    rw [hs, rstep_in rfl (by omega) (by omega)]
    exact ⟨inv_mk pb nf (view_of pb nf rfl rfl rfl) h1 h2 rfl rfl (fun k hk _ => h3 k hk) (k2 hl), flag_in (by show (Y.th t).part ≠ 0; omega)⟩
  · have hph : (E.th t).phase = 13 := by rw [l3, hl]
    have hs : step P n cap E t = { E with th := upd E.th t (ETh.enter { E.th t with val := E.rw (E.th t).found (valueAt n t), ended := true } 0) } := by unfold step; simp only [hph]
    have ho : over n cap Y t { Y.th t with left := 0 } = (Y.set t { Y.th t with left := 0, part := 0, ended := (Y.th t).ended + 1 }, true) := by unfold over; simp only [hp]
    rw [hs, rstep_end rfl (by omega) hl, ho]
    refine ⟨inv_mk pb nf (view_of pb nf rfl rfl rfl) h1 h2 rfl rfl (fun k hk _ => h3 k hk) (k3 hl), ?_⟩
    show true = decide ((upd Y.th t _ t).part = 0)
    rw [upd_same]
    rfl
theorem sim_step (hn : 0 < n) (h : Inv P n cap E Y) (ht : t < n) (hb : (Y.th t).part ≠ 0) : Stepped P n cap E Y t := by
  have h11 : (Y.th t).part ≤ 11 := by obtain ⟨pb, nf, -, -, h3⟩ := h; exact (h3 t ht).p1
  rcases (by omega : (Y.th t).part = 1 ∨ (Y.th t).part = 2 ∨ (Y.th t).part = 3 ∨ (Y.th t).part = 4 ∨ (Y.th t).part = 5 ∨ (Y.th t).part = 6 ∨ (Y.th t).part = 7 ∨ (Y.th t).part = 8 ∨ (Y.th t).part = 9 ∨ (Y.th t).part = 10 ∨ (Y.th t).part = 11) with q | q | q | q | q | q | q | q | q | q | q
  · exact sim_1 h ht q
  · exact sim_2 h ht q
  · exact sim_3 h ht q
  · exact sim_4 h ht q
  · exact sim_5 hn h ht q
  · exact sim_6 h ht q
  · exact sim_7 h ht q
  · exact sim_8 h ht q
  · exact sim_9 h ht q
  · exact sim_10 h ht q
  · exact sim_11 h ht q
end
end Go.Proofs.YtefjhnhdagolhaaGreat.M
namespace Go.Proofs.YtefjhnhdagolhaaGreat.M
section
variable {σ : Type} {P : Plain σ} {n cap : Nat} {E : ESt σ} {Y : RSt} {t : Nat}
structure Bnd (n : Nat) (E : ESt σ) : Prop where
  pr : E.prec < 2 * n + 1
  th : ∀ t, t < n → (E.th t).srec < 2 * n + 1 ∧ (E.th t).found < 2 * n + 1 ∧ (E.th t).stamp ≤ E.pst
theorem Bnd.upd {E' : ESt σ} {e' : ETh σ} (h : Bnd n E) (hp : E'.prec = E.prec) (hs : E.pst ≤ E'.pst) (ht : E'.th = M.upd E.th t e') (h1 : e'.srec < 2 * n + 1) (h2 : e'.found < 2 * n + 1) (h3 : e'.stamp ≤ E'.pst) : Bnd n E' := by
  refine ⟨by rw [hp]; exact h.pr, fun u hu => ?_⟩
  rw [ht]
  by_cases q : u = t
  · subst q; rw [upd_same]; exact ⟨h1, h2, h3⟩
  · rw [upd_other _ _ q]
    obtain ⟨a, b, c⟩ := h.th u hu
    exact ⟨a, b, Nat.le_trans c hs⟩
theorem pass_bnd (e : ETh σ) (s p : Nat) : (e.pass s p).srec = e.srec ∧ (e.pass s p).found = e.found ∧ (e.pass s p).stamp = e.stamp := by unfold ETh.pass; split <;> exact ⟨rfl, rfl, rfl⟩
theorem approach_bnd (e : ETh σ) : e.approach.srec = e.srec ∧ e.approach.found = e.found ∧ e.approach.stamp = e.stamp := by unfold ETh.approach; split <;> exact ⟨rfl, rfl, rfl⟩
theorem fail_bnd (e : ETh σ) (cap : Nat) : (e.fail cap).srec = e.srec ∧ (e.fail cap).found = e.found ∧ (e.fail cap).stamp = e.stamp := by
  unfold ETh.fail
  split
  · exact ⟨rfl, rfl, rfl⟩
  · exact approach_bnd _
theorem apply_bnd (P : Plain σ) (n : Nat) (e : ETh σ) (k : Nat) : (e.apply P n k).srec = e.srec ∧ (e.apply P n k).found = e.found ∧ (e.apply P n k).stamp = e.stamp := by unfold ETh.apply; split <;> exact ⟨rfl, rfl, rfl⟩
theorem Bnd.step (h : Bnd n E) (ht : t < n) (hsp : (E.th t).spare < 2 * n + 1) : Bnd n (M.step P n cap E t) := by
  obtain ⟨b1, b2, b3⟩ := h.th t ht
  unfold M.step
  dsimp only
  split
  · exact h.upd rfl (Nat.le_refl _) rfl (by rw [(pass_bnd _ _ _).1]; exact b1) (by rw [(pass_bnd _ _ _).2.1]; exact b2) (by rw [(pass_bnd _ _ _).2.2]; exact b3)
  · exact h.upd rfl (Nat.le_refl _) rfl (by rw [(approach_bnd _).1]; exact b1) (by rw [(approach_bnd _).2.1]; exact b2) (by rw [(approach_bnd _).2.2]; exact b3)
  · exact h.upd rfl (Nat.le_refl _) rfl (by rw [(pass_bnd _ _ _).1]; exact b1) (by rw [(pass_bnd _ _ _).2.1]; exact b2) (by rw [(pass_bnd _ _ _).2.2]; exact b3)
  · exact h.upd rfl (Nat.le_refl _) rfl h.pr b2 (Nat.le_refl _)
  · refine h.upd rfl (Nat.le_refl _) rfl (by rw [(pass_bnd _ _ _).1]; split <;> exact b1) (by rw [(pass_bnd _ _ _).2.1]; split <;> exact b2) (by rw [(pass_bnd _ _ _).2.2]; split <;> exact b3)
  · exact h.upd rfl (Nat.le_refl _) rfl (by rw [(pass_bnd _ _ _).1]; exact b1) (by rw [(pass_bnd _ _ _).2.1]; exact b2) (by rw [(pass_bnd _ _ _).2.2]; exact b3)
  · refine h.upd rfl (Nat.le_refl _) rfl ?_ ?_ ?_
    · split
      · exact b1
      · rw [(fail_bnd _ _).1]; exact b1
    · split
      · exact b2
      · rw [(fail_bnd _ _).2.1]; exact b2
    · split
      · exact b3
      · rw [(fail_bnd _ _).2.2]; exact b3
  · refine h.upd rfl (Nat.le_refl _) rfl ?_ ?_ ?_
    · rw [(pass_bnd _ _ _).1]
      split <;> split <;> first | exact b1 | (rw [(apply_bnd _ _ _ _).1]; exact b1) | (show ((ETh.apply P n _ _).srec < _); rw [(apply_bnd _ _ _ _).1]; exact b1)
    · rw [(pass_bnd _ _ _).2.1]
      split <;> split <;> first | exact b2 | (rw [(apply_bnd _ _ _ _).2.1]; exact b2) | (show ((ETh.apply P n _ _).found < _); rw [(apply_bnd _ _ _ _).2.1]; exact b2)
    · rw [(pass_bnd _ _ _).2.2]
      split <;> split <;> first | exact b3 | (rw [(apply_bnd _ _ _ _).2.2]; exact b3) | (show ((ETh.apply P n _ _).stamp ≤ _); rw [(apply_bnd _ _ _ _).2.2]; exact b3)
  · split
    · exact h.upd rfl (Nat.le_refl _) rfl (by rw [(pass_bnd _ _ _).1]; exact b1) (by rw [(pass_bnd _ _ _).2.1]; exact b2) (by rw [(pass_bnd _ _ _).2.2]; exact b3)
    · exact h.upd rfl (Nat.le_refl _) rfl (by rw [(pass_bnd _ _ _).1]; exact b1) (by rw [(pass_bnd _ _ _).2.1]; exact b2) (by rw [(pass_bnd _ _ _).2.2]; exact b3)
  · split
    · rename_i q
      refine ⟨hsp, fun u hu => ?_⟩
      show ((M.upd E.th t _ u).srec < _) ∧ ((M.upd E.th t _ u).found < _) ∧ ((M.upd E.th t _ u).stamp ≤ (E.th t).stamp + 1)
      by_cases c : u = t
      · subst c; rw [upd_same]; exact ⟨b1, b2, Nat.le_succ _⟩
      · rw [upd_other _ _ c]
        obtain ⟨a1, a2, a3⟩ := h.th u hu
        exact ⟨a1, a2, by omega⟩
    · exact h.upd rfl (Nat.le_refl _) rfl (by rw [(fail_bnd _ _).1]; exact b1) (by rw [(fail_bnd _ _).2.1]; exact b2) (by rw [(fail_bnd _ _).2.2]; exact b3)
  · exact h.upd rfl (Nat.le_refl _) rfl b1 h.pr b3
  · exact h.upd rfl (Nat.le_refl _) rfl b1 b2 b3
  · exact h.upd rfl (Nat.le_refl _) rfl b1 b2 b3
  · exact h
theorem Bnd.begin (h : Bnd n E) (ht : t < n) (o : Op) : Bnd n (M.begin E t o) := by
  obtain ⟨b1, b2, b3⟩ := h.th t ht
  exact h.upd rfl (Nat.le_refl _) rfl b1 b2 b3
end
end Go.Proofs.YtefjhnhdagolhaaGreat.M
namespace Go.Proofs.YtefjhnhdagolhaaGreat.M
section
variable {σ : Type}
def E0 (P : Plain σ) (f : Ver σ) : ESt σ :=
  { togs := fun _ => 0, ann := fun _ _ => 0, rw := fun _ _ => 0, rst := fun r => if r = 0 then some (⟨P.first, []⟩, f) else none, pst := 0, prec := 0
    th := fun t => { phase := 0, past := 0, op := ⟨0, 0, 0⟩, toggle := false, backoff := 0, again := false, spare := 2 * t + 1, kept := 2 * t + 2, stamp := 0, srec := 0, dw := fun _ => 0, now := none, frm := none, tg := fun _ => 0, pend := [], heard := fun _ => 0, found := 0, sta := 0, val := 0, ended := false } }
def Y0 : RSt := { th := fun _ => { ops := [], ended := 0, flips := 0, part := 0, left := 0, backoff := 0, tries := 0, stamp := 0, flipped := fun _ => 0, pend := [] }, bs := [] }
theorem bits_zero (n w : Nat) : bits n (fun _ => 0) w = 0 := by
  have : ∀ m, val (dig n (fun _ => 0) w) m = 0 := by
    intro m
    induction m with
    | zero => rfl
    | succ m ih =>
      have hd : dig n (fun _ => 0) w m = 0 := by unfold dig; split <;> rfl
      simp [val, ih, hd]
  unfold bits
  rw [this]
  rfl
theorem inv_new (P : Plain σ) (n cap : Nat) (f : Ver σ) : Inv P n cap (E0 P f) Y0 := by
  refine ⟨fun _ => 0, fun _ => 0, rfl, ?_, fun t ht => ?_⟩
  · exact { fl := fun t _ => ⟨Nat.le_refl _, Nat.zero_le _⟩, opl := fun t _ => Nat.le_refl _, pnd := fun t _ h => absurd h (Nat.lt_irrefl _), mem := fun b hb => absurd hb List.not_mem_nil, togs := fun w _ => (bits_zero n w).symm, curW := fun w _ => (bits_zero n w).symm, curA := fun t _ => ⟨rfl, rfl⟩, curS := ⟨f, rfl⟩, recs := fun r t _ _ => ⟨rfl, rfl⟩, pbN := fun _ => Nat.le_refl _, pbc := rfl, nfN := fun _ => Nat.le_refl _, help := fun t _ h => absurd h (by show ¬ (0 + 2 ≤ 0); decide) }
  · have h0 : (Y0.th t).part = 0 := rfl
    exact { p1 := by rw [h0]; decide, p2 := fun _ => rfl, p3 := fun h => absurd h0 h, p4 := fun h => by rw [h0] at h; exact absurd h (by decide), xo := rfl, xf := rfl, bk := rfl, bc := Nat.zero_le _, ag := fun h => absurd h0 h, tog := rfl, eop := fun h => absurd h0 h, c0 := fun _ => ⟨rfl, rfl, rfl⟩, c1 := fun h => by rw [h0] at h; omega, c3 := fun h => by rw [h0] at h; omega, c11 := fun h => by rw [h0] at h; omega, an1 := fun h => by rw [h0] at h; omega, an2 := fun h => by rw [h0] at h; omega, sp := .inl ⟨rfl, rfl⟩, spc := Nat.succ_ne_zero _, en := rfl, a0 := fun _ h => absurd h (Nat.lt_irrefl _), a1 := fun h => by rw [h0] at h; omega, fd := fun h => by rw [h0] at h; omega, t0 := fun h => by rw [h0] at h; omega, tr := fun h => by rw [h0] at h; omega, tn := fun h => by rw [h0] at h; omega, s1 := fun h => by rw [h0] at h; omega, d5 := fun h => by rw [h0] at h; omega, d6 := fun h => by rw [h0] at h; omega, d7 := fun h => by rw [h0] at h; omega, t6 := fun h => by rw [h0] at h; omega, t7 := fun h => by rw [h0] at h; omega, h8 := fun h => by rw [h0] at h; omega, h8n := fun h => by rw [h0] at h; omega, h9 := fun h => by rw [h0] at h; omega, w9 := fun h => by rw [h0] at h; omega, w10 := fun h => by rw [h0] at h; omega }
theorem bnd_new (P : Plain σ) (n : Nat) (f : Ver σ) : Bnd n (E0 P f) := ⟨Nat.succ_pos _, fun _ _ => ⟨Nat.succ_pos _, Nat.succ_pos _, Nat.le_refl _⟩⟩
end
end Go.Proofs.YtefjhnhdagolhaaGreat.M
namespace Go.Proofs.YtefjhnhdagolhaaGreat.M
def YI {σ : Type} (P : Plain σ) (n cap : Nat) (Y : RSt) : Prop := ∃ E, Inv P n cap E Y
section
variable {σ : Type} {P : Plain σ} {n cap : Nat} {Y : RSt} {t : Nat}
theorem YI.ok (h : YI P n cap Y) : YOk n cap Y := by obtain ⟨E, h⟩ := h; exact h.yok
theorem YI.step (hn : 0 < n) (h : YI P n cap Y) (ht : t < n) (hp : (Y.th t).part ≠ 0) : YI P n cap (rstep n cap Y t).1 := by
  obtain ⟨E, h⟩ := h
  exact ⟨_, (sim_step hn h ht hp).1⟩
theorem YI.begin (h : YI P n cap Y) (ht : t < n) (hp : (Y.th t).part = 0) (o : Op) : YI P n cap (rbegin Y t o) := by
  obtain ⟨E, h⟩ := h
  exact ⟨_, sim_begin h ht hp o⟩
theorem YI.new (P : Plain σ) (n cap : Nat) : YI P n cap Y0 := ⟨_, inv_new P n cap ⟨P.first, []⟩⟩
theorem YI.word (hn : 0 < n) (h : YI P n cap Y) (ht : t < n) (hp : (Y.th t).part ≠ 0) : (rstep n cap Y t).2 = decide (((rstep n cap Y t).1.th t).part = 0) := by
  obtain ⟨E, h⟩ := h
  exact (sim_step hn h ht hp).2
end
theorem fail_ops (n cap : Nat) (x : RTh) : (x.fail n cap).ops = x.ops := by
  unfold RTh.fail
  split <;> rw [(enter_keeps _ _ _).1]
theorem over_bs (n cap : Nat) (Y : RSt) (t : Nat) (x : RTh) : (over n cap Y t x).1.bs.length ≤ Y.bs.length + 1 ∧ Y.bs.length ≤ (over n cap Y t x).1.bs.length := by
  unfold over
  split <;> (try split) <;> simp [RSt.set]
theorem over_ops (n cap : Nat) (Y : RSt) (t : Nat) (x : RTh) (k : Nat) : ((over n cap Y t x).1.th k).ops = if k = t then x.ops else (Y.th k).ops := by
  by_cases e : k = t
  · subst e
    rw [if_pos rfl]
    unfold over
    split <;> (try split) <;> simp only [RSt.set, upd_same, (enter_keeps _ _ _).1, fail_ops]
  · rw [if_neg e]
    unfold over
    split <;> (try split) <;> simp only [RSt.set, upd_other _ _ e]
theorem rstep_bs (n cap : Nat) (Y : RSt) (t : Nat) : (rstep n cap Y t).1.bs.length ≤ Y.bs.length + 1 ∧ Y.bs.length ≤ (rstep n cap Y t).1.bs.length := by
  unfold rstep
  dsimp only
  split
  · exact ⟨Nat.le_succ _, Nat.le_refl _⟩
  · exact over_bs _ _ _ _ _
theorem rstep_ops (n cap : Nat) (Y : RSt) (t k : Nat) : ((rstep n cap Y t).1.th k).ops = (Y.th k).ops := by
  unfold rstep
  dsimp only
  split
  · simp only [RSt.set]
    by_cases e : k = t
    · subst e; rw [upd_same]
    · rw [upd_other _ _ e]
  · rw [over_ops]
    by_cases e : k = t
    · subst e; rw [if_pos rfl]
    · rw [if_neg e]
def doneOf (n cap t : Nat) : Nat → RSt → RSt
  | 0, Y => Y
  | f + 1, Y => if (Y.th t).part = 0 then Y else doneOf n cap t f (rstep n cap Y t).1
section
variable {σ : Type} {P : Plain σ} {n cap : Nat} {t : Nat}
theorem rank_pos {Y : RSt} (h : TOk n cap (Y.th t)) (hp : (Y.th t).part ≠ 0) : 0 < (Y.th t).rank n cap := by
  have := (h.p2 hp).1
  unfold RTh.rank
  rw [if_neg hp]
  omega
theorem doneOf_more (hn : 0 < n) (ht : t < n) : ∀ (f f' : Nat) (Y : RSt), YI P n cap Y → (Y.th t).rank n cap ≤ f → (Y.th t).rank n cap ≤ f' → doneOf n cap t f Y = doneOf n cap t f' Y
  | 0, f', Y, h, h1, _ => by
    have hp : (Y.th t).part = 0 := by
      by_cases hp : (Y.th t).part = 0
      · exact hp
      · have := rank_pos (h.ok.th t ht) hp; omega
    cases f' with
    | zero => rfl
    | succ f' => simp only [doneOf, if_pos hp]
  | f + 1, 0, Y, h, _, h2 => by
    have hp : (Y.th t).part = 0 := by
      by_cases hp : (Y.th t).part = 0
      · exact hp
      · have := rank_pos (h.ok.th t ht) hp; omega
    simp only [doneOf, if_pos hp]
  | f + 1, f' + 1, Y, h, h1, h2 => by
    simp only [doneOf]
    by_cases hp : (Y.th t).part = 0
    · rw [if_pos hp, if_pos hp]
    · rw [if_neg hp, if_neg hp]
      have := rank_step hn (h.ok.th t ht) hp
      exact doneOf_more hn ht f f' _ (h.step hn ht hp) (by omega) (by omega)
def fin (n cap t : Nat) (Y : RSt) : RSt := doneOf n cap t 100000 Y
theorem fin_step (hn : 0 < n) (ht : t < n) {Y : RSt} (h : YI P n cap Y) (hr : (Y.th t).rank n cap ≤ 90000) (hp : (Y.th t).part ≠ 0) : fin n cap t (rstep n cap Y t).1 = fin n cap t Y := by
  have := rank_step hn (h.ok.th t ht) hp
  obtain ⟨f, hf, hf2⟩ : ∃ f, 100000 = f + 1 ∧ 90000 ≤ f := ⟨99999, rfl, by decide⟩
  unfold fin
  rw [hf]
  have e : doneOf n cap t (f + 1) Y = doneOf n cap t f (rstep n cap Y t).1 := by simp only [doneOf, if_neg hp]
  rw [e]
  exact doneOf_more (P := P) hn ht (f + 1) f _ (h.step hn ht hp) (by omega) (by omega)
theorem fin_idle {Y : RSt} (hp : (Y.th t).part = 0) : fin n cap t Y = Y := by
  obtain ⟨f, hf⟩ : ∃ f, 100000 = f + 1 := ⟨99999, rfl⟩
  unfold fin
  rw [hf]
  simp only [doneOf, if_pos hp]
theorem rank_begin (n cap : Nat) (Y : RSt) (t : Nat) (o : Op) : ((rbegin Y t o).th t).rank n cap = bound n cap := by
  unfold rbegin RSt.set
  simp [upd_same, RTh.rank, after, bound]
  omega
theorem bound_le {n cap : Nat} (hn : n ≤ 64) (hc : cap ≤ 64) : bound n cap ≤ 2000 := by
  unfold bound att wds tw
  omega
theorem length_counts (n B : Nat) : ∀ l : List Nat, (∀ k ∈ l, k < n) → (∀ k, k < n → l.count k ≤ B) → l.length ≤ n * B := by
  induction n with
  | zero =>
    intro l h _
    cases l with
    | nil => simp
    | cons a l => exact absurd (h a List.mem_cons_self) (Nat.not_lt_zero _)
  | succ n ih =>
    intro l h1 h2
    have e : l.length = (l.filter fun k => decide (k ≠ n)).length + l.count n := by
      have : ∀ l : List Nat, l.length = (l.filter fun k => decide (k ≠ n)).length + l.count n := by
        intro l
        induction l with
        | nil => rfl
        | cons a l ih =>
          by_cases q : a = n
          · subst q
            simp only [ne_eq, not_true_eq_false, decide_false, List.filter_cons, Bool.false_eq_true, if_false, List.length_cons, List.count_cons_self]
            simp only [ne_eq] at ih
            omega
          · simp only [ne_eq, List.filter_cons, q, not_false_eq_true, decide_true, if_true, List.length_cons, List.count_cons, beq_iff_eq, if_false]
            simp only [ne_eq] at ih
            omega
      exact this l
    have h3 := ih (l.filter fun k => decide (k ≠ n)) (fun k hk => by
      obtain ⟨q1, q2⟩ := List.mem_filter.1 hk
      have := h1 k q1
      have : k ≠ n := by simpa using q2
      omega) (fun k hk => Nat.le_trans (List.Sublist.count_le _ List.filter_sublist) (h2 k (by omega)))
    have h4 := h2 n (Nat.lt_succ_self _)
    rw [e, Nat.succ_mul]
    omega
theorem YI.all {Y : RSt} (h : YI P n cap Y) (hn : n ≤ 64) {B : Nat} (hB : ∀ t, t < n → (Y.th t).ops.length ≤ B) : Y.bs.flatten.length ≤ 64 * B := by
  have := length_counts n B Y.bs.flatten (fun k hk => by obtain ⟨b, h1, h2⟩ := List.mem_flatten.1 hk; exact h.ok.mem b h1 k h2) (fun k hk => Nat.le_trans (h.ok.ops k hk) (hB k hk))
  exact Nat.le_trans this (Nat.mul_le_mul_right _ hn)
end
end Go.Proofs.YtefjhnhdagolhaaGreat.M
namespace Go.Proofs.YtefjhnhdagolhaaGreat
open Go.RowKit
attribute [local go_sem ↓] Go.wp_at_zero Go.wp_at_succ
set_option maxHeartbeats 400000 in
theorem wordRead (b o : Nat) (x : Int) (w : World) (hc : w.cell? ⟨b, o, none⟩ = some (.int .i64 x)) :
    Calls Tryz.prog 225 #[.pointer (some ⟨b, o, none⟩)] w fun e w' => e = .returned (.int .i64 x) ∧ w' = w := by
  have HC := hide hc
  clear hc
  go_enter Tryz.func225, Tryz.ntmps225
  go_wp2_with fail
  refine (int64Load b o x _ HC.out).mono ?_
  rintro e w1 ⟨rfl, rfl⟩
  go_wp2_with fail
  go_ret
  exact ⟨rfl, rfl⟩
set_option maxHeartbeats 400000 in
theorem int64Store (b o : Nat) (u : Value) (y : Int) (w : World) (hc : w.cell? ⟨b, o, none⟩ = some u) (hz : w.frozen? ⟨b, o, none⟩ = false) :
    Calls Tryz.prog 240 #[.pointer (some ⟨b, o, none⟩), .int .i64 y] w fun e w' => e = .returned (.tuple #[]) ∧ w' = w.setCell ⟨b, o, none⟩ (.int .i64 y) := by
  have hst := run_call_store (P := Tryz.prog) Tryz.func247 (by kernel_rfl) (by kernel_rfl) (by kernel_rfl) (by kernel_rfl) (k := .i64) (y := y) hc hz
  clear hc hz
  go_enter Tryz.func240, Tryz.ntmps240
  go_wp2
  exact bodyPost_end (v := .tuple #[]) (by simp [results, Tryz.results240, go_sem]) rfl ⟨rfl, rfl⟩
set_option maxHeartbeats 400000 in
theorem wordWrite (b o : Nat) (u : Value) (y : Int) (w : World) (hc : w.cell? ⟨b, o, none⟩ = some u) (hz : w.frozen? ⟨b, o, none⟩ = false) :
    Calls Tryz.prog 219 #[.pointer (some ⟨b, o, none⟩), .int .i64 y] w fun e w' => e = .returned (.tuple #[]) ∧ w' = w.setCell ⟨b, o, none⟩ (.int .i64 y) := by
  have HC := hide (And.intro hc hz)
  clear hc hz
  go_enter Tryz.func219, Tryz.ntmps219
  go_wp2_with fail
  refine (int64Store b o u y _ HC.out.1 HC.out.2).mono ?_
  rintro e w1 ⟨rfl, rfl⟩
  go_wp2_with fail
  exact bodyPost_end (v := .tuple #[]) (by simp [results, Tryz.results219, go_sem]) rfl ⟨rfl, rfl⟩
set_option maxHeartbeats 400000 in
theorem int64Add (b o : Nat) (x y : Int) (w : World) (hc : w.cell? ⟨b, o, none⟩ = some (.int .i64 x)) (hz : w.frozen? ⟨b, o, none⟩ = false) (h0 : -9223372036854775808 ≤ x + y) (h1 : x + y ≤ 9223372036854775807) :
    Calls Tryz.prog 221 #[.pointer (some ⟨b, o, none⟩), .int .i64 y] w fun e w' => e = .returned (.int .i64 (x + y)) ∧ w' = w.setCell ⟨b, o, none⟩ (.int .i64 (x + y)) := by
  have hst := run_call_add (P := Tryz.prog) Tryz.func241 (by kernel_rfl) (by kernel_rfl) (by kernel_rfl) .i64 (by kernel_rfl) (y := y) (s := x + y) hc hz (by simp [Op.intArith, wrapi (x + y) h0 h1])
  clear hc hz h0 h1
  go_enter Tryz.func221, Tryz.ntmps221
  go_wp2
  go_ret
  exact ⟨rfl, rfl⟩
theorem pow_bit (t : Nat) : Go.RowKit.wrap64 ((2 : Int) ^ (t % 16)) = ((2 ^ (t % 16) : Nat) : Int) := by
  have h : 2 ^ (t % 16) ≤ 2 ^ 15 := Nat.pow_le_pow_right (by decide) (by omega)
  have e : (2 : Int) ^ (t % 16) = ((2 ^ (t % 16) : Nat) : Int) := by push_cast; rfl
  rw [e]
  generalize 2 ^ (t % 16) = m at h ⊢
  unfold Go.RowKit.wrap64
  omega
set_option maxHeartbeats 400000 in
theorem toggleAt_any (t : Nat) (w : World) (ht : t < 64) :
    Calls Tryz.prog 220 #[.int .i64 (t : Int)] w fun e w' => e = .returned (.tuple #[.int .i64 ((t / 16 : Nat) : Int), .int .i64 ((2 ^ (t % 16) : Nat) : Int)]) ∧ ∃ k, w' = w.drewN k := by
  go_enter Tryz.func220, Tryz.ntmps220
  go_wp2
  go_quiet (fail)
  go_wp2
  rw [pow_bit]
  go_ret2
  exact ⟨rfl, nq, rfl⟩
theorem toggleAt_of (t q m : Nat) (w : World) (ht : t < 64) (hq : q = t / 16) (hm : m = 2 ^ (t % 16)) :
    Calls Tryz.prog 220 #[.int .i64 (t : Int)] w fun e w' => e = .returned (.tuple #[.int .i64 (q : Int), .int .i64 (m : Int)]) ∧ ∃ k, w' = w.drewN k := by
  subst hq
  subst hm
  exact toggleAt_any t w ht
set_option maxHeartbeats 400000 in
theorem pubNext (ps r : Nat) (x : Int) (w : World) (hx : x = (ps : Int) * 129 + (r : Int)) (hr : r < 129) (q : Nat) (hq : q < 129) (hp : ps ≤ 1000000000000) :
    Calls Tryz.prog 234 #[.int .i64 x, .int .i64 (q : Int)] w fun e w' => e = .returned (.int .i64 (((ps : Int) + 1) * 129 + (q : Int))) ∧ w' = w := by
  have h0 : 0 ≤ x := by omega
  have h1 : x ≤ 9223372036854775807 := by omega
  have hd := hide (show x / 129 = (ps : Int) by omega)
  clear hx
  go_enter Tryz.func234, Tryz.ntmps234
  go_wp2_with fail
  refine (pubStamp x _ h0 h1).mono ?_
  rintro e w1 ⟨rfl, rfl⟩
  rw [hd.out]
  go_wp2_with fail
  go_ret
  exact ⟨ret_int (by omega), rfl⟩
set_option maxHeartbeats 400000 in
theorem int64Cas_hit (b o : Nat) (x y : Int) (w : World) (hc : w.cell? ⟨b, o, none⟩ = some (.int .i64 x)) (hz : w.frozen? ⟨b, o, none⟩ = false) :
    Calls Tryz.prog 244 #[.pointer (some ⟨b, o, none⟩), .int .i64 x, .int .i64 y] w fun e w' => e = .returned (.bool true) ∧ w' = w.setCell ⟨b, o, none⟩ (.int .i64 y) := by
  have hst := run_call_cas_hit (P := Tryz.prog) Tryz.func248 (by kernel_rfl) (by kernel_rfl) (by kernel_rfl) .i64 (by kernel_rfl) (y := y) hc hz
  clear hc hz
  go_enter Tryz.func244, Tryz.ntmps244
  go_wp2
  go_ret
  exact ⟨rfl, rfl⟩
set_option maxHeartbeats 400000 in
theorem int64Cas_miss (b o : Nat) (x old y : Int) (w : World) (hc : w.cell? ⟨b, o, none⟩ = some (.int .i64 x)) (hz : w.frozen? ⟨b, o, none⟩ = false) (hne : ¬ x = old) :
    Calls Tryz.prog 244 #[.pointer (some ⟨b, o, none⟩), .int .i64 old, .int .i64 y] w fun e w' => e = .returned (.bool false) ∧ w' = w := by
  have hst := run_call_cas_miss (P := Tryz.prog) Tryz.func248 (by kernel_rfl) (by kernel_rfl) (by kernel_rfl) .i64 (by kernel_rfl) (y := y) hc hz hne
  clear hc hz
  go_enter Tryz.func244, Tryz.ntmps244
  go_wp2
  go_ret
  exact ⟨rfl, rfl⟩
set_option maxHeartbeats 400000 in
theorem pubReplace_hit (b o : Nat) (x y : Int) (w : World) (hc : w.cell? ⟨b, o, none⟩ = some (.int .i64 x)) (hz : w.frozen? ⟨b, o, none⟩ = false) :
    Calls Tryz.prog 233 #[.pointer (some ⟨b, o, none⟩), .int .i64 x, .int .i64 y] w fun e w' => e = .returned (.bool true) ∧ w' = w.setCell ⟨b, o, none⟩ (.int .i64 y) := by
  have HC := hide (And.intro hc hz)
  clear hc hz
  go_enter Tryz.func233, Tryz.ntmps233
  go_wp2_with fail
  refine (int64Cas_hit b o x y _ HC.out.1 HC.out.2).mono ?_
  rintro e w1 ⟨rfl, rfl⟩
  go_wp2_with fail
  go_ret
  exact ⟨rfl, rfl⟩
set_option maxHeartbeats 400000 in
theorem pubReplace_miss (b o : Nat) (x old y : Int) (w : World) (hc : w.cell? ⟨b, o, none⟩ = some (.int .i64 x)) (hz : w.frozen? ⟨b, o, none⟩ = false) (hne : ¬ x = old) :
    Calls Tryz.prog 233 #[.pointer (some ⟨b, o, none⟩), .int .i64 old, .int .i64 y] w fun e w' => e = .returned (.bool false) ∧ w' = w := by
  have HC := hide (And.intro hc (And.intro hz hne))
  clear hc hz hne
  go_enter Tryz.func233, Tryz.ntmps233
  go_wp2_with fail
  refine (int64Cas_miss b o x old y _ HC.out.1 HC.out.2.1 HC.out.2.2).mono ?_
  rintro e w1 ⟨rfl, rfl⟩
  go_wp2_with fail
  go_ret
  exact ⟨rfl, rfl⟩
set_option maxHeartbeats 400000 in
theorem statusAt_any (n t : Nat) (w : World) (h0 : 1 ≤ n) (h1 : n ≤ 64) (ht : t < n) :
    Calls Tryz.prog 236 #[.agg #[.int .i64 (n : Int)], .int .i64 (t : Int)] w fun e w' => e = .returned (.int .i64 ((M.statusAt n t : Nat) : Int)) ∧ Below w.heap.size w w' := by
  go_enter Tryz.func236, Tryz.ntmps236
  go_wp2_with fail
  refine (toggleWords_any (n : Int) _ (by omega) (by omega)).mono ?_
  rintro e w1 ⟨rfl, hb1⟩
  go_wp2_with fail
  go_ret
  exact ⟨ret_int (by unfold M.statusAt M.tw; omega), Below.next (below_alloc _ _) hb1 (by simp)⟩
set_option maxHeartbeats 800000 in
theorem valueAt_any (n t : Nat) (w : World) (h0 : 1 ≤ n) (h1 : n ≤ 64) (ht : t < n) :
    Calls Tryz.prog 237 #[.agg #[.int .i64 (n : Int)], .int .i64 (t : Int)] w fun e w' => e = .returned (.int .i64 ((M.valueAt n t : Nat) : Int)) ∧ Below w.heap.size w w' := by
  go_enter Tryz.func237, Tryz.ntmps237
  go_wp2
  go_region_with (first | (go_at_call 156; refine (toggleWords_any (n : Int) _ (by omega) (by omega)).mono ?_; rintro e w' ⟨rfl, hb⟩; obtain ⟨hc, hf⟩ := bcell hb; have hz := hb.size; simp at hz))
  all_goals go_wp2
  all_goals go_ret
  all_goals exact ⟨ret_int (by unfold M.valueAt M.tw; rw [wrapi (((n : Int) + 15) / 16 + (n : Int)) (by omega) (by omega), wrapi _ (by omega) (by omega)]; omega), (by repeat (first | exact Below.refl _ _ | refine Below.drewN ?_ _ | refine Below.drew ?_ | refine Below.alloc ?_ (by first | (simp; done) | (simp; omega)) _ | refine Below.next ?_ (by assumption) (by first | (simp; done) | (simp; omega))))⟩
end Go.Proofs.YtefjhnhdagolhaaGreat
namespace Go.Proofs.YtefjhnhdagolhaaGreat
open Go.RowKit
attribute [local go_sem ↓] Go.wp_at_zero Go.wp_at_succ
theorem and_pow (a i : Nat) : (a &&& 2 ^ i != 0) = decide (a / 2 ^ i % 2 = 1) := by
  rw [← Nat.testBit_eq_decide_div_mod_eq]
  cases h : a.testBit i with
  | true =>
    have h2 : (a &&& 2 ^ i).testBit i = true := by rw [Nat.testBit_and, h, Nat.testBit_two_pow]; simp
    rw [bne_iff_ne]
    intro q
    rw [q] at h2
    simp at h2
  | false =>
    have h2 : a &&& 2 ^ i = 0 := Nat.eq_of_testBit_eq fun j => by
      rw [Nat.testBit_and, Nat.testBit_two_pow, Nat.zero_testBit]
      by_cases q : i = j
      · subst q; simp [h]
      · simp [q]
    rw [h2]
    rfl
theorem bit_and (x : Int) (t m : Nat) (hm : m = 2 ^ (t % 16)) (h0 : 0 ≤ x) (h1 : x < 65536) : (bits .and .i64 x (m : Int) != 0) = decide ((x / 2 ^ (t % 16)) % 2 = 1) := by
  obtain ⟨a, rfl⟩ := Int.eq_ofNat_of_zero_le h0
  have hl : m ≤ 2 ^ 15 := by rw [hm]; exact Nat.pow_le_pow_right (by decide) (by omega)
  have h := (bits_nat .i64 63 (by decide) (fun n q1 q2 => wrapi n (by omega) (by omega)) a m (by omega) (by omega)).1
  rw [h]
  have e := and_pow a (t % 16)
  rw [← hm] at e
  have e2 : (((a &&& m : Nat) : Int) != 0) = (a &&& m != 0) := by
    generalize a &&& m = z
    rw [Bool.eq_iff_iff, bne_iff_ne, bne_iff_ne]
    omega
  rw [e2, e]
  have e3 : ((a : Int) / 2 ^ (t % 16)) % 2 = ((a / 2 ^ (t % 16) % 2 : Nat) : Int) := by push_cast; rfl
  rw [e3, hm]
  by_cases q : a / 2 ^ (t % 16) % 2 = 1
  · simp [q]
  · have : ¬ ((a / 2 ^ (t % 16) % 2 : Nat) : Int) = 1 := by omega
    simp only [q, this, decide_false]
set_option maxHeartbeats 1000000 in
theorem hasBit_w (b n c t : Nat) (x : Int) (w : World) (ht : t < 64) (hl : t / 16 < n) (hc : w.cell? ⟨b, t / 16, none⟩ = some (.int .i64 x)) (h0 : 0 ≤ x) (h1 : x < 65536) :
    Calls Tryz.prog 242 #[.slice (some ⟨b, 0, none⟩) n c, .int .i64 (t : Int)] w fun e w' => e = .returned (.bool (decide ((x / 2 ^ (t % 16)) % 2 = 1))) ∧ ∃ k, w' = w.drewN k := by
  obtain ⟨q, hq⟩ : ∃ q, q = t / 16 := ⟨_, rfl⟩
  obtain ⟨m, hm⟩ : ∃ m, m = 2 ^ (t % 16) := ⟨_, rfl⟩
  rw [← hq] at hl hc
  have HA := hide (And.intro hq hm)
  have hl' : (q : Int) < (n : Int) := by omega
  clear hq hm
  go_enter Tryz.func242, Tryz.ntmps242
  go_wp2_with fail
  refine (toggleAt_of t q m _ ht HA.out.1 HA.out.2).mono ?_
  rintro e w2 ⟨rfl, kk, rfl⟩
  go_wp2
  rw [bit_and x t m HA.out.2 h0 h1]
  go_ret
  exact ⟨rfl, kk, rfl⟩
end Go.Proofs.YtefjhnhdagolhaaGreat
