import Derived.Test.YtefjhnhdagolhaaGreatQ29
import Derived.Test.YtefjhnhdagolhaaGreatQ01
namespace Go.Proofs.YtefjhnhdagolhaaGreat.M
section
variable {σ : Type} {P : Plain σ} {n cap : Nat} {E : ESt σ} {Y : RSt} {t : Nat}
theorem sim_7 (h : Inv P n cap E Y) (ht : t < n) (hp : (Y.th t).part = 7) : Stepped P n cap E Y t := by
  obtain ⟨pb, nf, h1, h2, h3⟩ := h
  have hT := h3 t ht
  have hph : (E.th t).phase = 7 := (hT.p2 (by omega)).trans hp
  obtain ⟨k1, k2, k3⟩ := own7 ht hT h2 hp
  have hst : (Y.th t).stamp = (E.th t).stamp := (hT.att (by omega) (by omega)).st
  unfold Stepped
  by_cases hs0 : (E.th t).stamp = Y.bs.length
  · obtain ⟨q1, q2⟩ := k3 hs0 _ rfl
    have hpd : Y.pending n { Y.th t with left := 0 } = (List.range n).filter (fun k => decide (((Y.th t).flipped k + cnt Y.bs k) % 2 = 1)) := rfl
    have hs : step P n cap E t = { E with th := upd E.th t (ETh.enter { E.th t with pend := (List.range n).filter (fun k => decide (((Y.th t).flipped k + cnt Y.bs k) % 2 = 1)) } (if t ∈ (List.range n).filter (fun k => decide (((Y.th t).flipped k + cnt Y.bs k) % 2 = 1)) then 8 else 11)) } := by
      unfold step
      simp only [hph]
      rw [if_pos (by rw [h1, hs0]), q1]
      rfl
    have ho : over n cap Y t { Y.th t with left := 0 } = (Y.set t (RTh.enter n { Y.th t with left := 0, pend := (List.range n).filter (fun k => decide (((Y.th t).flipped k + cnt Y.bs k) % 2 = 1)) } (if t ∈ (List.range n).filter (fun k => decide (((Y.th t).flipped k + cnt Y.bs k) % 2 = 1)) then 8 else 11)), false) := by
      unfold over
      simp only [hp]
      rw [if_pos (by rw [hst, hs0])]
      rfl
    rw [hs, rstep_end rfl (by omega) k1, ho]
    exact ⟨inv_mk pb nf (view_of pb nf rfl (enter_flips _ _).1 (enter_flips _ _).2) h1 h2 rfl rfl (fun k hk _ => h3 k hk) q2, flag_in (enter_part _ _ (by split <;> decide))⟩
  · have hs : step P n cap E t = { E with th := upd E.th t ((E.th t).fail cap) } := by
      unfold step
      simp only [hph]
      rw [if_neg (by rw [h1]; exact fun q => hs0 q.symm)]
    have ho : over n cap Y t { Y.th t with left := 0 } = (Y.set t (RTh.fail n cap { Y.th t with left := 0 }), false) := by
      unfold over
      simp only [hp]
      rw [if_neg (by rw [hst]; exact fun q => hs0 q.symm)]
    rw [hs, rstep_end rfl (by omega) k1, ho]
    exact ⟨inv_mk pb nf (view_of pb nf rfl (fail_flips _).1 (fail_flips _).2) h1 h2 rfl rfl (fun k hk _ => h3 k hk) (k2 hs0), flag_in (fail_part _)⟩
theorem sim_8 (h : Inv P n cap E Y) (ht : t < n) (hp : (Y.th t).part = 8) : Stepped P n cap E Y t := by
  obtain ⟨pb, nf, h1, h2, h3⟩ := h
  have hT := h3 t ht
  have hph : (E.th t).phase = 8 := (hT.p2 (by omega)).trans hp
  obtain ⟨e3, he3⟩ : ∃ e3, e3 = (if (E.th t).past + 1 = 3 * (E.th t).pend.length then ETh.close n (if (E.th t).past % 3 = 2 then ETh.apply P n { E.th t with heard := upd (E.th t).heard ((E.th t).past % 3) (E.ann ((E.th t).pend.getD ((E.th t).past / 3) 0) ((E.th t).past % 3)) } ((E.th t).pend.getD ((E.th t).past / 3) 0) else { E.th t with heard := upd (E.th t).heard ((E.th t).past % 3) (E.ann ((E.th t).pend.getD ((E.th t).past / 3) 0) ((E.th t).past % 3)) }) else (if (E.th t).past % 3 = 2 then ETh.apply P n { E.th t with heard := upd (E.th t).heard ((E.th t).past % 3) (E.ann ((E.th t).pend.getD ((E.th t).past / 3) 0) ((E.th t).past % 3)) } ((E.th t).pend.getD ((E.th t).past / 3) 0) else { E.th t with heard := upd (E.th t).heard ((E.th t).past % 3) (E.ann ((E.th t).pend.getD ((E.th t).past / 3) 0) ((E.th t).past % 3)) })) := ⟨_, rfl⟩
  obtain ⟨-, k1, k2⟩ := own8 hT h2 hp e3 _ rfl he3
  obtain ⟨l1, l2⟩ := hT.p3 (by omega) (by omega)
  have hs : step P n cap E t = { E with th := upd E.th t (e3.pass (3 * (E.th t).pend.length) 9) } := by
    rw [he3]
    unfold step
    simp only [hph]
  unfold Stepped
  rw [hs]
  by_cases hl : 1 < (Y.th t).left
  · rw [rstep_in rfl (by omega) hl]
    exact ⟨inv_mk pb nf (view_of pb nf rfl rfl rfl) h1 h2 rfl rfl (fun k hk _ => h3 k hk) (k1 hl), flag_in (by show (Y.th t).part ≠ 0; omega)⟩
  · have hl1 : (Y.th t).left = 1 := by omega
    have ho : over n cap Y t { Y.th t with left := 0 } = (Y.set t (RTh.enter n { Y.th t with left := 0 } 9), false) := by unfold over; simp only [hp]
    rw [rstep_end rfl (by omega) hl1, ho]
    exact ⟨inv_mk pb nf (view_of pb nf rfl (enter_flips _ _).1 (enter_flips _ _).2) h1 h2 rfl rfl (fun k hk _ => h3 k hk) (k2 hl1), flag_in (enter_part _ _ (by decide))⟩
theorem spare_ne {V : View σ} {u : Nat} {e f : ETh σ} {x y : RTh} (h : Thr P n cap V t e x) (h' : Thr P n cap V u f y) (hu : u ≠ t) : f.spare ≠ e.spare := by
  rcases h.sp with ⟨a, b⟩ | ⟨a, b⟩ <;> rcases h'.sp with ⟨c, d⟩ | ⟨c, d⟩ <;> omega
theorem sim_9 (h : Inv P n cap E Y) (ht : t < n) (hp : (Y.th t).part = 9) : Stepped P n cap E Y t := by
  obtain ⟨pb, nf, h1, h2, h3⟩ := h
  have hT := h3 t ht
  have hph : (E.th t).phase = 9 := (hT.p2 (by omega)).trans hp
  unfold Stepped
  by_cases hw : (E.th t).past < wds n
  · obtain ⟨k1, k2⟩ := own9w hT hp hw
    have hs : step P n cap E t = { E with rw := upd E.rw (E.th t).spare (upd (E.rw (E.th t).spare) (E.th t).past ((E.th t).dw (E.th t).past)), th := upd E.th t ((E.th t).pass (wds n + 1) 10) } := by unfold step; simp only [hph, hw, if_true]
    rw [hs, rstep_in rfl (by omega) k1]
    exact ⟨inv_mk pb nf (view_of pb nf rfl rfl rfl) h1 (h2.word hT.spc (hT.att (by omega) (by omega)).spb (hT.d6 (by omega) (by omega)).1) rfl rfl (fun k hk hkt => (h3 k hk).word hT.spc (spare_ne hT (h3 k hk) hkt) _) k2, flag_in (by show (Y.th t).part ≠ 0; omega)⟩
  · obtain ⟨k1, k2, k3⟩ := own9s hT hp hw
    have hs : step P n cap E t = { E with rst := upd E.rst (E.th t).spare ((E.th t).now.bind fun v => (E.th t).frm.map fun f => (v, f)), th := upd E.th t ((E.th t).pass (wds n + 1) 10) } := by unfold step; simp only [hph, hw, if_false]
    have ho : over n cap Y t { Y.th t with left := 0 } = (Y.set t (RTh.enter n { Y.th t with left := 0 } 10), false) := by unfold over; simp only [hp]
    rw [hs, rstep_end rfl (by omega) k1, ho]
    exact ⟨inv_mk pb nf (view_of pb nf rfl (enter_flips _ _).1 (enter_flips _ _).2) h1 (h2.state hT.spc _) rfl rfl (fun k hk hkt => (h3 k hk).state (spare_ne hT (h3 k hk) hkt) _ k2) k3, flag_in (enter_part _ _ (by decide))⟩
theorem sim_10 (h : Inv P n cap E Y) (ht : t < n) (hp : (Y.th t).part = 10) : Stepped P n cap E Y t := by
  obtain ⟨pb, nf, h1, h2, h3⟩ := h
  have hT := h3 t ht
  have hph : (E.th t).phase = 10 := (hT.p2 (by omega)).trans hp
  obtain ⟨k1, k2, k3⟩ := own10 ht hT h2 hp
  have hst : (Y.th t).stamp = (E.th t).stamp := (hT.att (by omega) (by omega)).st
  unfold Stepped
  by_cases hs0 : (E.th t).stamp = Y.bs.length
  · obtain ⟨q1, q2, q3, q4, q5, q6⟩ := k3 hs0
    have hs : step P n cap E t = { E with pst := (E.th t).stamp + 1, prec := (E.th t).spare, th := upd E.th t (ETh.enter { E.th t with spare := (E.th t).kept, kept := (E.th t).spare, backoff := (E.th t).backoff / 2 } 11) } := by
      unfold step
      simp only [hph]
      rw [if_pos ⟨by rw [h1, hs0], q1.symm⟩]
    have ho : over n cap Y t { Y.th t with left := 0 } = ({ th := upd Y.th t (RTh.enter n { Y.th t with left := 0, pend := [], backoff := (Y.th t).backoff / 2 } 11), bs := Y.bs ++ [(E.th t).pend] }, false) := by
      unfold over
      simp only [hp]
      rw [if_pos (by rw [hst, hs0]), q2]
    rw [hs, rstep_end rfl (by omega) k1, ho]
    refine ⟨inv_mk (upd pb (E.th t).spare (Y.bs.length + 1)) nf (V' := (view E Y pb nf).publish (E.th t).spare (E.th t).pend) (view_of _ nf rfl (enter_flips _ _).1 (enter_flips _ _).2) (by simp [hs0]) q4 rfl rfl (fun k hk hkt => (h3 k hk).publish q5 h2 (spare_ne hT (h3 k hk) hkt)) q6, ?_⟩
    show false = decide ((upd Y.th t _ t).part = 0)
    rw [upd_same]
    have := enter_part (n := n) { Y.th t with left := 0, pend := [], backoff := (Y.th t).backoff / 2 } 11 (by decide)
    simp [this]
  · have hs : step P n cap E t = { E with th := upd E.th t ((E.th t).fail cap) } := by
      unfold step
      simp only [hph]
      rw [if_neg (by rintro ⟨q, -⟩; rw [h1] at q; exact hs0 q.symm)]
    have ho : over n cap Y t { Y.th t with left := 0 } = (Y.set t (RTh.fail n cap { Y.th t with left := 0 }), false) := by
      unfold over
      simp only [hp]
      rw [if_neg (by rw [hst]; exact fun q => hs0 q.symm)]
    rw [hs, rstep_end rfl (by omega) k1, ho]
    exact ⟨inv_mk pb nf (view_of pb nf rfl (fail_flips _).1 (fail_flips _).2) h1 h2 rfl rfl (fun k hk _ => h3 k hk) (k2 hs0), flag_in (fail_part _)⟩
theorem sim_11 (h : Inv P n cap E Y) (ht : t < n) (hp : (Y.th t).part = 11) : Stepped P n cap E Y t := by
  obtain ⟨pb, nf, h1, h2, h3⟩ := h
  have hT := h3 t ht
  obtain ⟨l1, l2, l3⟩ := hT.p4 hp
  obtain ⟨k1, k2, k3⟩ := own11 ht hT h2 hp
  unfold Stepped
  rcases (by omega : (Y.th t).left = 3 ∨ (Y.th t).left = 2 ∨ (Y.th t).left = 1) with hl | hl | hl
  · have hph : (E.th t).phase = 11 := by rw [l3, hl]
    have hs : step P n cap E t = { E with th := upd E.th t (ETh.enter { E.th t with found := E.prec } 12) } := by unfold step; simp only [hph]
    rw [hs, rstep_in rfl (by omega) (by omega)]
    exact ⟨inv_mk pb nf (view_of pb nf rfl rfl rfl) h1 h2 rfl rfl (fun k hk _ => h3 k hk) (k1 hl), flag_in (by show (Y.th t).part ≠ 0; omega)⟩
  · have hph : (E.th t).phase = 12 := by rw [l3, hl]
    have hs : step P n cap E t = { E with th := upd E.th t (ETh.enter { E.th t with sta := E.rw (E.th t).found (statusAt n t) } 13) } := by unfold step; simp only [hph]
    rw [hs, rstep_in rfl (by omega) (by omega)]
    exact ⟨inv_mk pb nf (view_of pb nf rfl rfl rfl) h1 h2 rfl rfl (fun k hk _ => h3 k hk) (k2 hl), flag_in (by show (Y.th t).part ≠ 0; omega)⟩
  · have hph : (E.th t).phase = 13 := by rw [l3, hl]
    have hs : step P n cap E t = { E with th := upd E.th t (ETh.enter { E.th t with val := E.rw (E.th t).found (valueAt n t), ended := true } 0) } := by unfold step; simp only [hph]
    have ho : over n cap Y t { Y.th t with left := 0 } = (Y.set t { Y.th t with left := 0, part := 0, ended := (Y.th t).ended + 1 }, true) := by unfold over; simp only [hp]
    rw [hs, rstep_end rfl (by omega) hl, ho]
    refine ⟨inv_mk pb nf (view_of pb nf rfl rfl rfl) h1 h2 rfl rfl (fun k hk _ => h3 k hk) (k3 hl), ?_⟩
    show true = decide ((upd Y.th t _ t).part = 0)
    rw [upd_same]
    rfl
theorem sim_step (hn : 0 < n) (h : Inv P n cap E Y) (ht : t < n) (hb : (Y.th t).part ≠ 0) : Stepped P n cap E Y t := by
  have h11 : (Y.th t).part ≤ 11 := by obtain ⟨pb, nf, -, -, h3⟩ := h; exact (h3 t ht).p1
  rcases (by omega : (Y.th t).part = 1 ∨ (Y.th t).part = 2 ∨ (Y.th t).part = 3 ∨ (Y.th t).part = 4 ∨ (Y.th t).part = 5 ∨ (Y.th t).part = 6 ∨ (Y.th t).part = 7 ∨ (Y.th t).part = 8 ∨ (Y.th t).part = 9 ∨ (Y.th t).part = 10 ∨ (Y.th t).part = 11) with q | q | q | q | q | q | q | q | q | q | q
  · exact sim_1 h ht q
  · exact sim_2 h ht q
  · exact sim_3 h ht q
  · exact sim_4 h ht q
  · exact sim_5 hn h ht q
  · exact sim_6 h ht q
  · exact sim_7 h ht q
  · exact sim_8 h ht q
  · exact sim_9 h ht q
  · exact sim_10 h ht q
  · exact sim_11 h ht q
end
end Go.Proofs.YtefjhnhdagolhaaGreat.M
namespace Go.Proofs.YtefjhnhdagolhaaGreat.M
section
variable {σ : Type} {P : Plain σ} {n cap : Nat} {E : ESt σ} {Y : RSt} {t : Nat}
structure Bnd (n : Nat) (E : ESt σ) : Prop where
  pr : E.prec < 2 * n + 1
  th : ∀ t, t < n → (E.th t).srec < 2 * n + 1 ∧ (E.th t).found < 2 * n + 1 ∧ (E.th t).stamp ≤ E.pst
theorem Bnd.upd {E' : ESt σ} {e' : ETh σ} (h : Bnd n E) (hp : E'.prec = E.prec) (hs : E.pst ≤ E'.pst) (ht : E'.th = M.upd E.th t e') (h1 : e'.srec < 2 * n + 1) (h2 : e'.found < 2 * n + 1) (h3 : e'.stamp ≤ E'.pst) : Bnd n E' := by
  refine ⟨by rw [hp]; exact h.pr, fun u hu => ?_⟩
  rw [ht]
  by_cases q : u = t
  · subst q; rw [upd_same]; exact ⟨h1, h2, h3⟩
  · rw [upd_other _ _ q]
    obtain ⟨a, b, c⟩ := h.th u hu
    exact ⟨a, b, Nat.le_trans c hs⟩
theorem pass_bnd (e : ETh σ) (s p : Nat) : (e.pass s p).srec = e.srec ∧ (e.pass s p).found = e.found ∧ (e.pass s p).stamp = e.stamp := by unfold ETh.pass; split <;> exact ⟨rfl, rfl, rfl⟩
theorem approach_bnd (e : ETh σ) : e.approach.srec = e.srec ∧ e.approach.found = e.found ∧ e.approach.stamp = e.stamp := by unfold ETh.approach; split <;> exact ⟨rfl, rfl, rfl⟩
theorem fail_bnd (e : ETh σ) (cap : Nat) : (e.fail cap).srec = e.srec ∧ (e.fail cap).found = e.found ∧ (e.fail cap).stamp = e.stamp := by
  unfold ETh.fail
  split
  · exact ⟨rfl, rfl, rfl⟩
  · exact approach_bnd _
theorem apply_bnd (P : Plain σ) (n : Nat) (e : ETh σ) (k : Nat) : (e.apply P n k).srec = e.srec ∧ (e.apply P n k).found = e.found ∧ (e.apply P n k).stamp = e.stamp := by unfold ETh.apply; split <;> exact ⟨rfl, rfl, rfl⟩
theorem Bnd.step (h : Bnd n E) (ht : t < n) (hsp : (E.th t).spare < 2 * n + 1) : Bnd n (M.step P n cap E t) := by
  obtain ⟨b1, b2, b3⟩ := h.th t ht
  unfold M.step
  dsimp only
  split
  · exact h.upd rfl (Nat.le_refl _) rfl (by rw [(pass_bnd _ _ _).1]; exact b1) (by rw [(pass_bnd _ _ _).2.1]; exact b2) (by rw [(pass_bnd _ _ _).2.2]; exact b3)
  · exact h.upd rfl (Nat.le_refl _) rfl (by rw [(approach_bnd _).1]; exact b1) (by rw [(approach_bnd _).2.1]; exact b2) (by rw [(approach_bnd _).2.2]; exact b3)
  · exact h.upd rfl (Nat.le_refl _) rfl (by rw [(pass_bnd _ _ _).1]; exact b1) (by rw [(pass_bnd _ _ _).2.1]; exact b2) (by rw [(pass_bnd _ _ _).2.2]; exact b3)
  · exact h.upd rfl (Nat.le_refl _) rfl h.pr b2 (Nat.le_refl _)
  · refine h.upd rfl (Nat.le_refl _) rfl (by rw [(pass_bnd _ _ _).1]; split <;> exact b1) (by rw [(pass_bnd _ _ _).2.1]; split <;> exact b2) (by rw [(pass_bnd _ _ _).2.2]; split <;> exact b3)
  · exact h.upd rfl (Nat.le_refl _) rfl (by rw [(pass_bnd _ _ _).1]; exact b1) (by rw [(pass_bnd _ _ _).2.1]; exact b2) (by rw [(pass_bnd _ _ _).2.2]; exact b3)
  · refine h.upd rfl (Nat.le_refl _) rfl ?_ ?_ ?_
    · split
      · exact b1
      · rw [(fail_bnd _ _).1]; exact b1
    · split
      · exact b2
      · rw [(fail_bnd _ _).2.1]; exact b2
    · split
      · exact b3
      · rw [(fail_bnd _ _).2.2]; exact b3
  · refine h.upd rfl (Nat.le_refl _) rfl ?_ ?_ ?_
    · rw [(pass_bnd _ _ _).1]
      split <;> split <;> first | exact b1 | (rw [(apply_bnd _ _ _ _).1]; exact b1) | (show ((ETh.apply P n _ _).srec < _); rw [(apply_bnd _ _ _ _).1]; exact b1)
    · rw [(pass_bnd _ _ _).2.1]
      split <;> split <;> first | exact b2 | (rw [(apply_bnd _ _ _ _).2.1]; exact b2) | (show ((ETh.apply P n _ _).found < _); rw [(apply_bnd _ _ _ _).2.1]; exact b2)
    · rw [(pass_bnd _ _ _).2.2]
      split <;> split <;> first | exact b3 | (rw [(apply_bnd _ _ _ _).2.2]; exact b3) | (show ((ETh.apply P n _ _).stamp ≤ _); rw [(apply_bnd _ _ _ _).2.2]; exact b3)
  · split
    · exact h.upd rfl (Nat.le_refl _) rfl (by rw [(pass_bnd _ _ _).1]; exact b1) (by rw [(pass_bnd _ _ _).2.1]; exact b2) (by rw [(pass_bnd _ _ _).2.2]; exact b3)
    · exact h.upd rfl (Nat.le_refl _) rfl (by rw [(pass_bnd _ _ _).1]; exact b1) (by rw [(pass_bnd _ _ _).2.1]; exact b2) (by rw [(pass_bnd _ _ _).2.2]; exact b3)
  · split
    · rename_i q
      refine ⟨hsp, fun u hu => ?_⟩
      show ((M.upd E.th t _ u).srec < _) ∧ ((M.upd E.th t _ u).found < _) ∧ ((M.upd E.th t _ u).stamp ≤ (E.th t).stamp + 1)
      by_cases c : u = t
      · subst c; rw [upd_same]; exact ⟨b1, b2, Nat.le_succ _⟩
      · rw [upd_other _ _ c]
        obtain ⟨a1, a2, a3⟩ := h.th u hu
        exact ⟨a1, a2, by omega⟩
    · exact h.upd rfl (Nat.le_refl _) rfl (by rw [(fail_bnd _ _).1]; exact b1) (by rw [(fail_bnd _ _).2.1]; exact b2) (by rw [(fail_bnd _ _).2.2]; exact b3)
  · exact h.upd rfl (Nat.le_refl _) rfl b1 h.pr b3
  · exact h.upd rfl (Nat.le_refl _) rfl b1 b2 b3
  · exact h.upd rfl (Nat.le_refl _) rfl b1 b2 b3
  · exact h
theorem Bnd.begin (h : Bnd n E) (ht : t < n) (o : Op) : Bnd n (M.begin E t o) := by
  obtain ⟨b1, b2, b3⟩ := h.th t ht
  exact h.upd rfl (Nat.le_refl _) rfl b1 b2 b3
end
end Go.Proofs.YtefjhnhdagolhaaGreat.M
namespace Go.Proofs.YtefjhnhdagolhaaGreat.M
def att (n cap : Nat) : Nat := cap + 3 + 2 * (wds n + 1) + tw n + 3 * n
def bound (n cap : Nat) : Nat := 4 + 2 * att n cap + 3
def after (n cap p : Nat) : Nat :=
  if p = 1 then 1 + att n cap + 3 else if p = 2 then att n cap + 3 else if p = 3 then att n cap - cap + 3 else if p = 4 then 2 * (wds n + 1) + tw n + 3 * n + 2 + 3
  else if p = 5 then wds n + 1 + tw n + 3 * n + 2 + 3 else if p = 6 then wds n + 1 + 3 * n + 2 + 3 else if p = 7 then wds n + 1 + 3 * n + 1 + 3 else if p = 8 then wds n + 1 + 1 + 3 else if p = 9 then 1 + 3 else if p = 10 then 3 else 0
def RTh.rank (n cap : Nat) (x : RTh) : Nat := if x.part = 0 then 0 else x.left + after n cap x.part + if x.tries ≠ 2 ∧ x.part ≤ 10 then att n cap else 0
structure TOk (n cap : Nat) (x : RTh) : Prop where
  p1 : x.part ≤ 11
  p2 : x.part ≠ 0 → 1 ≤ x.left ∧ x.left ≤ x.len n x.part
  bc : x.backoff ≤ cap
  t0 : x.part = 1 ∨ x.part = 2 → x.tries ≠ 2
theorem tw_pos0 {n : Nat} (h : 0 < n) : 0 < tw n := by unfold tw; omega
def mx (n cap p : Nat) : Nat := if p = 1 ∨ p = 11 then 3 else if p = 3 then cap else if p = 5 ∨ p = 9 then wds n + 1 else if p = 6 then tw n else if p = 8 then 3 * n else 1
theorem eleven {p : Nat} (h1 : 1 ≤ p) (h2 : p ≤ 11) : p = 1 ∨ p = 2 ∨ p = 3 ∨ p = 4 ∨ p = 5 ∨ p = 6 ∨ p = 7 ∨ p = 8 ∨ p = 9 ∨ p = 10 ∨ p = 11 := by omega
theorem after_succ (n cap : Nat) {p : Nat} (h1 : 1 ≤ p) (h2 : p ≤ 10) : after n cap p = mx n cap (p + 1) + after n cap (p + 1) := by
  have hc := eleven h1 (by omega)
  rcases hc with rfl | rfl | rfl | rfl | rfl | rfl | rfl | rfl | rfl | rfl | rfl <;> simp [after, mx, att] <;> omega
theorem len_mx {n cap : Nat} {x : RTh} (p : Nat) (hb : x.backoff ≤ cap) (hl : p = 8 → x.pend.length ≤ n) : x.len n p ≤ mx n cap p := by
  unfold RTh.len mx
  repeat (first | (split <;> try omega) | omega)
theorem len_zero {n : Nat} {x : RTh} {p : Nat} (hn : 0 < n) (h : x.len n p = 0) : p = 3 ∨ p = 8 := by
  have hw := tw_pos0 hn
  unfold RTh.len at h
  repeat (first | omega | split at h)
theorem rank_enter {n cap : Nat} {x : RTh} {p : Nat} (hn : 0 < n) (h1 : 1 ≤ p) (h2 : p ≤ 11) (hb : x.backoff ≤ cap) (hl : p = 8 → x.pend.length ≤ n) : (x.enter n p).rank n cap ≤ mx n cap p + after n cap p + (if x.tries ≠ 2 ∧ p ≤ 10 then att n cap else 0) := by
  unfold RTh.enter
  split
  · rename_i q
    have hp := len_zero hn q
    have e := after_succ n cap h1 (by omega)
    have l := len_mx (n := n) (cap := cap) (x := x) (p + 1) hb (by omega)
    have g : RTh.rank n cap { x with part := p + 1, left := x.len n (p + 1) } = x.len n (p + 1) + after n cap (p + 1) + if x.tries ≠ 2 ∧ p + 1 ≤ 10 then att n cap else 0 := by unfold RTh.rank; rw [if_neg (Nat.succ_ne_zero _)]
    rw [g]
    have c : (x.tries ≠ 2 ∧ p + 1 ≤ 10) ↔ (x.tries ≠ 2 ∧ p ≤ 10) := by omega
    simp only [c]
    omega
  · have l := len_mx (n := n) (cap := cap) (x := x) p hb hl
    have g : RTh.rank n cap { x with part := p, left := x.len n p } = x.len n p + after n cap p + if x.tries ≠ 2 ∧ p ≤ 10 then att n cap else 0 := by
      unfold RTh.rank
      rw [if_neg (by dsimp only; omega)]
    rw [g]
    omega
theorem enter_keeps (n : Nat) (x : RTh) (p : Nat) : (x.enter n p).ops = x.ops ∧ (x.enter n p).ended = x.ended ∧ (x.enter n p).flips = x.flips ∧ (x.enter n p).backoff = x.backoff ∧ (x.enter n p).tries = x.tries ∧ (x.enter n p).stamp = x.stamp ∧ (x.enter n p).flipped = x.flipped ∧ (x.enter n p).pend = x.pend := by
  unfold RTh.enter
  split <;> exact ⟨rfl, rfl, rfl, rfl, rfl, rfl, rfl, rfl⟩
theorem pending_len (n : Nat) (Y : RSt) (x : RTh) : (Y.pending n x).length ≤ n := by
  unfold RSt.pending
  exact Nat.le_trans (List.length_filter_le _ _) (by simp)
theorem rank_fail {n cap : Nat} {x : RTh} (hn : 0 < n) : (x.fail n cap).rank n cap ≤ if x.tries = 2 then 3 else att n cap + 3 := by
  unfold RTh.fail
  split
  · rename_i q
    have h := rank_enter (n := n) (cap := cap) (x := { x with backoff := min (2 * x.backoff + 1) cap }) (p := 11) hn (by decide) (by decide) (Nat.min_le_right _ _) (by omega)
    simp [after, mx] at h
    exact h
  · have h := rank_enter (n := n) (cap := cap) (x := { x with backoff := min (2 * x.backoff + 1) cap, tries := 2 }) (p := 3) hn (by decide) (by decide) (Nat.min_le_right _ _) (by omega)
    simp [after, mx] at h
    have : cap ≤ att n cap := by unfold att; omega
    omega
theorem rank_step {n cap : Nat} {Y : RSt} {t : Nat} (hn : 0 < n) (h : TOk n cap (Y.th t)) (hp : (Y.th t).part ≠ 0) : ((rstep n cap Y t).1.th t).rank n cap + 1 ≤ (Y.th t).rank n cap := by
  obtain ⟨p1, p2, bc, t0⟩ := h
  obtain ⟨l1, l2⟩ := p2 hp
  unfold rstep
  dsimp only
  generalize (if (Y.th t).part = 6 then fun k => if k / 16 = tw n - ((Y.th t).left - 1) - 1 ∧ k < n then (Y.th k).flips else (Y.th t).flipped k else (Y.th t).flipped) = fl
  by_cases q : 0 < (Y.th t).left - 1
  · rw [if_pos q]
    simp only [RSt.set, upd_same, RTh.rank, if_neg hp]
    omega
  · rw [if_neg q]
    have hl : (Y.th t).left = 1 := by omega
    generalize hx : (Y.th t) = x at *
    have ha : att n cap = cap + 3 + 2 * (wds n + 1) + tw n + 3 * n := rfl
    have G : x.rank n cap = 1 + after n cap x.part + if x.tries ≠ 2 ∧ x.part ≤ 10 then att n cap else 0 := by unfold RTh.rank; rw [if_neg hp, hl]
    rw [G]
    have N : ∀ x' : RTh, x'.backoff ≤ cap → ∀ p, 1 ≤ p → p ≤ 10 → (p = 7 → x'.pend.length ≤ n) → (x'.tries = x.tries ∨ x'.tries = 1 ∧ x.tries ≠ 2) → (x'.enter n (p + 1)).rank n cap + 1 ≤ 1 + after n cap p + if x.tries ≠ 2 ∧ p ≤ 10 then att n cap else 0 := by
      intro x' a3 p a1 a2 a4 a5
      have h := rank_enter (n := n) (cap := cap) (x := x') (p := p + 1) hn (by omega) (by omega) a3 (by intro q; exact a4 (by omega))
      rw [after_succ n cap a1 a2]
      by_cases c : x.tries = 2
      · have : x'.tries = 2 := by omega
        simp [c, this] at h ⊢
        omega
      · have : x'.tries ≠ 2 := by omega
        simp only [c, this, ne_eq, not_false_eq_true, true_and] at h ⊢
        rw [if_pos a2]
        have : (if p + 1 ≤ 10 then att n cap else 0) ≤ att n cap := by split <;> omega
        omega
    have F : ∀ x' : RTh, x'.tries = x.tries → ∀ p, 7 ≤ p → p ≤ 10 → (x'.fail n cap).rank n cap + 1 ≤ 1 + after n cap p + if x.tries ≠ 2 ∧ p ≤ 10 then att n cap else 0 := by
      intro x' a5 p a1 a2
      have h := rank_fail (n := n) (cap := cap) (x := x') hn
      have h3 : 3 ≤ after n cap p := by
        have hc : p = 7 ∨ p = 8 ∨ p = 9 ∨ p = 10 := by omega
        rcases hc with rfl | rfl | rfl | rfl <;> simp [after] <;> omega
      rw [a5] at h
      by_cases c : x.tries = 2
      · simp [c] at h ⊢; omega
      · simp only [c, if_false, ne_eq, not_false_eq_true, true_and] at h ⊢
        rw [if_pos a2]
        omega
    have hc := eleven (by omega) p1
    unfold over
    dsimp only
    rcases hc with c | c | c | c | c | c | c | c | c | c | c <;> rw [c]
    · simp only [RSt.set, upd_same]; exact N _ (by exact bc) 1 (by decide) (by decide) (fun q => absurd q (by decide)) (.inl (by rfl))
    · simp only [RSt.set, upd_same]
      exact N _ (by exact bc) 2 (by decide) (by decide) (fun q => absurd q (by decide)) (.inr ⟨by rfl, t0 (.inr c)⟩)
    · simp only [RSt.set, upd_same]; exact N _ (by exact bc) 3 (by decide) (by decide) (fun q => absurd q (by decide)) (.inl (by rfl))
    · simp only [RSt.set, upd_same]; exact N _ (by exact bc) 4 (by decide) (by decide) (fun q => absurd q (by decide)) (.inl (by rfl))
    · simp only [RSt.set, upd_same]; exact N _ (by exact bc) 5 (by decide) (by decide) (fun q => absurd q (by decide)) (.inl (by rfl))
    · simp only [RSt.set, upd_same]; exact N _ (by exact bc) 6 (by decide) (by decide) (fun q => absurd q (by decide)) (.inl (by rfl))
    · simp only [RSt.set, upd_same]
      split
      · split
        · exact N _ (by exact bc) 7 (by decide) (by decide) (fun _ => by exact pending_len _ _ _) (.inl (by rfl))
        · refine Nat.le_trans (Nat.succ_le_succ (rank_enter hn (by decide) (by decide) (by exact bc) (fun q => absurd q (by decide)))) ?_
          simp [mx, after]
          omega
      · exact F _ (by rfl) 7 (by decide) (by decide)
    · simp only [RSt.set, upd_same]; exact N _ (by exact bc) 8 (by decide) (by decide) (fun q => absurd q (by decide)) (.inl (by rfl))
    · simp only [RSt.set, upd_same]; exact N _ (by exact bc) 9 (by decide) (by decide) (fun q => absurd q (by decide)) (.inl (by rfl))
    · simp only [RSt.set]
      split
      · simp only [upd_same]; exact N _ (by exact (Nat.le_trans (Nat.div_le_self _ _) bc)) 10 (by decide) (by decide) (fun q => absurd q (by decide)) (.inl (by rfl))
      · simp only [upd_same]; exact F _ (by rfl) 10 (by decide) (by decide)
    · simp only [RSt.set, upd_same]
      simp [RTh.rank]
end Go.Proofs.YtefjhnhdagolhaaGreat.M
namespace Go.Proofs.YtefjhnhdagolhaaGreat.M
structure Mark where
  b : Nat
  t : Nat
  s : Nat
def marks (l : List (Nat × Nat)) : List Mark := l.mapIdx fun i x => ⟨x.1, x.2, ((l.take i).map Prod.snd).count x.2⟩
theorem marks_len (l : List (Nat × Nat)) : (marks l).length = l.length := by simp [marks]
theorem marks_snoc (l : List (Nat × Nat)) (b t : Nat) : marks (l ++ [(b, t)]) = marks l ++ [⟨b, t, (l.map Prod.snd).count t⟩] := by
  unfold marks
  rw [List.mapIdx_append]
  congr 1
  · apply List.ext_getElem?
    intro i
    simp only [List.getElem?_mapIdx]
    by_cases h : i < l.length
    · rw [List.take_append_of_le_length (Nat.le_of_lt h)]
    · rw [List.getElem?_eq_none (Nat.le_of_not_lt h)]; rfl
  · simp
def tagged (bs : List (Nat × List Nat)) : List (Nat × Nat) := bs.flatMap fun x => x.2.map fun t => (x.1, t)
theorem tagged_snoc (bs : List (Nat × List Nat)) (q : Nat) (p : List Nat) : tagged (bs ++ [(q, p)]) = tagged bs ++ p.map fun t => (q, t) := by simp [tagged]
theorem tagged_snd : ∀ bs : List (List Nat), (tagged (num bs)).map Prod.snd = bs.flatten := by
  intro bs
  have : ∀ (k : Nat) (bs : List (List Nat)), ((bs.mapIdx fun i p => (i + k, p)).flatMap fun x => x.2.map fun t => (x.1, t)).map Prod.snd = bs.flatten := by
    intro k bs
    induction bs generalizing k with
    | nil => rfl
    | cons p bs ih =>
      simp only [List.mapIdx_cons, List.flatMap_cons, List.map_append, List.flatten_cons, List.map_map]
      have := ih (k + 1)
      rw [show (fun i p => (i + 1 + k, p) : Nat → List Nat → Nat × List Nat) = fun i p => (i + (k + 1), p) by funext i p; rw [Nat.add_assoc, Nat.add_comm 1 k], this]
      congr 1
      induction p with
      | nil => rfl
      | cons a p ihp => simp [Function.comp_def]
  exact this 1 bs
def RSt.all (Y : RSt) : List (Nat × Nat) := tagged (num Y.bs)
def RSt.order (Y : RSt) : List Mark := marks Y.all
theorem RSt.all_snd (Y : RSt) : Y.all.map Prod.snd = Y.bs.flatten := tagged_snd Y.bs
theorem num_len (bs : List (List Nat)) : (num bs).length = bs.length := by simp [num]
structure YOk (n cap : Nat) (Y : RSt) : Prop where
  th : ∀ t, t < n → TOk n cap (Y.th t)
  mem : ∀ b ∈ Y.bs, ∀ k ∈ b, k < n
  ops : ∀ t, t < n → cnt Y.bs t ≤ (Y.th t).ops.length
  idle : ∀ t, t < n → (Y.th t).part = 0 → (Y.th t).ended = cnt Y.bs t
  fl : ∀ t, t < n → (Y.th t).flips ≤ (Y.th t).ops.length ∧ (Y.th t).ended ≤ (Y.th t).ops.length
  pl : ∀ t, t < n → 8 ≤ (Y.th t).part → (Y.th t).part ≤ 10 → (Y.th t).pend.length ≤ n
  ide : ∀ t, t < n → (Y.th t).part = 0 → (Y.th t).ended = (Y.th t).ops.length
  rd : ∀ t, t < n → 7 ≤ (Y.th t).part → (Y.th t).part ≤ 10 → ∀ k, k < n → (Y.th t).flipped k ≤ (Y.th k).flips
theorem Inv.yok {σ : Type} {P : Plain σ} {n cap : Nat} {E : ESt σ} {Y : RSt} (h : Inv P n cap E Y) : YOk n cap Y := by
  obtain ⟨pb, nf, -, G, T⟩ := h
  refine ⟨fun t ht => ?_, G.mem, fun t ht => Nat.le_trans (G.fl t ht).1 (G.opl t ht), fun t ht h0 => ?_, fun t ht => ?_, fun t ht h8 h10 => ?_, fun t ht h0 => ?_, fun t ht h7 h10 k hk => ?_⟩
  · have X := T t ht
    refine ⟨X.p1, fun hp => ?_, X.bc, X.t0⟩
    · have h1 := X.p1
      by_cases c : (Y.th t).part = 11
      · obtain ⟨a, b, -⟩ := X.p4 c
        exact ⟨a, by rw [c]; simpa [RTh.len] using b⟩
      · obtain ⟨a, b⟩ := X.p3 hp (by omega)
        omega
  · obtain ⟨a, b, c⟩ := (T t ht).c0 h0
    rw [b, ← c]; rfl
  · have X := T t ht
    have o := G.opl t ht
    have e1 : (Y.th t).flips = (view E Y pb nf).flips t := rfl
    have e2 : (Y.th t).ops = (view E Y pb nf).ops t := rfl
    have h1 := X.p1
    refine ⟨by rw [e1, e2]; exact o, ?_⟩
    rw [e2]
    by_cases c0 : (Y.th t).part = 0
    · have := X.c0 c0; omega
    · by_cases c1 : (Y.th t).part ≤ 2
      · have := X.c1 (by omega); omega
      · have := X.c3 (by omega); omega
  · obtain ⟨e, q, -⟩ := (T t ht).h8 h8 h10
    rw [← e, q]
    exact Nat.le_trans (List.length_filter_le _ _) (by simp)
  · obtain ⟨a, b, -⟩ := (T t ht).c0 h0
    have e2 : (Y.th t).ops = (view E Y pb nf).ops t := rfl
    rw [b, e2, a]
  · have htw : k / 16 < tw n := by unfold tw; omega
    exact (((T t ht).t7 h7 h10).2 k hk htw).2.1
theorem over_set (n cap : Nat) (Y : RSt) (t : Nat) (a x : RTh) : over n cap (Y.set t a) t x = over n cap Y t x := by
  have e1 : ∀ b, (Y.set t a).set t b = Y.set t b := fun b => by unfold RSt.set; dsimp only; congr 1; funext k; unfold upd; split <;> rfl
  have e2 : ∀ b, upd (Y.set t a).th t b = upd Y.th t b := fun b => by unfold RSt.set; dsimp only; funext k; unfold upd; split <;> rfl
  have e3 : (Y.set t a).bs = Y.bs := rfl
  have e4 : ∀ x, (Y.set t a).pending n x = Y.pending n x := fun _ => rfl
  unfold over
  simp only [e1, e2, e3, e4]
end Go.Proofs.YtefjhnhdagolhaaGreat.M
namespace Go.Proofs.YtefjhnhdagolhaaGreat.M
section
variable {σ : Type}
def E0 (P : Plain σ) (f : Ver σ) : ESt σ :=
  { togs := fun _ => 0, ann := fun _ _ => 0, rw := fun _ _ => 0, rst := fun r => if r = 0 then some (⟨P.first, []⟩, f) else none, pst := 0, prec := 0
    th := fun t => { phase := 0, past := 0, op := ⟨0, 0, 0⟩, toggle := false, backoff := 0, again := false, spare := 2 * t + 1, kept := 2 * t + 2, stamp := 0, srec := 0, dw := fun _ => 0, now := none, frm := none, tg := fun _ => 0, pend := [], heard := fun _ => 0, found := 0, sta := 0, val := 0, ended := false } }
def Y0 : RSt := { th := fun _ => { ops := [], ended := 0, flips := 0, part := 0, left := 0, backoff := 0, tries := 0, stamp := 0, flipped := fun _ => 0, pend := [] }, bs := [] }
theorem bits_zero (n w : Nat) : bits n (fun _ => 0) w = 0 := by
  have : ∀ m, val (dig n (fun _ => 0) w) m = 0 := by
    intro m
    induction m with
    | zero => rfl
    | succ m ih =>
      have hd : dig n (fun _ => 0) w m = 0 := by unfold dig; split <;> rfl
      simp [val, ih, hd]
  unfold bits
  rw [this]
  rfl
theorem inv_new (P : Plain σ) (n cap : Nat) (f : Ver σ) : Inv P n cap (E0 P f) Y0 := by
  refine ⟨fun _ => 0, fun _ => 0, rfl, ?_, fun t ht => ?_⟩
  · exact { fl := fun t _ => ⟨Nat.le_refl _, Nat.zero_le _⟩, opl := fun t _ => Nat.le_refl _, pnd := fun t _ h => absurd h (Nat.lt_irrefl _), mem := fun b hb => absurd hb List.not_mem_nil, togs := fun w _ => (bits_zero n w).symm, curW := fun w _ => (bits_zero n w).symm, curA := fun t _ => ⟨rfl, rfl⟩, curS := ⟨f, rfl⟩, recs := fun r t _ _ => ⟨rfl, rfl⟩, pbN := fun _ => Nat.le_refl _, pbc := rfl, nfN := fun _ => Nat.le_refl _, help := fun t _ h => absurd h (by show ¬ (0 + 2 ≤ 0); decide) }
  · have h0 : (Y0.th t).part = 0 := rfl
    exact { p1 := by rw [h0]; decide, p2 := fun _ => rfl, p3 := fun h => absurd h0 h, p4 := fun h => by rw [h0] at h; exact absurd h (by decide), xo := rfl, xf := rfl, bk := rfl, bc := Nat.zero_le _, ag := fun h => absurd h0 h, tog := rfl, eop := fun h => absurd h0 h, c0 := fun _ => ⟨rfl, rfl, rfl⟩, c1 := fun h => by rw [h0] at h; omega, c3 := fun h => by rw [h0] at h; omega, c11 := fun h => by rw [h0] at h; omega, an1 := fun h => by rw [h0] at h; omega, an2 := fun h => by rw [h0] at h; omega, sp := .inl ⟨rfl, rfl⟩, spc := Nat.succ_ne_zero _, en := rfl, a0 := fun _ h => absurd h (Nat.lt_irrefl _), a1 := fun h => by rw [h0] at h; omega, fd := fun h => by rw [h0] at h; omega, t0 := fun h => by rw [h0] at h; omega, tr := fun h => by rw [h0] at h; omega, tn := fun h => by rw [h0] at h; omega, s1 := fun h => by rw [h0] at h; omega, d5 := fun h => by rw [h0] at h; omega, d6 := fun h => by rw [h0] at h; omega, d7 := fun h => by rw [h0] at h; omega, t6 := fun h => by rw [h0] at h; omega, t7 := fun h => by rw [h0] at h; omega, h8 := fun h => by rw [h0] at h; omega, h8n := fun h => by rw [h0] at h; omega, h9 := fun h => by rw [h0] at h; omega, w9 := fun h => by rw [h0] at h; omega, w10 := fun h => by rw [h0] at h; omega }
theorem bnd_new (P : Plain σ) (n : Nat) (f : Ver σ) : Bnd n (E0 P f) := ⟨Nat.succ_pos _, fun _ _ => ⟨Nat.succ_pos _, Nat.succ_pos _, Nat.le_refl _⟩⟩
end
end Go.Proofs.YtefjhnhdagolhaaGreat.M
