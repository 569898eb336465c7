import Derived.Test.YtefjhnhdagolhaaGreatQ03
namespace Go.Proofs.YtefjhnhdagolhaaGreat.M
section
variable {σ : Type} {P : Plain σ} {n cap : Nat} {E : ESt σ} {Y : RSt} {t : Nat}
theorem upd_self {α : Type} (f : Nat → α) (t : Nat) : upd f t (f t) = f := by funext k; unfold upd; split <;> simp_all
theorem map_upd {α β : Type} (f : α → β) (g : Nat → α) (t : Nat) (x : α) : (fun k => f (upd g t x k)) = upd (fun k => f (g k)) t (f x) := by funext k; unfold upd; split <;> rfl
theorem inv_mk {E' : ESt σ} {Y' : RSt} {V' : View σ} {e' : ETh σ} {x' : RTh} (pb' nf' : Nat → Nat) (hv : view E' Y' pb' nf' = V') (hN : E'.pst = Y'.bs.length) (hG : Glob P n V') (hE : E'.th = upd E.th t e') (hY : Y'.th = upd Y.th t x')
    (ho : ∀ k, k < n → k ≠ t → Thr P n cap V' k (E.th k) (Y.th k)) (h : Thr P n cap V' t e' x') : Inv P n cap E' Y' := by
  refine ⟨pb', nf', hN, by rw [hv]; exact hG, fun k hk => ?_⟩
  rw [hv, hE, hY]
  by_cases q : k = t
  · subst q; rw [upd_same, upd_same]; exact h
  · rw [upd_other _ _ q, upd_other _ _ q]; exact ho k hk q
theorem rstep_in {x : RTh} (hx : x = Y.th t) (h6 : x.part ≠ 6) (hl : 1 < x.left) : rstep n cap Y t = (Y.set t { x with left := x.left - 1 }, false) := by
  subst hx
  unfold rstep
  simp only [h6, if_false]
  rw [if_pos (by omega)]
theorem rstep_end {x : RTh} (hx : x = Y.th t) (h6 : x.part ≠ 6) (hl : x.left = 1) : rstep n cap Y t = over n cap Y t { x with left := 0 } := by
  subst hx
  unfold rstep
  simp only [h6, if_false]
  rw [hl, if_neg (by omega)]
theorem enter_part (y : RTh) (p : Nat) (hp : p ≠ 0) : (RTh.enter n y p).part ≠ 0 := by
  unfold RTh.enter
  split
  · show p + 1 ≠ 0; omega
  · exact hp
theorem fail_part (y : RTh) : (RTh.fail n cap y).part ≠ 0 := by
  unfold RTh.fail
  split
  · exact enter_part _ _ (by decide)
  · exact enter_part _ _ (by decide)
theorem sim_begin (h : Inv P n cap E Y) (ht : t < n) (hp : (Y.th t).part = 0) (o : Op) : Inv P n cap (begin E t o) (rbegin Y t o) := by
  obtain ⟨pb, nf, h1, h2, h3⟩ := h
  refine inv_mk (V' := (view E Y pb nf).more t o) pb nf ?_ h1 (h2.more o) rfl rfl (fun k hk hkt => (h3 k hk).more h2 hkt) (ownBegin (h3 t ht) hp o)
  unfold view View.more
  congr 1
  · show (fun k => (upd Y.th t _ k).flips) = _
    rw [map_upd (fun x : RTh => x.flips)]
    exact upd_self _ t
  · show (fun k => (upd Y.th t _ k).ops) = _
    rw [map_upd (fun x : RTh => x.ops)]
def Stepped (P : Plain σ) (n cap : Nat) (E : ESt σ) (Y : RSt) (t : Nat) : Prop := Inv P n cap (step P n cap E t) (rstep n cap Y t).1 ∧ (rstep n cap Y t).2 = decide (((rstep n cap Y t).1.th t).part = 0)
theorem view_of (pb nf : Nat → Nat) {E' : ESt σ} {Y' : RSt} {x' : RTh} (hY : Y'.th = upd Y.th t x') (hf : x'.flips = (Y.th t).flips) (ho : x'.ops = (Y.th t).ops) :
    view E' Y' pb nf = { bs := Y'.bs, flips := fun k => (Y.th k).flips, ops := fun k => (Y.th k).ops, togs := E'.togs, ann := E'.ann, rw := E'.rw, rst := E'.rst, prec := E'.prec, pb := pb, nf := nf } := by
  unfold view
  congr 1
  · rw [hY, map_upd (fun x : RTh => x.flips), hf]
    exact upd_self _ t
  · rw [hY, map_upd (fun x : RTh => x.ops), ho]
    exact upd_self _ t
theorem flag_in {x' : RTh} (h : x'.part ≠ 0) : false = decide (((Y.set t x').th t).part = 0) := by
  have : ((Y.set t x').th t).part = x'.part := by show (upd Y.th t x' t).part = _; rw [upd_same]
  rw [this]
  simp [h]
theorem enter_flips (y : RTh) (p : Nat) : (RTh.enter n y p).flips = y.flips ∧ (RTh.enter n y p).ops = y.ops := by
  unfold RTh.enter
  split <;> exact ⟨rfl, rfl⟩
theorem fail_flips (y : RTh) : (RTh.fail n cap y).flips = y.flips ∧ (RTh.fail n cap y).ops = y.ops := by
  unfold RTh.fail
  split
  · exact enter_flips _ _
  · exact enter_flips _ _
theorem sim_1 (h : Inv P n cap E Y) (ht : t < n) (hp : (Y.th t).part = 1) : Stepped P n cap E Y t := by
  obtain ⟨pb, nf, h1, h2, h3⟩ := h
  have hT := h3 t ht
  have hph : (E.th t).phase = 1 := (hT.p2 (by omega)).trans hp
  obtain ⟨k0, k1, k2⟩ := own1 hT hp
  obtain ⟨l1, l2⟩ := hT.p3 (by omega) (by omega)
  have hs : step P n cap E t = { E with ann := upd E.ann t (upd (E.ann t) (E.th t).past ((E.th t).op.w (E.th t).past)), th := upd E.th t ((E.th t).pass 3 2) } := by unfold step; simp only [hph]
  unfold Stepped
  rw [hs]
  by_cases hl : 1 < (Y.th t).left
  · rw [rstep_in rfl (by omega) hl]
    exact ⟨inv_mk pb nf (view_of pb nf rfl rfl rfl) h1 (h2.ann k0 _) rfl rfl (fun k hk hkt => (h3 k hk).ann (Ne.symm hkt) k0 _) (k1 hl), flag_in (by show (Y.th t).part ≠ 0; omega)⟩
  · have hl1 : (Y.th t).left = 1 := by omega
    have ho : over n cap Y t { Y.th t with left := 0 } = (Y.set t (RTh.enter n { Y.th t with left := 0 } 2), false) := by unfold over; simp only [hp]
    rw [rstep_end rfl (by omega) hl1, ho]
    exact ⟨inv_mk pb nf (view_of pb nf rfl (enter_flips _ _).1 (enter_flips _ _).2) h1 (h2.ann k0 _) rfl rfl (fun k hk hkt => (h3 k hk).ann (Ne.symm hkt) k0 _) (k2 hl1), flag_in (enter_part _ _ (by decide))⟩
theorem sim_2 (h : Inv P n cap E Y) (ht : t < n) (hp : (Y.th t).part = 2) : Stepped P n cap E Y t := by
  obtain ⟨pb, nf, h1, h2, h3⟩ := h
  have hT := h3 t ht
  have hph : (E.th t).phase = 2 := (hT.p2 (by omega)).trans hp
  obtain ⟨k1, k2, k3, k4, k5, k6⟩ := own2 hT hp (upd E.togs (t / 16) (E.togs (t / 16) + (if (Y.th t).flips % 2 = 1 then -(2 ^ (t % 16)) else 2 ^ (t % 16))))
  have htg : (if (E.th t).toggle = true then -(2 ^ (t % 16)) else 2 ^ (t % 16) : Int) = if (Y.th t).flips % 2 = 1 then -(2 ^ (t % 16)) else 2 ^ (t % 16) := by
    rw [k5]
    show (if decide ((Y.th t).flips % 2 = 1) = true then _ else _) = _
    by_cases c : (Y.th t).flips % 2 = 1 <;> simp [c]
  have hs : step P n cap E t = { E with togs := upd E.togs (t / 16) (E.togs (t / 16) + (if (Y.th t).flips % 2 = 1 then -(2 ^ (t % 16)) else 2 ^ (t % 16))), th := upd E.th t (ETh.approach { E.th t with toggle := !(E.th t).toggle }) } := by unfold step; simp only [hph, htg]
  have ho : over n cap Y t { Y.th t with left := 0 } = (Y.set t (RTh.enter n { Y.th t with left := 0, flips := (Y.th t).flips + 1, tries := 1 } 3), false) := by unfold over; simp only [hp]
  unfold Stepped
  rw [hs, rstep_end rfl (by omega) k1, ho]
  refine ⟨inv_mk pb (upd nf t Y.bs.length) (V' := (view E Y pb nf).flip t (upd E.togs (t / 16) (E.togs (t / 16) + (if (Y.th t).flips % 2 = 1 then -(2 ^ (t % 16)) else 2 ^ (t % 16))))) ?_ h1 (h2.flip ht k2 k3 k4) rfl rfl (fun k hk hkt => (h3 k hk).flip hkt k2 _) k6, flag_in (enter_part _ _ (by decide))⟩
  unfold view View.flip
  congr 1
  · show (fun k => (upd Y.th t _ k).flips) = _
    rw [map_upd (fun x : RTh => x.flips), (enter_flips _ _).1]
  · show (fun k => (upd Y.th t _ k).ops) = _
    rw [map_upd (fun x : RTh => x.ops), (enter_flips _ _).2]
    exact upd_self _ t
theorem sim_3 (h : Inv P n cap E Y) (ht : t < n) (hp : (Y.th t).part = 3) : Stepped P n cap E Y t := by
  obtain ⟨pb, nf, h1, h2, h3⟩ := h
  have hT := h3 t ht
  have hph : (E.th t).phase = 3 := (hT.p2 (by omega)).trans hp
  obtain ⟨k1, k2⟩ := own3 hT hp
  obtain ⟨l1, l2⟩ := hT.p3 (by omega) (by omega)
  have hs : step P n cap E t = { E with th := upd E.th t ((E.th t).pass (E.th t).backoff 4) } := by unfold step; simp only [hph]
  unfold Stepped
  rw [hs]
  by_cases hl : 1 < (Y.th t).left
  · rw [rstep_in rfl (by omega) hl]
    exact ⟨inv_mk pb nf (view_of pb nf rfl rfl rfl) h1 h2 rfl rfl (fun k hk _ => h3 k hk) (k1 hl), flag_in (by show (Y.th t).part ≠ 0; omega)⟩
  · have hl1 : (Y.th t).left = 1 := by omega
    have ho : over n cap Y t { Y.th t with left := 0 } = (Y.set t (RTh.enter n { Y.th t with left := 0 } 4), false) := by unfold over; simp only [hp]
    rw [rstep_end rfl (by omega) hl1, ho]
    exact ⟨inv_mk pb nf (view_of pb nf rfl (enter_flips _ _).1 (enter_flips _ _).2) h1 h2 rfl rfl (fun k hk _ => h3 k hk) (k2 hl1), flag_in (enter_part _ _ (by decide))⟩
theorem sim_4 (h : Inv P n cap E Y) (ht : t < n) (hp : (Y.th t).part = 4) : Stepped P n cap E Y t := by
  obtain ⟨pb, nf, h1, h2, h3⟩ := h
  have hT := h3 t ht
  have hph : (E.th t).phase = 4 := (hT.p2 (by omega)).trans hp
  obtain ⟨k1, k2⟩ := own4 hT h2 hp
  have hs : step P n cap E t = { E with th := upd E.th t (ETh.enter { E.th t with stamp := Y.bs.length, srec := E.prec } 5) } := by unfold step; simp only [hph, h1]
  have ho : over n cap Y t { Y.th t with left := 0 } = (Y.set t (RTh.enter n { Y.th t with left := 0, stamp := Y.bs.length } 5), false) := by unfold over; simp only [hp]
  unfold Stepped
  rw [hs, rstep_end rfl (by omega) k1, ho]
  exact ⟨inv_mk pb nf (view_of pb nf rfl (enter_flips _ _).1 (enter_flips _ _).2) h1 h2 rfl rfl (fun k hk _ => h3 k hk) k2, flag_in (enter_part _ _ (by decide))⟩
theorem sim_5 (hn : 0 < n) (h : Inv P n cap E Y) (ht : t < n) (hp : (Y.th t).part = 5) : Stepped P n cap E Y t := by
  obtain ⟨pb, nf, h1, h2, h3⟩ := h
  have hT := h3 t ht
  have hph : (E.th t).phase = 5 := (hT.p2 (by omega)).trans hp
  by_cases hw : (E.th t).past < wds n
  · obtain ⟨k1, k2⟩ := own5w hT h2 hp hw
    have hs : step P n cap E t = { E with th := upd E.th t (ETh.pass { E.th t with dw := upd (E.th t).dw (E.th t).past (E.rw (E.th t).srec (E.th t).past) } (wds n + 1) 6) } := by unfold step; simp only [hph, hw, if_true]
    unfold Stepped
    rw [hs, rstep_in rfl (by omega) k1]
    exact ⟨inv_mk pb nf (view_of pb nf rfl rfl rfl) h1 h2 rfl rfl (fun k hk _ => h3 k hk) k2, flag_in (by show (Y.th t).part ≠ 0; omega)⟩
  · obtain ⟨k1, k2⟩ := own5s hn hT h2 hp hw
    have hs : step P n cap E t = { E with th := upd E.th t (ETh.pass { E.th t with now := (E.rst (E.th t).srec).map Prod.fst, frm := (E.rst (E.th t).srec).map Prod.fst } (wds n + 1) 6) } := by unfold step; simp only [hph, hw, if_false]
    have ho : over n cap Y t { Y.th t with left := 0 } = (Y.set t (RTh.enter n { Y.th t with left := 0 } 6), false) := by unfold over; simp only [hp]
    unfold Stepped
    rw [hs, rstep_end rfl (by omega) k1, ho]
    exact ⟨inv_mk pb nf (view_of pb nf rfl (enter_flips _ _).1 (enter_flips _ _).2) h1 h2 rfl rfl (fun k hk _ => h3 k hk) k2, flag_in (enter_part _ _ (by decide))⟩
theorem sim_6 (h : Inv P n cap E Y) (ht : t < n) (hp : (Y.th t).part = 6) : Stepped P n cap E Y t := by
  obtain ⟨pb, nf, h1, h2, h3⟩ := h
  have hT := h3 t ht
  have hph : (E.th t).phase = 6 := (hT.p2 (by omega)).trans hp
  obtain ⟨k1, k2⟩ := own6 hT h2 hp (fun k => if k / 16 = tw n - ((Y.th t).left - 1) - 1 ∧ k < n then (Y.th k).flips else (Y.th t).flipped k) rfl
  obtain ⟨l1, l2⟩ := hT.p3 (by omega) (by omega)
  have hs : step P n cap E t = { E with th := upd E.th t (ETh.pass { E.th t with tg := upd (E.th t).tg (E.th t).past (E.togs (E.th t).past) } (tw n) 7) } := by unfold step; simp only [hph]
  unfold Stepped
  rw [hs]
  by_cases hl : 1 < (Y.th t).left
  · have hr : rstep n cap Y t = (Y.set t { Y.th t with left := (Y.th t).left - 1, flipped := fun k => if k / 16 = tw n - ((Y.th t).left - 1) - 1 ∧ k < n then (Y.th k).flips else (Y.th t).flipped k }, false) := by
      unfold rstep
      simp only [hp, if_true]
      rw [if_pos (by omega)]
    rw [hr]
    exact ⟨inv_mk pb nf (view_of pb nf rfl rfl rfl) h1 h2 rfl rfl (fun k hk _ => h3 k hk) (k1 hl), flag_in (by show (Y.th t).part ≠ 0; omega)⟩
  · have hl1 : (Y.th t).left = 1 := by omega
    have hr : rstep n cap Y t = (Y.set t (RTh.enter n { Y.th t with left := 0, flipped := fun k => if k / 16 = tw n - ((Y.th t).left - 1) - 1 ∧ k < n then (Y.th k).flips else (Y.th t).flipped k } 7), false) := by
      unfold rstep
      simp only [hp, if_true]
      rw [if_neg (by omega)]
      unfold over
      simp only [hl1, Nat.sub_self]
    rw [hr]
    exact ⟨inv_mk pb nf (view_of pb nf rfl (enter_flips _ _).1 (enter_flips _ _).2) h1 h2 rfl rfl (fun k hk _ => h3 k hk) (k2 hl1), flag_in (enter_part _ _ (by decide))⟩
end
end Go.Proofs.YtefjhnhdagolhaaGreat.M
namespace Go.Proofs.YtefjhnhdagolhaaGreat.M
section
variable {σ : Type} {P : Plain σ} {n cap : Nat} {E : ESt σ} {Y : RSt} {t : Nat}
theorem sim_7 (h : Inv P n cap E Y) (ht : t < n) (hp : (Y.th t).part = 7) : Stepped P n cap E Y t := by
  obtain ⟨pb, nf, h1, h2, h3⟩ := h
  have hT := h3 t ht
  have hph : (E.th t).phase = 7 := (hT.p2 (by omega)).trans hp
  obtain ⟨k1, k2, k3⟩ := own7 ht hT h2 hp
  have hst : (Y.th t).stamp = (E.th t).stamp := (hT.att (by omega) (by omega)).st
  unfold Stepped
  by_cases hs0 : (E.th t).stamp = Y.bs.length
  · obtain ⟨q1, q2⟩ := k3 hs0 _ rfl
    have hpd : Y.pending n { Y.th t with left := 0 } = (List.range n).filter (fun k => decide (((Y.th t).flipped k + cnt Y.bs k) % 2 = 1)) := rfl
    have hs : step P n cap E t = { E with th := upd E.th t (ETh.enter { E.th t with pend := (List.range n).filter (fun k => decide (((Y.th t).flipped k + cnt Y.bs k) % 2 = 1)) } (if t ∈ (List.range n).filter (fun k => decide (((Y.th t).flipped k + cnt Y.bs k) % 2 = 1)) then 8 else 11)) } := by
      unfold step
      simp only [hph]
      rw [if_pos (by rw [h1, hs0]), q1]
      rfl
    have ho : over n cap Y t { Y.th t with left := 0 } = (Y.set t (RTh.enter n { Y.th t with left := 0, pend := (List.range n).filter (fun k => decide (((Y.th t).flipped k + cnt Y.bs k) % 2 = 1)) } (if t ∈ (List.range n).filter (fun k => decide (((Y.th t).flipped k + cnt Y.bs k) % 2 = 1)) then 8 else 11)), false) := by
      unfold over
      simp only [hp]
      rw [if_pos (by rw [hst, hs0])]
      rfl
    rw [hs, rstep_end rfl (by omega) k1, ho]
    exact ⟨inv_mk pb nf (view_of pb nf rfl (enter_flips _ _).1 (enter_flips _ _).2) h1 h2 rfl rfl (fun k hk _ => h3 k hk) q2, flag_in (enter_part _ _ (by split <;> decide))⟩
  · have hs : step P n cap E t = { E with th := upd E.th t ((E.th t).fail cap) } := by
      unfold step
      simp only [hph]
      rw [if_neg (by rw [h1]; exact fun q => hs0 q.symm)]
    have ho : over n cap Y t { Y.th t with left := 0 } = (Y.set t (RTh.fail n cap { Y.th t with left := 0 }), false) := by
      unfold over
      simp only [hp]
      rw [if_neg (by rw [hst]; exact fun q => hs0 q.symm)]
    rw [hs, rstep_end rfl (by omega) k1, ho]
    exact ⟨inv_mk pb nf (view_of pb nf rfl (fail_flips _).1 (fail_flips _).2) h1 h2 rfl rfl (fun k hk _ => h3 k hk) (k2 hs0), flag_in (fail_part _)⟩
theorem sim_8 (h : Inv P n cap E Y) (ht : t < n) (hp : (Y.th t).part = 8) : Stepped P n cap E Y t := by
  obtain ⟨pb, nf, h1, h2, h3⟩ := h
  have hT := h3 t ht
  have hph : (E.th t).phase = 8 := (hT.p2 (by omega)).trans hp
  obtain ⟨e3, he3⟩ : ∃ e3, e3 = (if (E.th t).past + 1 = 3 * (E.th t).pend.length then ETh.close n (if (E.th t).past % 3 = 2 then ETh.apply P n { E.th t with heard := upd (E.th t).heard ((E.th t).past % 3) (E.ann ((E.th t).pend.getD ((E.th t).past / 3) 0) ((E.th t).past % 3)) } ((E.th t).pend.getD ((E.th t).past / 3) 0) else { E.th t with heard := upd (E.th t).heard ((E.th t).past % 3) (E.ann ((E.th t).pend.getD ((E.th t).past / 3) 0) ((E.th t).past % 3)) }) else (if (E.th t).past % 3 = 2 then ETh.apply P n { E.th t with heard := upd (E.th t).heard ((E.th t).past % 3) (E.ann ((E.th t).pend.getD ((E.th t).past / 3) 0) ((E.th t).past % 3)) } ((E.th t).pend.getD ((E.th t).past / 3) 0) else { E.th t with heard := upd (E.th t).heard ((E.th t).past % 3) (E.ann ((E.th t).pend.getD ((E.th t).past / 3) 0) ((E.th t).past % 3)) })) := ⟨_, rfl⟩
  obtain ⟨-, k1, k2⟩ := own8 hT h2 hp e3 _ rfl he3
  obtain ⟨l1, l2⟩ := hT.p3 (by omega) (by omega)
  have hs : step P n cap E t = { E with th := upd E.th t (e3.pass (3 * (E.th t).pend.length) 9) } := by
    rw [he3]
    unfold step
    simp only [hph]
  unfold Stepped
  rw [hs]
  by_cases hl : 1 < (Y.th t).left
  · rw [rstep_in rfl (by omega) hl]
    exact ⟨inv_mk pb nf (view_of pb nf rfl rfl rfl) h1 h2 rfl rfl (fun k hk _ => h3 k hk) (k1 hl), flag_in (by show (Y.th t).part ≠ 0; omega)⟩
  · have hl1 : (Y.th t).left = 1 := by omega
    have ho : over n cap Y t { Y.th t with left := 0 } = (Y.set t (RTh.enter n { Y.th t with left := 0 } 9), false) := by unfold over; simp only [hp]
    rw [rstep_end rfl (by omega) hl1, ho]
    exact ⟨inv_mk pb nf (view_of pb nf rfl (enter_flips _ _).1 (enter_flips _ _).2) h1 h2 rfl rfl (fun k hk _ => h3 k hk) (k2 hl1), flag_in (enter_part _ _ (by decide))⟩
theorem spare_ne {V : View σ} {u : Nat} {e f : ETh σ} {x y : RTh} (h : Thr P n cap V t e x) (h' : Thr P n cap V u f y) (hu : u ≠ t) : f.spare ≠ e.spare := by
  rcases h.sp with ⟨a, b⟩ | ⟨a, b⟩ <;> rcases h'.sp with ⟨c, d⟩ | ⟨c, d⟩ <;> omega
theorem sim_9 (h : Inv P n cap E Y) (ht : t < n) (hp : (Y.th t).part = 9) : Stepped P n cap E Y t := by
  obtain ⟨pb, nf, h1, h2, h3⟩ := h
  have hT := h3 t ht
  have hph : (E.th t).phase = 9 := (hT.p2 (by omega)).trans hp
  unfold Stepped
  by_cases hw : (E.th t).past < wds n
  · obtain ⟨k1, k2⟩ := own9w hT hp hw
    have hs : step P n cap E t = { E with rw := upd E.rw (E.th t).spare (upd (E.rw (E.th t).spare) (E.th t).past ((E.th t).dw (E.th t).past)), th := upd E.th t ((E.th t).pass (wds n + 1) 10) } := by unfold step; simp only [hph, hw, if_true]
    rw [hs, rstep_in rfl (by omega) k1]
    exact ⟨inv_mk pb nf (view_of pb nf rfl rfl rfl) h1 (h2.word hT.spc (hT.att (by omega) (by omega)).spb (hT.d6 (by omega) (by omega)).1) rfl rfl (fun k hk hkt => (h3 k hk).word hT.spc (spare_ne hT (h3 k hk) hkt) _) k2, flag_in (by show (Y.th t).part ≠ 0; omega)⟩
  · obtain ⟨k1, k2, k3⟩ := own9s hT hp hw
    have hs : step P n cap E t = { E with rst := upd E.rst (E.th t).spare ((E.th t).now.bind fun v => (E.th t).frm.map fun f => (v, f)), th := upd E.th t ((E.th t).pass (wds n + 1) 10) } := by unfold step; simp only [hph, hw, if_false]
    have ho : over n cap Y t { Y.th t with left := 0 } = (Y.set t (RTh.enter n { Y.th t with left := 0 } 10), false) := by unfold over; simp only [hp]
    rw [hs, rstep_end rfl (by omega) k1, ho]
    exact ⟨inv_mk pb nf (view_of pb nf rfl (enter_flips _ _).1 (enter_flips _ _).2) h1 (h2.state hT.spc _) rfl rfl (fun k hk hkt => (h3 k hk).state (spare_ne hT (h3 k hk) hkt) _ k2) k3, flag_in (enter_part _ _ (by decide))⟩
theorem sim_10 (h : Inv P n cap E Y) (ht : t < n) (hp : (Y.th t).part = 10) : Stepped P n cap E Y t := by
  obtain ⟨pb, nf, h1, h2, h3⟩ := h
  have hT := h3 t ht
  have hph : (E.th t).phase = 10 := (hT.p2 (by omega)).trans hp
  obtain ⟨k1, k2, k3⟩ := own10 ht hT h2 hp
  have hst : (Y.th t).stamp = (E.th t).stamp := (hT.att (by omega) (by omega)).st
  unfold Stepped
  by_cases hs0 : (E.th t).stamp = Y.bs.length
  · obtain ⟨q1, q2, q3, q4, q5, q6⟩ := k3 hs0
    have hs : step P n cap E t = { E with pst := (E.th t).stamp + 1, prec := (E.th t).spare, th := upd E.th t (ETh.enter { E.th t with spare := (E.th t).kept, kept := (E.th t).spare, backoff := (E.th t).backoff / 2 } 11) } := by
      unfold step
      simp only [hph]
      rw [if_pos ⟨by rw [h1, hs0], q1.symm⟩]
    have ho : over n cap Y t { Y.th t with left := 0 } = ({ th := upd Y.th t (RTh.enter n { Y.th t with left := 0, pend := [], backoff := (Y.th t).backoff / 2 } 11), bs := Y.bs ++ [(E.th t).pend] }, false) := by
      unfold over
      simp only [hp]
      rw [if_pos (by rw [hst, hs0]), q2]
    rw [hs, rstep_end rfl (by omega) k1, ho]
    refine ⟨inv_mk (upd pb (E.th t).spare (Y.bs.length + 1)) nf (V' := (view E Y pb nf).publish (E.th t).spare (E.th t).pend) (view_of _ nf rfl (enter_flips _ _).1 (enter_flips _ _).2) (by simp [hs0]) q4 rfl rfl (fun k hk hkt => (h3 k hk).publish q5 h2 (spare_ne hT (h3 k hk) hkt)) q6, ?_⟩
    show false = decide ((upd Y.th t _ t).part = 0)
    rw [upd_same]
    have := enter_part (n := n) { Y.th t with left := 0, pend := [], backoff := (Y.th t).backoff / 2 } 11 (by decide)
    simp [this]
  · have hs : step P n cap E t = { E with th := upd E.th t ((E.th t).fail cap) } := by
      unfold step
      simp only [hph]
      rw [if_neg (by rintro ⟨q, -⟩; rw [h1] at q; exact hs0 q.symm)]
    have ho : over n cap Y t { Y.th t with left := 0 } = (Y.set t (RTh.fail n cap { Y.th t with left := 0 }), false) := by
      unfold over
      simp only [hp]
      rw [if_neg (by rw [hst]; exact fun q => hs0 q.symm)]
    rw [hs, rstep_end rfl (by omega) k1, ho]
    exact ⟨inv_mk pb nf (view_of pb nf rfl (fail_flips _).1 (fail_flips _).2) h1 h2 rfl rfl (fun k hk _ => h3 k hk) (k2 hs0), flag_in (fail_part _)⟩
theorem sim_11 (h : Inv P n cap E Y) (ht : t < n) (hp : (Y.th t).part = 11) : Stepped P n cap E Y t := by
  obtain ⟨pb, nf, h1, h2, h3⟩ := h
  have hT := h3 t ht
  obtain ⟨l1, l2, l3⟩ := hT.p4 hp
  obtain ⟨k1, k2, k3⟩ := own11 ht hT h2 hp
  unfold Stepped
  rcases (by omega : (Y.th t).left = 3 ∨ (Y.th t).left = 2 ∨ (Y.th t).left = 1) with hl | hl | hl
  · have hph : (E.th t).phase = 11 := by rw [l3, hl]
    have hs : step P n cap E t = { E with th := upd E.th t (ETh.enter { E.th t with found := E.prec } 12) } := by unfold step; simp only [hph]
    rw [hs, rstep_in rfl (by omega) (by omega)]
    exact ⟨inv_mk pb nf (view_of pb nf rfl rfl rfl) h1 h2 rfl rfl (fun k hk _ => h3 k hk) (k1 hl), flag_in (by show (Y.th t).part ≠ 0; omega)⟩
  · have hph : (E.th t).phase = 12 := by rw [l3, hl]
    have hs : step P n cap E t = { E with th := upd E.th t (ETh.enter { E.th t with sta := E.rw (E.th t).found (statusAt n t) } 13) } := by unfold step; simp only [hph]
    rw [hs, rstep_in rfl (by omega) (by omega)]
    exact ⟨inv_mk pb nf (view_of pb nf rfl rfl rfl) h1 h2 rfl rfl (fun k hk _ => h3 k hk) (k2 hl), flag_in (by show (Y.th t).part ≠ 0; omega)⟩
  · have hph : (E.th t).phase = 13 := by rw [l3, hl]
    have hs : step P n cap E t = { E with th := upd E.th t (ETh.enter { E.th t with val := E.rw (E.th t).found (valueAt n t), ended := true } 0) } := by unfold step; simp only [hph]
    have ho : over n cap Y t { Y.th t with left := 0 } = (Y.set t { Y.th t with left := 0, part := 0, ended := (Y.th t).ended + 1 }, true) := by unfold over; simp only [hp]
    rw [hs, rstep_end rfl (by omega) hl, ho]
    refine ⟨inv_mk pb nf (view_of pb nf rfl rfl rfl) h1 h2 rfl rfl (fun k hk _ => h3 k hk) (k3 hl), ?_⟩
    show true = decide ((upd Y.th t _ t).part = 0)
    rw [upd_same]
    rfl
theorem sim_step (hn : 0 < n) (h : Inv P n cap E Y) (ht : t < n) (hb : (Y.th t).part ≠ 0) : Stepped P n cap E Y t := by
  have h11 : (Y.th t).part ≤ 11 := by obtain ⟨pb, nf, -, -, h3⟩ := h; exact (h3 t ht).p1
  rcases (by omega : (Y.th t).part = 1 ∨ (Y.th t).part = 2 ∨ (Y.th t).part = 3 ∨ (Y.th t).part = 4 ∨ (Y.th t).part = 5 ∨ (Y.th t).part = 6 ∨ (Y.th t).part = 7 ∨ (Y.th t).part = 8 ∨ (Y.th t).part = 9 ∨ (Y.th t).part = 10 ∨ (Y.th t).part = 11) with q | q | q | q | q | q | q | q | q | q | q
  · exact sim_1 h ht q
  · exact sim_2 h ht q
  · exact sim_3 h ht q
  · exact sim_4 h ht q
  · exact sim_5 hn h ht q
  · exact sim_6 h ht q
  · exact sim_7 h ht q
  · exact sim_8 h ht q
  · exact sim_9 h ht q
  · exact sim_10 h ht q
  · exact sim_11 h ht q
end
end Go.Proofs.YtefjhnhdagolhaaGreat.M
namespace Go.Proofs.YtefjhnhdagolhaaGreat.M
section
variable {σ : Type} {P : Plain σ} {n cap : Nat} {E : ESt σ} {Y : RSt} {t : Nat}
structure Bnd (n : Nat) (E : ESt σ) : Prop where
  pr : E.prec < 2 * n + 1
  th : ∀ t, t < n → (E.th t).srec < 2 * n + 1 ∧ (E.th t).found < 2 * n + 1 ∧ (E.th t).stamp ≤ E.pst
theorem Bnd.upd {E' : ESt σ} {e' : ETh σ} (h : Bnd n E) (hp : E'.prec = E.prec) (hs : E.pst ≤ E'.pst) (ht : E'.th = M.upd E.th t e') (h1 : e'.srec < 2 * n + 1) (h2 : e'.found < 2 * n + 1) (h3 : e'.stamp ≤ E'.pst) : Bnd n E' := by
  refine ⟨by rw [hp]; exact h.pr, fun u hu => ?_⟩
  rw [ht]
  by_cases q : u = t
  · subst q; rw [upd_same]; exact ⟨h1, h2, h3⟩
  · rw [upd_other _ _ q]
    obtain ⟨a, b, c⟩ := h.th u hu
    exact ⟨a, b, Nat.le_trans c hs⟩
theorem pass_bnd (e : ETh σ) (s p : Nat) : (e.pass s p).srec = e.srec ∧ (e.pass s p).found = e.found ∧ (e.pass s p).stamp = e.stamp := by unfold ETh.pass; split <;> exact ⟨rfl, rfl, rfl⟩
theorem approach_bnd (e : ETh σ) : e.approach.srec = e.srec ∧ e.approach.found = e.found ∧ e.approach.stamp = e.stamp := by unfold ETh.approach; split <;> exact ⟨rfl, rfl, rfl⟩
theorem fail_bnd (e : ETh σ) (cap : Nat) : (e.fail cap).srec = e.srec ∧ (e.fail cap).found = e.found ∧ (e.fail cap).stamp = e.stamp := by
  unfold ETh.fail
  split
  · exact ⟨rfl, rfl, rfl⟩
  · exact approach_bnd _
theorem apply_bnd (P : Plain σ) (n : Nat) (e : ETh σ) (k : Nat) : (e.apply P n k).srec = e.srec ∧ (e.apply P n k).found = e.found ∧ (e.apply P n k).stamp = e.stamp := by unfold ETh.apply; split <;> exact ⟨rfl, rfl, rfl⟩
theorem Bnd.step (h : Bnd n E) (ht : t < n) (hsp : (E.th t).spare < 2 * n + 1) : Bnd n (M.step P n cap E t) := by
  obtain ⟨b1, b2, b3⟩ := h.th t ht
  unfold M.step
  dsimp only
  split
  · exact h.upd rfl (Nat.le_refl _) rfl (by rw [(pass_bnd _ _ _).1]; exact b1) (by rw [(pass_bnd _ _ _).2.1]; exact b2) (by rw [(pass_bnd _ _ _).2.2]; exact b3)
  · exact h.upd rfl (Nat.le_refl _) rfl (by rw [(approach_bnd _).1]; exact b1) (by rw [(approach_bnd _).2.1]; exact b2) (by rw [(approach_bnd _).2.2]; exact b3)
  · exact h.upd rfl (Nat.le_refl _) rfl (by rw [(pass_bnd _ _ _).1]; exact b1) (by rw [(pass_bnd _ _ _).2.1]; exact b2) (by rw [(pass_bnd _ _ _).2.2]; exact b3)
  · exact h.upd rfl (Nat.le_refl _) rfl h.pr b2 (Nat.le_refl _)
  · refine h.upd rfl (Nat.le_refl _) rfl (by rw [(pass_bnd _ _ _).1]; split <;> exact b1) (by rw [(pass_bnd _ _ _).2.1]; split <;> exact b2) (by rw [(pass_bnd _ _ _).2.2]; split <;> exact b3)
  · exact h.upd rfl (Nat.le_refl _) rfl (by rw [(pass_bnd _ _ _).1]; exact b1) (by rw [(pass_bnd _ _ _).2.1]; exact b2) (by rw [(pass_bnd _ _ _).2.2]; exact b3)
  · refine h.upd rfl (Nat.le_refl _) rfl ?_ ?_ ?_
    · split
      · exact b1
      · rw [(fail_bnd _ _).1]; exact b1
    · split
      · exact b2
      · rw [(fail_bnd _ _).2.1]; exact b2
    · split
      · exact b3
      · rw [(fail_bnd _ _).2.2]; exact b3
  · refine h.upd rfl (Nat.le_refl _) rfl ?_ ?_ ?_
    · rw [(pass_bnd _ _ _).1]
      split <;> split <;> first | exact b1 | (rw [(apply_bnd _ _ _ _).1]; exact b1) | (show ((ETh.apply P n _ _).srec < _); rw [(apply_bnd _ _ _ _).1]; exact b1)
    · rw [(pass_bnd _ _ _).2.1]
      split <;> split <;> first | exact b2 | (rw [(apply_bnd _ _ _ _).2.1]; exact b2) | (show ((ETh.apply P n _ _).found < _); rw [(apply_bnd _ _ _ _).2.1]; exact b2)
    · rw [(pass_bnd _ _ _).2.2]
      split <;> split <;> first | exact b3 | (rw [(apply_bnd _ _ _ _).2.2]; exact b3) | (show ((ETh.apply P n _ _).stamp ≤ _); rw [(apply_bnd _ _ _ _).2.2]; exact b3)
  · split
    · exact h.upd rfl (Nat.le_refl _) rfl (by rw [(pass_bnd _ _ _).1]; exact b1) (by rw [(pass_bnd _ _ _).2.1]; exact b2) (by rw [(pass_bnd _ _ _).2.2]; exact b3)
    · exact h.upd rfl (Nat.le_refl _) rfl (by rw [(pass_bnd _ _ _).1]; exact b1) (by rw [(pass_bnd _ _ _).2.1]; exact b2) (by rw [(pass_bnd _ _ _).2.2]; exact b3)
  · split
    · rename_i q
      refine ⟨hsp, fun u hu => ?_⟩
      show ((M.upd E.th t _ u).srec < _) ∧ ((M.upd E.th t _ u).found < _) ∧ ((M.upd E.th t _ u).stamp ≤ (E.th t).stamp + 1)
      by_cases c : u = t
      · subst c; rw [upd_same]; exact ⟨b1, b2, Nat.le_succ _⟩
      · rw [upd_other _ _ c]
        obtain ⟨a1, a2, a3⟩ := h.th u hu
        exact ⟨a1, a2, by omega⟩
    · exact h.upd rfl (Nat.le_refl _) rfl (by rw [(fail_bnd _ _).1]; exact b1) (by rw [(fail_bnd _ _).2.1]; exact b2) (by rw [(fail_bnd _ _).2.2]; exact b3)
  · exact h.upd rfl (Nat.le_refl _) rfl b1 h.pr b3
  · exact h.upd rfl (Nat.le_refl _) rfl b1 b2 b3
  · exact h.upd rfl (Nat.le_refl _) rfl b1 b2 b3
  · exact h
theorem Bnd.begin (h : Bnd n E) (ht : t < n) (o : Op) : Bnd n (M.begin E t o) := by
  obtain ⟨b1, b2, b3⟩ := h.th t ht
  exact h.upd rfl (Nat.le_refl _) rfl b1 b2 b3
end
end Go.Proofs.YtefjhnhdagolhaaGreat.M
namespace Go.Proofs.YtefjhnhdagolhaaGreat.M
section
variable {σ : Type}
def E0 (P : Plain σ) (f : Ver σ) : ESt σ :=
  { togs := fun _ => 0, ann := fun _ _ => 0, rw := fun _ _ => 0, rst := fun r => if r = 0 then some (⟨P.first, []⟩, f) else none, pst := 0, prec := 0
    th := fun t => { phase := 0, past := 0, op := ⟨0, 0, 0⟩, toggle := false, backoff := 0, again := false, spare := 2 * t + 1, kept := 2 * t + 2, stamp := 0, srec := 0, dw := fun _ => 0, now := none, frm := none, tg := fun _ => 0, pend := [], heard := fun _ => 0, found := 0, sta := 0, val := 0, ended := false } }
def Y0 : RSt := { th := fun _ => { ops := [], ended := 0, flips := 0, part := 0, left := 0, backoff := 0, tries := 0, stamp := 0, flipped := fun _ => 0, pend := [] }, bs := [] }
theorem bits_zero (n w : Nat) : bits n (fun _ => 0) w = 0 := by
  have : ∀ m, val (dig n (fun _ => 0) w) m = 0 := by
    intro m
    induction m with
    | zero => rfl
    | succ m ih =>
      have hd : dig n (fun _ => 0) w m = 0 := by unfold dig; split <;> rfl
      simp [val, ih, hd]
  unfold bits
  rw [this]
  rfl
theorem inv_new (P : Plain σ) (n cap : Nat) (f : Ver σ) : Inv P n cap (E0 P f) Y0 := by
  refine ⟨fun _ => 0, fun _ => 0, rfl, ?_, fun t ht => ?_⟩
  · exact { fl := fun t _ => ⟨Nat.le_refl _, Nat.zero_le _⟩, opl := fun t _ => Nat.le_refl _, pnd := fun t _ h => absurd h (Nat.lt_irrefl _), mem := fun b hb => absurd hb List.not_mem_nil, togs := fun w _ => (bits_zero n w).symm, curW := fun w _ => (bits_zero n w).symm, curA := fun t _ => ⟨rfl, rfl⟩, curS := ⟨f, rfl⟩, recs := fun r t _ _ => ⟨rfl, rfl⟩, pbN := fun _ => Nat.le_refl _, pbc := rfl, nfN := fun _ => Nat.le_refl _, help := fun t _ h => absurd h (by show ¬ (0 + 2 ≤ 0); decide) }
  · have h0 : (Y0.th t).part = 0 := rfl
    exact { p1 := by rw [h0]; decide, p2 := fun _ => rfl, p3 := fun h => absurd h0 h, p4 := fun h => by rw [h0] at h; exact absurd h (by decide), xo := rfl, xf := rfl, bk := rfl, bc := Nat.zero_le _, ag := fun h => absurd h0 h, tog := rfl, eop := fun h => absurd h0 h, c0 := fun _ => ⟨rfl, rfl, rfl⟩, c1 := fun h => by rw [h0] at h; omega, c3 := fun h => by rw [h0] at h; omega, c11 := fun h => by rw [h0] at h; omega, an1 := fun h => by rw [h0] at h; omega, an2 := fun h => by rw [h0] at h; omega, sp := .inl ⟨rfl, rfl⟩, spc := Nat.succ_ne_zero _, en := rfl, a0 := fun _ h => absurd h (Nat.lt_irrefl _), a1 := fun h => by rw [h0] at h; omega, fd := fun h => by rw [h0] at h; omega, t0 := fun h => by rw [h0] at h; omega, tr := fun h => by rw [h0] at h; omega, tn := fun h => by rw [h0] at h; omega, s1 := fun h => by rw [h0] at h; omega, d5 := fun h => by rw [h0] at h; omega, d6 := fun h => by rw [h0] at h; omega, d7 := fun h => by rw [h0] at h; omega, t6 := fun h => by rw [h0] at h; omega, t7 := fun h => by rw [h0] at h; omega, h8 := fun h => by rw [h0] at h; omega, h8n := fun h => by rw [h0] at h; omega, h9 := fun h => by rw [h0] at h; omega, w9 := fun h => by rw [h0] at h; omega, w10 := fun h => by rw [h0] at h; omega }
theorem bnd_new (P : Plain σ) (n : Nat) (f : Ver σ) : Bnd n (E0 P f) := ⟨Nat.succ_pos _, fun _ _ => ⟨Nat.succ_pos _, Nat.succ_pos _, Nat.le_refl _⟩⟩
end
end Go.Proofs.YtefjhnhdagolhaaGreat.M
