import Derived.Test.YtefjhnhdagolhaaGreatQ08
namespace Go.Proofs.YtefjhnhdagolhaaGreat.M
section
variable {σ : Type} {P : Plain σ} {n cap : Nat} {V : View σ} {t : Nat} {e : ETh σ} {x : RTh}
theorem applied_ans {ops : Nat → Nat → Op} {r : Rp σ} {dw : Nat → Int} {k : Nat} {o : Op} (hk : k < n) (ha : HasAns n r dw) (ho : ops k (r.c k) = o) :
    HasAns n (r.next P ops k) (upd (upd dw (statusAt n k) (P.apply r.st o).2.s) (valueAt n k) (P.apply r.st o).2.v) := by
  subst ho
  intro q hq
  have i1 : statusAt n q ≠ valueAt n k := by unfold statusAt valueAt; omega
  rw [upd_other _ _ i1]
  by_cases c : q = k
  · subst c
    rw [upd_same, upd_same]
    exact ⟨by simp [Rp.next, upd_same], by simp [Rp.next, upd_same]⟩
  · have i2 : statusAt n q ≠ statusAt n k := by unfold statusAt; omega
    have i3 : valueAt n q ≠ valueAt n k := by unfold valueAt; omega
    have i4 : valueAt n q ≠ statusAt n k := by unfold valueAt statusAt; omega
    rw [upd_other _ _ i2, upd_other _ _ i3, upd_other _ _ i4]
    rw [show (r.next P ops k).an q = r.an q from upd_other _ _ c]
    exact ha q hq
theorem applied_drafts {s : Nat} {dw : Nat → Int} {k : Nat} {u v : Int} (hk : k < n) (hq : ¬ V.quiet s k) (h : Drafts P n V s (wds n) dw) : Drafts P n V s (wds n) (upd (upd dw (statusAt n k) u) (valueAt n k) v) := by
  intro q hqn hqq
  have c : q ≠ k := by rintro rfl; exact hq hqq
  have i1 : statusAt n q ≠ valueAt n k := by unfold statusAt valueAt; omega
  have i2 : statusAt n q ≠ statusAt n k := by unfold statusAt; omega
  have i3 : valueAt n q ≠ valueAt n k := by unfold valueAt; omega
  have i4 : valueAt n q ≠ statusAt n k := by unfold valueAt statusAt; omega
  rw [upd_other _ _ i1, upd_other _ _ i2, upd_other _ _ i3, upd_other _ _ i4]
  exact h q hqn hqq
theorem close_drafts {s : Nat} {dw tg : Nat → Int} (h : Drafts P n V s (wds n) dw) : Drafts P n V s (wds n) (fun i => if i < tw n then tg i else dw i) := by
  intro q hqn hqq
  have i1 : ¬ statusAt n q < tw n := by unfold statusAt; omega
  have i2 : ¬ valueAt n q < tw n := by unfold valueAt; omega
  simp only [i1, i2, if_false]
  exact h q hqn hqq
theorem close_ans {r : Rp σ} {dw tg : Nat → Int} (h : HasAns n r dw) : HasAns n r (fun i => if i < tw n then tg i else dw i) := by
  intro q hqn
  have i1 : ¬ statusAt n q < tw n := by unfold statusAt; omega
  have i2 : ¬ valueAt n q < tw n := by unfold valueAt; omega
  simp only [i1, i2, if_false]
  exact h q hqn
theorem own8 (h : Thr P n cap V t e x) (hG : Glob P n V) (hp : x.part = 8) (e3 : ETh σ) (k : Nat) (hk : k = e.pend.getD (e.past / 3) 0)
    (he3 : e3 = (if e.past + 1 = 3 * e.pend.length then ETh.close n (if e.past % 3 = 2 then ETh.apply P n { e with heard := upd e.heard (e.past % 3) (V.ann k (e.past % 3)) } k else { e with heard := upd e.heard (e.past % 3) (V.ann k (e.past % 3)) }) else (if e.past % 3 = 2 then ETh.apply P n { e with heard := upd e.heard (e.past % 3) (V.ann k (e.past % 3)) } k else { e with heard := upd e.heard (e.past % 3) (V.ann k (e.past % 3)) }))) :
    k < n ∧ (1 < x.left → Thr P n cap V t (e3.pass (3 * e.pend.length) 9) { x with left := x.left - 1 }) ∧ (x.left = 1 → Thr P n cap V t (e3.pass (3 * e.pend.length) 9) (RTh.enter n { x with left := 0 } 9)) := by
  have b := h.base (by omega)
  have a := h.att (by omega) (by omega)
  obtain ⟨l1, l2⟩ := h.p3 (by omega) (by omega)
  obtain ⟨q1, q2⟩ := h.h8 (by omega) (by omega)
  have sc := h.t7 (by omega) (by omega)
  have l3 : x.len n x.part = 3 * e.pend.length := by rw [hp, q1]; simp [RTh.len]
  obtain ⟨c1, c2, c3⟩ := h.d6 (by omega) (by omega)
  have hi : e.past / 3 < e.pend.length := by omega
  have hget : e.pend[e.past / 3]? = some k := by rw [List.getElem?_eq_getElem hi, hk, List.getD_eq_getElem?_getD, List.getElem?_eq_getElem hi]; rfl
  have hkm : k ∈ e.pend := List.mem_of_getElem? hget
  obtain ⟨k1, k2⟩ := q2.mem.1 hkm
  have hfl := (sc.2 k k1 (lt_tw k1)).2.1
  have hnq : ¬ V.quiet e.stamp k := by rintro ⟨u1, u2⟩; omega
  have h8 := h.h8n hp
  obtain ⟨v, hv⟩ := Option.isSome_iff_exists.1 c2
  refine ⟨k1, ?_, ?_⟩
  · intro hl
    rw [if_neg (by omega)] at he3
    by_cases hj : e.past % 3 = 2
    · rw [if_pos hj] at he3
      have e1 : e3 = { e with heard := upd e.heard (e.past % 3) (V.ann k (e.past % 3)), now := some { v with st := (P.apply v.st (heardOp (upd e.heard (e.past % 3) (V.ann k (e.past % 3))))).1 }, dw := upd (upd e.dw (statusAt n k) (P.apply v.st (heardOp (upd e.heard (e.past % 3) (V.ann k (e.past % 3))))).2.s) (valueAt n k) (P.apply v.st (heardOp (upd e.heard (e.past % 3) (V.ann k (e.past % 3))))).2.v } := by
        rw [he3]; unfold ETh.apply; simp only [hv]
      have hps : e3.pass (3 * e.pend.length) 9 = { e3 with past := e.past + 1 } := by
        rw [e1]; unfold ETh.pass; rw [if_neg (by dsimp only; omega)]
      rw [hps, e1]
      refine Thr.mk8 (b.same rfl rfl rfl rfl rfl rfl rfl rfl rfl rfl rfl rfl) (a.same rfl rfl rfl rfl rfl) ⟨applied_drafts k1 hnq c1, rfl, c3⟩ sc ⟨q1, q2⟩ ⟨by show 8 ≤ x.part; omega, by show x.part ≤ 10; omega⟩ (h.p2 (by omega)) ⟨?_, by show 0 < x.left - 1; omega⟩ (fun _ hs => ?_) (by intros; (try dsimp only at *); omega) (by intros; (try dsimp only at *); omega) (by intros; (try dsimp only at *); omega)
      · show e.past + 1 + (x.left - 1) = x.len n x.part
        omega
      · obtain ⟨g1, g2, g3, g4⟩ := h8 hs
        have hv' : v = ⟨((V.rp P).run P V.op (e.pend.take (e.past / 3))).st, num V.bs⟩ := by rw [hv] at g2; injection g2
        have hd : (e.past + 1) / 3 = e.past / 3 + 1 := by omega
        have hm : (e.past + 1) % 3 = 0 := by omega
        have hop : heardOp (upd e.heard (e.past % 3) (V.ann k (e.past % 3))) = V.op k (cnt V.bs k) := by
          have hlt : cnt V.bs k < V.flips k := by rw [at_now V hs] at k2; omega
          have w := hG.pnd k k1 hlt
          rw [← hk] at g4
          have w0 := (g4 0 (by omega)).trans (w 0 (by decide))
          have w1 := (g4 1 (by omega)).trans (w 1 (by decide))
          have w2 := w 2 (by decide)
          unfold heardOp
          rw [hj, upd_same, upd_other _ _ (by decide), upd_other _ _ (by decide), w0, w1, w2]
          simp [Op.w]
        have hrun : (V.rp P).run P V.op (e.pend.take (e.past / 3 + 1)) = ((V.rp P).run P V.op (e.pend.take (e.past / 3))).next P V.op k := by
          rw [List.take_add_one, hget]
          exact run_snoc P V.op _ _ k
        have hcc : ((V.rp P).run P V.op (e.pend.take (e.past / 3))).c k = cnt V.bs k := by
          rw [run_c, show (V.rp P).c k = cnt V.bs k from replay_c P V.op V.bs k]
          have u1 := q2.count k
          rw [if_pos hkm] at u1
          have u2 : e.pend = e.pend.take (e.past / 3) ++ k :: e.pend.drop (e.past / 3 + 1) := by
            conv => lhs; rw [← List.take_append_drop (e.past / 3) e.pend]
            rw [List.drop_eq_getElem_cons hi]
            rw [List.getElem?_eq_getElem hi] at hget
            injection hget with hget
            rw [hget]
          rw [u2, List.count_append, List.count_cons_self] at u1
          omega
        dsimp only
        rw [hd, hm, hrun, hop, hv']
        refine ⟨g1, ?_, applied_ans k1 g3 (by rw [hcc]), fun q hq => absurd hq (Nat.not_lt_zero _)⟩
        unfold Rp.next
        rw [hcc]
    · rw [if_neg hj] at he3
      have hps : e3.pass (3 * e.pend.length) 9 = { e3 with past := e.past + 1 } := by
        rw [he3]; unfold ETh.pass; rw [if_neg (by dsimp only; omega)]
      rw [hps, he3]
      refine Thr.mk8 (b.same rfl rfl rfl rfl rfl rfl rfl rfl rfl rfl rfl rfl) (a.same rfl rfl rfl rfl rfl) ⟨c1, c2, c3⟩ sc ⟨q1, q2⟩ ⟨by show 8 ≤ x.part; omega, by show x.part ≤ 10; omega⟩ (h.p2 (by omega)) ⟨?_, by show 0 < x.left - 1; omega⟩ (fun _ hs => ?_) (by intros; (try dsimp only at *); omega) (by intros; (try dsimp only at *); omega) (by intros; (try dsimp only at *); omega)
      · show e.past + 1 + (x.left - 1) = x.len n x.part
        omega
      · obtain ⟨g1, g2, g3, g4⟩ := h8 hs
        have hd : (e.past + 1) / 3 = e.past / 3 := by omega
        have hm : (e.past + 1) % 3 = e.past % 3 + 1 := by omega
        dsimp only
        rw [hd, hm]
        refine ⟨g1, g2, g3, fun q hq => ?_⟩
        by_cases c : q = e.past % 3
        · rw [c, upd_same, hk]
        · rw [upd_other _ _ c]
          exact g4 q (by omega)
  · intro hl
    have hj : e.past % 3 = 2 := by omega
    have hlast : e.past / 3 + 1 = e.pend.length := by omega
    rw [if_pos (by omega), if_pos hj] at he3
    have e1 : e3 = { e with heard := upd e.heard (e.past % 3) (V.ann k (e.past % 3)), now := some ⟨(P.apply v.st (heardOp (upd e.heard (e.past % 3) (V.ann k (e.past % 3))))).1, (e.frm.map Ver.bs).getD [] ++ [(e.stamp + 1, e.pend)]⟩, dw := fun i => if i < tw n then e.tg i else upd (upd e.dw (statusAt n k) (P.apply v.st (heardOp (upd e.heard (e.past % 3) (V.ann k (e.past % 3))))).2.s) (valueAt n k) (P.apply v.st (heardOp (upd e.heard (e.past % 3) (V.ann k (e.past % 3))))).2.v i } := by
      rw [he3]; unfold ETh.apply ETh.close; simp only [hv]; rfl
    have hps : e3.pass (3 * e.pend.length) 9 = e3.enter 9 := by
      rw [e1]; unfold ETh.pass; rw [if_pos (by dsimp only; omega)]
    have e2 : RTh.enter n { x with left := 0 } 9 = { x with part := 9, left := wds n + 1 } := by simp [RTh.enter, RTh.len]
    rw [hps, e1, e2]
    refine Thr.mk8 (b.same rfl rfl rfl rfl rfl rfl rfl rfl rfl rfl rfl rfl) (a.same rfl rfl rfl rfl rfl) ⟨close_drafts (applied_drafts k1 hnq c1), rfl, c3⟩ sc ⟨q1, q2⟩ ⟨(by intros; (try dsimp only at *); omega), (by intros; (try dsimp only at *); omega)⟩ rfl ⟨?_, (by intros; (try dsimp only at *); omega)⟩ (by intros; (try dsimp only at *); omega) (fun _ hs => ?_) (fun _ i hi => absurd hi (Nat.not_lt_zero _)) (by intros; (try dsimp only at *); omega)
    · show 0 + (wds n + 1) = _
      simp [RTh.len]
    · have hs : e.stamp = V.N := hs
      obtain ⟨g1, g2, g3, g4⟩ := h8 hs
      have hv' : v = ⟨((V.rp P).run P V.op (e.pend.take (e.past / 3))).st, num V.bs⟩ := by rw [hv] at g2; injection g2
      have hop : heardOp (upd e.heard (e.past % 3) (V.ann k (e.past % 3))) = V.op k (cnt V.bs k) := by
        have hlt : cnt V.bs k < V.flips k := by rw [at_now V hs] at k2; omega
        have w := hG.pnd k k1 hlt
        rw [← hk] at g4
        have w0 := (g4 0 (by omega)).trans (w 0 (by decide))
        have w1 := (g4 1 (by omega)).trans (w 1 (by decide))
        have w2 := w 2 (by decide)
        unfold heardOp
        rw [hj, upd_same, upd_other _ _ (by decide), upd_other _ _ (by decide), w0, w1, w2]
        simp [Op.w]
      have hrun : (V.rp P).run P V.op e.pend = ((V.rp P).run P V.op (e.pend.take (e.past / 3))).next P V.op k := by
        conv => lhs; rw [← List.take_of_length_le (Nat.le_of_eq hlast.symm)]
        rw [List.take_add_one, hget]
        exact run_snoc P V.op _ _ k
      have hcc : ((V.rp P).run P V.op (e.pend.take (e.past / 3))).c k = cnt V.bs k := by
        rw [run_c, show (V.rp P).c k = cnt V.bs k from replay_c P V.op V.bs k]
        have u1 := q2.count k
        rw [if_pos hkm] at u1
        have u2 : e.pend = e.pend.take (e.past / 3) ++ k :: e.pend.drop (e.past / 3 + 1) := by
          conv => lhs; rw [← List.take_append_drop (e.past / 3) e.pend]
          rw [List.drop_eq_getElem_cons hi]
          rw [List.getElem?_eq_getElem hi] at hget
          injection hget with hget
          rw [hget]
        rw [u2, List.count_append, List.count_cons_self] at u1
        omega
      show some (Ver.mk _ _) = some (Ver.mk ((V.rp P).run P V.op e.pend).st (num (V.bs ++ [e.pend]))) ∧ HasAns n ((V.rp P).run P V.op e.pend) _ ∧ ∀ w, w < tw n → (if w < tw n then e.tg w else _) = bits n x.flipped w
      rw [hrun, hop, hv', g1, num_append, hs]
      refine ⟨?_, close_ans (applied_ans k1 g3 (by rw [hcc])), fun w hw => ?_⟩
      · unfold Rp.next
        rw [hcc]
        rfl
      · rw [if_pos hw]
        exact sc.1 w hw
end
end Go.Proofs.YtefjhnhdagolhaaGreat.M
namespace Go.Proofs.YtefjhnhdagolhaaGreat.M
section
variable {σ : Type} {P : Plain σ} {n cap : Nat} {V : View σ} {t : Nat} {e : ETh σ} {x : RTh}
theorem own9w (h : Thr P n cap V t e x) (hp : x.part = 9) (hw : e.past < wds n) :
    1 < x.left ∧ Thr P n cap { V with rw := upd V.rw e.spare (upd (V.rw e.spare) e.past (e.dw e.past)) } t (e.pass (wds n + 1) 10) { x with left := x.left - 1 } := by
  have b := h.base (by omega)
  have a := h.att (by omega) (by omega)
  obtain ⟨l1, l2⟩ := h.p3 (by omega) (by omega)
  have l3 : x.len n x.part = wds n + 1 := by rw [hp]; simp [RTh.len]
  obtain ⟨c1, c2, c3⟩ := h.d6 (by omega) (by omega)
  refine ⟨by omega, ?_⟩
  have e1 : e.pass (wds n + 1) 10 = { e with past := e.past + 1 } := by unfold ETh.pass; rw [if_neg (by omega)]
  rw [e1]
  refine Thr.mk8 ⟨b.xo, b.xf, b.bk, b.bc, b.ag, b.tog, b.eop, b.c3, b.an2, b.sp, b.spc, b.en, b.tr, b.tn⟩ ⟨a.st, a.le, a.pb, a.cur, a.nf, a.nf2, a.spb, a.some⟩ ⟨c1, c2, c3⟩ (h.t7 (by omega) (by omega)) (h.h8 (by omega) (by omega)) ⟨by show 8 ≤ x.part; omega, by show x.part ≤ 10; omega⟩ (h.p2 (by omega)) ⟨?_, by show 0 < x.left - 1; omega⟩ (by intros; (try dsimp only at *); omega) (fun q => h.h9 q) (fun _ i hi hi2 => ?_) (by intros; (try dsimp only at *); omega)
  · show e.past + 1 + (x.left - 1) = x.len n x.part
    omega
  · show upd V.rw e.spare (upd (V.rw e.spare) e.past (e.dw e.past)) e.spare i = e.dw i
    have hi' : i < e.past + 1 := hi
    rw [upd_same]
    by_cases c : i = e.past
    · rw [c, upd_same]
    · rw [upd_other _ _ c]
      exact h.w9 hp i (by omega) hi2
theorem own9s (h : Thr P n cap V t e x) (hp : x.part = 9) (hw : ¬ e.past < wds n) :
    x.left = 1 ∧ (e.now.bind fun v => e.frm.map fun f => (v, f)).isSome ∧ Thr P n cap { V with rst := upd V.rst e.spare (e.now.bind fun v => e.frm.map fun f => (v, f)) } t (e.pass (wds n + 1) 10) (RTh.enter n { x with left := 0 } 10) := by
  have b := h.base (by omega)
  have a := h.att (by omega) (by omega)
  obtain ⟨l1, l2⟩ := h.p3 (by omega) (by omega)
  have l3 : x.len n x.part = wds n + 1 := by rw [hp]; simp [RTh.len]
  obtain ⟨c1, c2, c3⟩ := h.d6 (by omega) (by omega)
  have hs : (e.now.bind fun v => e.frm.map fun f => (v, f)).isSome := by
    obtain ⟨v, hv⟩ := Option.isSome_iff_exists.1 c2
    obtain ⟨f, hf⟩ := Option.isSome_iff_exists.1 c3
    rw [hv, hf]
    rfl
  refine ⟨by omega, hs, ?_⟩
  have e1 : e.pass (wds n + 1) 10 = e.enter 10 := by unfold ETh.pass; rw [if_pos (by omega)]
  have e2 : RTh.enter n { x with left := 0 } 10 = { x with part := 10, left := 1 } := by simp [RTh.enter, RTh.len]
  rw [e1, e2]
  refine Thr.mk8 ⟨b.xo, b.xf, b.bk, b.bc, b.ag, b.tog, b.eop, b.c3, b.an2, b.sp, b.spc, b.en, b.tr, b.tn⟩ ⟨a.st, a.le, a.pb, a.cur, a.nf, a.nf2, a.spb, ?_⟩ ⟨c1, c2, c3⟩ (h.t7 (by omega) (by omega)) (h.h8 (by omega) (by omega)) ⟨(by intros; (try dsimp only at *); omega), (by intros; (try dsimp only at *); omega)⟩ rfl ⟨rfl, (by intros; (try dsimp only at *); omega)⟩ (by intros; (try dsimp only at *); omega) (fun _ => h.h9 (.inl hp)) (by intros; (try dsimp only at *); omega) (fun _ => ⟨fun i hi => h.w9 hp i (by omega) hi, upd_same _ _ _⟩)
  show (upd V.rst e.spare _ e.srec).isSome = true
  unfold upd
  split
  · exact hs
  · exact a.some
theorem own10 (ht : t < n) (h : Thr P n cap V t e x) (hG : Glob P n V) (hp : x.part = 10) :
    x.left = 1 ∧ (e.stamp ≠ V.N → Thr P n cap V t (e.fail cap) (RTh.fail n cap { x with left := 0 })) ∧
    (e.stamp = V.N → e.srec = V.prec ∧ x.pend = e.pend ∧ x.stamp = e.stamp ∧ Glob P n (V.publish e.spare e.pend) ∧ Good n V e.pend ∧ Thr P n cap (V.publish e.spare e.pend) t (ETh.enter { e with spare := e.kept, kept := e.spare, backoff := e.backoff / 2 } 11) (RTh.enter n { x with left := 0, pend := [], backoff := x.backoff / 2 } 11)) := by
  have b := h.base (by omega)
  have a := h.att (by omega) (by omega)
  obtain ⟨l1, l2⟩ := h.p3 (by omega) (by omega)
  have l3 : x.len n x.part = 1 := by rw [hp]; simp [RTh.len]
  refine ⟨by omega, fun hs => ?_, fun hs => ?_⟩
  · exact Thr.failed (x := { x with left := 0 }) (b.same rfl rfl rfl rfl rfl rfl rfl rfl rfl rfl rfl rfl) (a.same rfl rfl rfl rfl rfl) hG ht hs
  · obtain ⟨q1, q2⟩ := h.h8 (by omega) (by omega)
    have sc := h.t7 (by omega) (by omega)
    obtain ⟨w1, w2⟩ := h.w10 hp
    obtain ⟨g1, g2, g3⟩ := h.h9 (.inr hp) hs
    obtain ⟨c1, c2, c3⟩ := h.d6 (by omega) (by omega)
    obtain ⟨f, hf⟩ := Option.isSome_iff_exists.1 c3
    have hgood := q2.good hs sc hG
    rw [g1, hf] at w2
    have hG' := Glob.publish hG hs sc q2 w1 w2 rfl g2 g3
    refine ⟨a.cur hs, q1.symm, a.st, hG', hgood, ?_⟩
    have e2 : RTh.enter n { x with left := 0, pend := [], backoff := x.backoff / 2 } 11 = { x with part := 11, left := 3, pend := [], backoff := x.backoff / 2 } := by simp [RTh.enter, RTh.len]
    rw [e2]
    have hsp : e.kept ≠ e.spare := by rcases b.sp with ⟨u, v⟩ | ⟨u, v⟩ <;> omega
    refine Thr.mk11 ⟨b.xo, b.xf, by show e.backoff / 2 = x.backoff / 2; rw [b.bk], by show x.backoff / 2 ≤ cap; have := b.bc; omega, b.ag, b.tog, b.eop, b.c3, b.an2, ?_, hsp, b.en, b.tr, fun q => ?_⟩ rfl ⟨(by intros; (try dsimp only at *); omega), (by intros; (try dsimp only at *); omega), rfl⟩ ?_ (by intros; (try dsimp only at *); omega) (by intros; (try dsimp only at *); omega)
    · show (e.kept = _ ∧ e.spare = _) ∨ (e.kept = _ ∧ e.spare = _)
      rcases b.sp with ⟨u, v⟩ | ⟨u, v⟩
      · exact .inr ⟨v, u⟩
      · exact .inl ⟨v, u⟩
    · rw [pub_N]
      exact Nat.lt_succ_of_lt (b.tn q)
    · rw [pub_cnt hgood, if_pos q2.2.1]
      exact (hgood.fl t q2.2.1).symm
theorem own1 (h : Thr P n cap V t e x) (hp : x.part = 1) :
    cnt V.bs t = V.flips t ∧ (1 < x.left → Thr P n cap { V with ann := upd V.ann t (upd (V.ann t) e.past (e.op.w e.past)) } t (e.pass 3 2) { x with left := x.left - 1 }) ∧
    (x.left = 1 → Thr P n cap { V with ann := upd V.ann t (upd (V.ann t) e.past (e.op.w e.past)) } t (e.pass 3 2) (RTh.enter n { x with left := 0 } 2)) := by
  obtain ⟨l1, l2⟩ := h.p3 (by omega) (by omega)
  have l3 : x.len n x.part = 3 := by rw [hp]; simp [RTh.len]
  obtain ⟨k1, k2, k3⟩ := h.c1 (.inl hp)
  have han : ∀ i, i < e.past + 1 → upd V.ann t (upd (V.ann t) e.past (e.op.w e.past)) t i = e.op.w i := by
    intro i hi
    rw [upd_same]
    by_cases c : i = e.past
    · rw [c, upd_same]
    · rw [upd_other _ _ c]
      exact h.an1 hp i (by omega)
  refine ⟨k3, fun hl => ?_, fun hl => ?_⟩
  · have e1 : e.pass 3 2 = { e with past := e.past + 1 } := by unfold ETh.pass; rw [if_neg (by omega)]
    rw [e1]
    refine { h with p3 := fun _ _ => ⟨?_, by show 0 < x.left - 1; omega⟩, an1 := fun _ i hi => han i hi, p4 := (by intros; (try dsimp only at *); omega), an2 := (by intros; (try dsimp only at *); omega), a1 := (by intros; (try dsimp only at *); omega), fd := (by intros; (try dsimp only at *); omega), d5 := (by intros; (try dsimp only at *); omega), t6 := (by intros; (try dsimp only at *); omega), h8n := (by intros; (try dsimp only at *); omega), w9 := (by intros; (try dsimp only at *); omega) }
    show e.past + 1 + (x.left - 1) = x.len n x.part
    omega
  · have e1 : e.pass 3 2 = e.enter 2 := by unfold ETh.pass; rw [if_pos (by omega)]
    have e2 : RTh.enter n { x with left := 0 } 2 = { x with part := 2, left := 1 } := by simp [RTh.enter, RTh.len]
    rw [e1, e2]
    exact { xo := h.xo, xf := h.xf, bk := h.bk, bc := h.bc, ag := fun _ => h.ag (by omega), tog := h.tog, eop := fun _ => h.eop (by omega), c1 := fun _ => ⟨k1, k2, k3⟩, t0 := fun _ => h.t0 (.inl hp), an2 := fun _ i hi => han i (by omega), sp := h.sp, spc := h.spc, en := h.en, p1 := (by intros; (try dsimp only at *); omega), p2 := fun _ => rfl, p3 := fun _ _ => ⟨rfl, (by intros; (try dsimp only at *); omega)⟩, p4 := (by intros; (try dsimp only at *); omega), c0 := (by intros; (try dsimp only at *); omega), c3 := (by intros; (try dsimp only at *); omega), c11 := (by intros; (try dsimp only at *); omega), an1 := (by intros; (try dsimp only at *); omega), a0 := (by intros; (try dsimp only at *); omega), a1 := (by intros; (try dsimp only at *); omega), fd := (by intros; (try dsimp only at *); omega), tr := (by intros; (try dsimp only at *); omega), tn := (by intros; (try dsimp only at *); omega), s1 := (by intros; (try dsimp only at *); omega), d5 := (by intros; (try dsimp only at *); omega), d6 := (by intros; (try dsimp only at *); omega), d7 := (by intros; (try dsimp only at *); omega), t6 := (by intros; (try dsimp only at *); omega), t7 := (by intros; (try dsimp only at *); omega), h8 := (by intros; (try dsimp only at *); omega), h8n := (by intros; (try dsimp only at *); omega), h9 := (by intros; (try dsimp only at *); omega), w9 := (by intros; (try dsimp only at *); omega), w10 := (by intros; (try dsimp only at *); omega) }
theorem own2 (h : Thr P n cap V t e x) (hp : x.part = 2) (g : Nat → Int) :
    x.left = 1 ∧ cnt V.bs t = V.flips t ∧ (V.ops t).length = V.flips t + 1 ∧ (∀ i, i < 3 → V.ann t i = (V.op t (V.flips t)).w i) ∧ e.toggle = decide (V.flips t % 2 = 1) ∧
    Thr P n cap (V.flip t g) t (ETh.approach { e with toggle := !e.toggle }) (RTh.enter n { x with left := 0, flips := x.flips + 1, tries := 1 } 3) := by
  obtain ⟨l1, l2⟩ := h.p3 (by omega) (by omega)
  have l3 : x.len n x.part = 1 := by rw [hp]; simp [RTh.len]
  obtain ⟨k1, k2, k3⟩ := h.c1 (.inr hp)
  obtain ⟨o1, o2⟩ := h.eop (by omega)
  have hop : e.op = V.op t (V.flips t) := by rw [o2, k1]; rfl
  refine ⟨by omega, k3, k1, fun i hi => by rw [← hop]; exact h.an2 (by omega) i hi, h.tog, ?_⟩
  have hfl : (V.flip t g).flips t = V.flips t + 1 := upd_same _ _ _
  have hag := h.ag (by omega)
  refine Thr.approach ⟨h.xo, by rw [hfl]; show x.flips + 1 = _; rw [h.xf], h.bk, h.bc, ?_, ?_, ⟨o1, o2⟩, by rw [hfl]; exact ⟨k1, by show x.ended + 1 = _; omega⟩, h.an2 (by omega), h.sp, h.spc, h.en, .inl rfl, (by intros; (try dsimp only at *); omega)⟩
  · show e.again = _
    rw [hag]
    have := h.t0 (.inr hp)
    simp [this]
  · rw [hfl]
    show (!e.toggle) = _
    rw [h.tog]
    by_cases c : V.flips t % 2 = 1
    · have : ¬ (V.flips t + 1) % 2 = 1 := by omega
      simp [c, this]
    · have : (V.flips t + 1) % 2 = 1 := by omega
      simp [c, this]
theorem ownBegin (h : Thr P n cap V t e x) (hp : x.part = 0) (o : Op) : Thr P n cap (V.more t o) t (ETh.enter { e with op := o, again := false } 1) { x with ops := x.ops ++ [o], tries := 0, part := 1, left := 3 } := by
  obtain ⟨k1, k2, k3⟩ := h.c0 hp
  have ho : (V.more t o).ops t = V.ops t ++ [o] := upd_same _ _ _
  have hop : (V.more t o).op t (V.ops t).length = o := by
    show ((V.more t o).ops t).getD _ _ = _
    rw [ho]
    simp
  exact { xo := by rw [ho]; show x.ops ++ [o] = _; rw [h.xo], xf := h.xf, bk := h.bk, bc := h.bc, ag := fun _ => rfl, tog := h.tog, eop := fun _ => by rw [ho]; exact ⟨by simp, by simp [hop]; rfl⟩, c1 := fun _ => by rw [ho]; exact ⟨by rw [List.length_append, k1]; rfl, k2, k3⟩, sp := h.sp, spc := h.spc, en := h.en, t0 := (by intros; (try dsimp only at *); omega), p1 := (by intros; (try dsimp only at *); omega), p2 := fun _ => rfl, p3 := fun _ _ => ⟨rfl, (by intros; (try dsimp only at *); omega)⟩, an1 := fun _ i hi => absurd hi (Nat.not_lt_zero _), p4 := (by intros; (try dsimp only at *); omega), c0 := (by intros; (try dsimp only at *); omega), c3 := (by intros; (try dsimp only at *); omega), c11 := (by intros; (try dsimp only at *); omega), an2 := (by intros; (try dsimp only at *); omega), a0 := (by intros; (try dsimp only at *); omega), a1 := (by intros; (try dsimp only at *); omega), fd := (by intros; (try dsimp only at *); omega), tr := (by intros; (try dsimp only at *); omega), tn := (by intros; (try dsimp only at *); omega), s1 := (by intros; (try dsimp only at *); omega), d5 := (by intros; (try dsimp only at *); omega), d6 := (by intros; (try dsimp only at *); omega), d7 := (by intros; (try dsimp only at *); omega), t6 := (by intros; (try dsimp only at *); omega), t7 := (by intros; (try dsimp only at *); omega), h8 := (by intros; (try dsimp only at *); omega), h8n := (by intros; (try dsimp only at *); omega), h9 := (by intros; (try dsimp only at *); omega), w9 := (by intros; (try dsimp only at *); omega), w10 := (by intros; (try dsimp only at *); omega) }
end
end Go.Proofs.YtefjhnhdagolhaaGreat.M
namespace Go.Proofs.YtefjhnhdagolhaaGreat.M
section
variable {σ : Type} {P : Plain σ} {n cap : Nat} {E : ESt σ} {Y : RSt} {t : Nat}
theorem upd_self {α : Type} (f : Nat → α) (t : Nat) : upd f t (f t) = f := by funext k; unfold upd; split <;> simp_all
theorem map_upd {α β : Type} (f : α → β) (g : Nat → α) (t : Nat) (x : α) : (fun k => f (upd g t x k)) = upd (fun k => f (g k)) t (f x) := by funext k; unfold upd; split <;> rfl
theorem inv_mk {E' : ESt σ} {Y' : RSt} {V' : View σ} {e' : ETh σ} {x' : RTh} (pb' nf' : Nat → Nat) (hv : view E' Y' pb' nf' = V') (hN : E'.pst = Y'.bs.length) (hG : Glob P n V') (hE : E'.th = upd E.th t e') (hY : Y'.th = upd Y.th t x')
    (ho : ∀ k, k < n → k ≠ t → Thr P n cap V' k (E.th k) (Y.th k)) (h : Thr P n cap V' t e' x') : Inv P n cap E' Y' := by
  refine ⟨pb', nf', hN, by rw [hv]; exact hG, fun k hk => ?_⟩
  rw [hv, hE, hY]
  by_cases q : k = t
  · subst q; rw [upd_same, upd_same]; exact h
  · rw [upd_other _ _ q, upd_other _ _ q]; exact ho k hk q
theorem rstep_in {x : RTh} (hx : x = Y.th t) (h6 : x.part ≠ 6) (hl : 1 < x.left) : rstep n cap Y t = (Y.set t { x with left := x.left - 1 }, false) := by
  subst hx
  unfold rstep
  simp only [h6, if_false]
  rw [if_pos (by omega)]
theorem rstep_end {x : RTh} (hx : x = Y.th t) (h6 : x.part ≠ 6) (hl : x.left = 1) : rstep n cap Y t = over n cap Y t { x with left := 0 } := by
  subst hx
  unfold rstep
  simp only [h6, if_false]
  rw [hl, if_neg (by omega)]
theorem enter_part (y : RTh) (p : Nat) (hp : p ≠ 0) : (RTh.enter n y p).part ≠ 0 := by
  unfold RTh.enter
  split
  · show p + 1 ≠ 0; omega
  · exact hp
theorem fail_part (y : RTh) : (RTh.fail n cap y).part ≠ 0 := by
  unfold RTh.fail
  split
  · exact enter_part _ _ (by decide)
  · exact enter_part _ _ (by decide)
theorem sim_begin (h : Inv P n cap E Y) (ht : t < n) (hp : (Y.th t).part = 0) (o : Op) : Inv P n cap (begin E t o) (rbegin Y t o) := by
  obtain ⟨pb, nf, h1, h2, h3⟩ := h
  refine inv_mk (V' := (view E Y pb nf).more t o) pb nf ?_ h1 (h2.more o) rfl rfl (fun k hk hkt => (h3 k hk).more h2 hkt) (ownBegin (h3 t ht) hp o)
  unfold view View.more
  congr 1
  · show (fun k => (upd Y.th t _ k).flips) = _
    rw [map_upd (fun x : RTh => x.flips)]
    exact upd_self _ t
  · show (fun k => (upd Y.th t _ k).ops) = _
    rw [map_upd (fun x : RTh => x.ops)]
def Stepped (P : Plain σ) (n cap : Nat) (E : ESt σ) (Y : RSt) (t : Nat) : Prop := Inv P n cap (step P n cap E t) (rstep n cap Y t).1 ∧ (rstep n cap Y t).2 = decide (((rstep n cap Y t).1.th t).part = 0)
theorem view_of (pb nf : Nat → Nat) {E' : ESt σ} {Y' : RSt} {x' : RTh} (hY : Y'.th = upd Y.th t x') (hf : x'.flips = (Y.th t).flips) (ho : x'.ops = (Y.th t).ops) :
    view E' Y' pb nf = { bs := Y'.bs, flips := fun k => (Y.th k).flips, ops := fun k => (Y.th k).ops, togs := E'.togs, ann := E'.ann, rw := E'.rw, rst := E'.rst, prec := E'.prec, pb := pb, nf := nf } := by
  unfold view
  congr 1
  · rw [hY, map_upd (fun x : RTh => x.flips), hf]
    exact upd_self _ t
  · rw [hY, map_upd (fun x : RTh => x.ops), ho]
    exact upd_self _ t
theorem flag_in {x' : RTh} (h : x'.part ≠ 0) : false = decide (((Y.set t x').th t).part = 0) := by
  have : ((Y.set t x').th t).part = x'.part := by show (upd Y.th t x' t).part = _; rw [upd_same]
  rw [this]
  simp [h]
theorem enter_flips (y : RTh) (p : Nat) : (RTh.enter n y p).flips = y.flips ∧ (RTh.enter n y p).ops = y.ops := by
  unfold RTh.enter
  split <;> exact ⟨rfl, rfl⟩
theorem fail_flips (y : RTh) : (RTh.fail n cap y).flips = y.flips ∧ (RTh.fail n cap y).ops = y.ops := by
  unfold RTh.fail
  split
  · exact enter_flips _ _
  · exact enter_flips _ _
theorem sim_1 (h : Inv P n cap E Y) (ht : t < n) (hp : (Y.th t).part = 1) : Stepped P n cap E Y t := by
  obtain ⟨pb, nf, h1, h2, h3⟩ := h
  have hT := h3 t ht
  have hph : (E.th t).phase = 1 := (hT.p2 (by omega)).trans hp
  obtain ⟨k0, k1, k2⟩ := own1 hT hp
  obtain ⟨l1, l2⟩ := hT.p3 (by omega) (by omega)
  have hs : step P n cap E t = { E with ann := upd E.ann t (upd (E.ann t) (E.th t).past ((E.th t).op.w (E.th t).past)), th := upd E.th t ((E.th t).pass 3 2) } := by unfold step; simp only [hph]
  unfold Stepped
  rw [hs]
  by_cases hl : 1 < (Y.th t).left
  · rw [rstep_in rfl (by omega) hl]
    exact ⟨inv_mk pb nf (view_of pb nf rfl rfl rfl) h1 (h2.ann k0 _) rfl rfl (fun k hk hkt => (h3 k hk).ann (Ne.symm hkt) k0 _) (k1 hl), flag_in (by show (Y.th t).part ≠ 0; omega)⟩
  · have hl1 : (Y.th t).left = 1 := by omega
    have ho : over n cap Y t { Y.th t with left := 0 } = (Y.set t (RTh.enter n { Y.th t with left := 0 } 2), false) := by unfold over; simp only [hp]
    rw [rstep_end rfl (by omega) hl1, ho]
    exact ⟨inv_mk pb nf (view_of pb nf rfl (enter_flips _ _).1 (enter_flips _ _).2) h1 (h2.ann k0 _) rfl rfl (fun k hk hkt => (h3 k hk).ann (Ne.symm hkt) k0 _) (k2 hl1), flag_in (enter_part _ _ (by decide))⟩
theorem sim_2 (h : Inv P n cap E Y) (ht : t < n) (hp : (Y.th t).part = 2) : Stepped P n cap E Y t := by
  obtain ⟨pb, nf, h1, h2, h3⟩ := h
  have hT := h3 t ht
  have hph : (E.th t).phase = 2 := (hT.p2 (by omega)).trans hp
  obtain ⟨k1, k2, k3, k4, k5, k6⟩ := own2 hT hp (upd E.togs (t / 16) (E.togs (t / 16) + (if (Y.th t).flips % 2 = 1 then -(2 ^ (t % 16)) else 2 ^ (t % 16))))
  have htg : (if (E.th t).toggle = true then -(2 ^ (t % 16)) else 2 ^ (t % 16) : Int) = if (Y.th t).flips % 2 = 1 then -(2 ^ (t % 16)) else 2 ^ (t % 16) := by
    rw [k5]
    show (if decide ((Y.th t).flips % 2 = 1) = true then _ else _) = _
    by_cases c : (Y.th t).flips % 2 = 1 <;> simp [c]
  have hs : step P n cap E t = { E with togs := upd E.togs (t / 16) (E.togs (t / 16) + (if (Y.th t).flips % 2 = 1 then -(2 ^ (t % 16)) else 2 ^ (t % 16))), th := upd E.th t (ETh.approach { E.th t with toggle := !(E.th t).toggle }) } := by unfold step; simp only [hph, htg]
  have ho : over n cap Y t { Y.th t with left := 0 } = (Y.set t (RTh.enter n { Y.th t with left := 0, flips := (Y.th t).flips + 1, tries := 1 } 3), false) := by unfold over; simp only [hp]
  unfold Stepped
  rw [hs, rstep_end rfl (by omega) k1, ho]
  refine ⟨inv_mk pb (upd nf t Y.bs.length) (V' := (view E Y pb nf).flip t (upd E.togs (t / 16) (E.togs (t / 16) + (if (Y.th t).flips % 2 = 1 then -(2 ^ (t % 16)) else 2 ^ (t % 16))))) ?_ h1 (h2.flip ht k2 k3 k4) rfl rfl (fun k hk hkt => (h3 k hk).flip hkt k2 _) k6, flag_in (enter_part _ _ (by decide))⟩
  unfold view View.flip
  congr 1
  · show (fun k => (upd Y.th t _ k).flips) = _
    rw [map_upd (fun x : RTh => x.flips), (enter_flips _ _).1]
  · show (fun k => (upd Y.th t _ k).ops) = _
    rw [map_upd (fun x : RTh => x.ops), (enter_flips _ _).2]
    exact upd_self _ t
theorem sim_3 (h : Inv P n cap E Y) (ht : t < n) (hp : (Y.th t).part = 3) : Stepped P n cap E Y t := by
  obtain ⟨pb, nf, h1, h2, h3⟩ := h
  have hT := h3 t ht
  have hph : (E.th t).phase = 3 := (hT.p2 (by omega)).trans hp
  obtain ⟨k1, k2⟩ := own3 hT hp
  obtain ⟨l1, l2⟩ := hT.p3 (by omega) (by omega)
  have hs : step P n cap E t = { E with th := upd E.th t ((E.th t).pass (E.th t).backoff 4) } := by unfold step; simp only [hph]
  unfold Stepped
  rw [hs]
  by_cases hl : 1 < (Y.th t).left
  · rw [rstep_in rfl (by omega) hl]
    exact ⟨inv_mk pb nf (view_of pb nf rfl rfl rfl) h1 h2 rfl rfl (fun k hk _ => h3 k hk) (k1 hl), flag_in (by show (Y.th t).part ≠ 0; omega)⟩
  · have hl1 : (Y.th t).left = 1 := by omega
    have ho : over n cap Y t { Y.th t with left := 0 } = (Y.set t (RTh.enter n { Y.th t with left := 0 } 4), false) := by unfold over; simp only [hp]
    rw [rstep_end rfl (by omega) hl1, ho]
    exact ⟨inv_mk pb nf (view_of pb nf rfl (enter_flips _ _).1 (enter_flips _ _).2) h1 h2 rfl rfl (fun k hk _ => h3 k hk) (k2 hl1), flag_in (enter_part _ _ (by decide))⟩
theorem sim_4 (h : Inv P n cap E Y) (ht : t < n) (hp : (Y.th t).part = 4) : Stepped P n cap E Y t := by
  obtain ⟨pb, nf, h1, h2, h3⟩ := h
  have hT := h3 t ht
  have hph : (E.th t).phase = 4 := (hT.p2 (by omega)).trans hp
  obtain ⟨k1, k2⟩ := own4 hT h2 hp
  have hs : step P n cap E t = { E with th := upd E.th t (ETh.enter { E.th t with stamp := Y.bs.length, srec := E.prec } 5) } := by unfold step; simp only [hph, h1]
  have ho : over n cap Y t { Y.th t with left := 0 } = (Y.set t (RTh.enter n { Y.th t with left := 0, stamp := Y.bs.length } 5), false) := by unfold over; simp only [hp]
  unfold Stepped
  rw [hs, rstep_end rfl (by omega) k1, ho]
  exact ⟨inv_mk pb nf (view_of pb nf rfl (enter_flips _ _).1 (enter_flips _ _).2) h1 h2 rfl rfl (fun k hk _ => h3 k hk) k2, flag_in (enter_part _ _ (by decide))⟩
theorem sim_5 (hn : 0 < n) (h : Inv P n cap E Y) (ht : t < n) (hp : (Y.th t).part = 5) : Stepped P n cap E Y t := by
  obtain ⟨pb, nf, h1, h2, h3⟩ := h
  have hT := h3 t ht
  have hph : (E.th t).phase = 5 := (hT.p2 (by omega)).trans hp
  by_cases hw : (E.th t).past < wds n
  · obtain ⟨k1, k2⟩ := own5w hT h2 hp hw
    have hs : step P n cap E t = { E with th := upd E.th t (ETh.pass { E.th t with dw := upd (E.th t).dw (E.th t).past (E.rw (E.th t).srec (E.th t).past) } (wds n + 1) 6) } := by unfold step; simp only [hph, hw, if_true]
    unfold Stepped
    rw [hs, rstep_in rfl (by omega) k1]
    exact ⟨inv_mk pb nf (view_of pb nf rfl rfl rfl) h1 h2 rfl rfl (fun k hk _ => h3 k hk) k2, flag_in (by show (Y.th t).part ≠ 0; omega)⟩
  · obtain ⟨k1, k2⟩ := own5s hn hT h2 hp hw
    have hs : step P n cap E t = { E with th := upd E.th t (ETh.pass { E.th t with now := (E.rst (E.th t).srec).map Prod.fst, frm := (E.rst (E.th t).srec).map Prod.fst } (wds n + 1) 6) } := by unfold step; simp only [hph, hw, if_false]
    have ho : over n cap Y t { Y.th t with left := 0 } = (Y.set t (RTh.enter n { Y.th t with left := 0 } 6), false) := by unfold over; simp only [hp]
    unfold Stepped
    rw [hs, rstep_end rfl (by omega) k1, ho]
    exact ⟨inv_mk pb nf (view_of pb nf rfl (enter_flips _ _).1 (enter_flips _ _).2) h1 h2 rfl rfl (fun k hk _ => h3 k hk) k2, flag_in (enter_part _ _ (by decide))⟩
theorem sim_6 (h : Inv P n cap E Y) (ht : t < n) (hp : (Y.th t).part = 6) : Stepped P n cap E Y t := by
  obtain ⟨pb, nf, h1, h2, h3⟩ := h
  have hT := h3 t ht
  have hph : (E.th t).phase = 6 := (hT.p2 (by omega)).trans hp
  obtain ⟨k1, k2⟩ := own6 hT h2 hp (fun k => if k / 16 = tw n - ((Y.th t).left - 1) - 1 ∧ k < n then (Y.th k).flips else (Y.th t).flipped k) rfl
  obtain ⟨l1, l2⟩ := hT.p3 (by omega) (by omega)
  have hs : step P n cap E t = { E with th := upd E.th t (ETh.pass { E.th t with tg := upd (E.th t).tg (E.th t).past (E.togs (E.th t).past) } (tw n) 7) } := by unfold step; simp only [hph]
  unfold Stepped
  rw [hs]
  by_cases hl : 1 < (Y.th t).left
  · have hr : rstep n cap Y t = (Y.set t { Y.th t with left := (Y.th t).left - 1, flipped := fun k => if k / 16 = tw n - ((Y.th t).left - 1) - 1 ∧ k < n then (Y.th k).flips else (Y.th t).flipped k }, false) := by
      unfold rstep
      simp only [hp, if_true]
      rw [if_pos (by omega)]
    rw [hr]
    exact ⟨inv_mk pb nf (view_of pb nf rfl rfl rfl) h1 h2 rfl rfl (fun k hk _ => h3 k hk) (k1 hl), flag_in (by show (Y.th t).part ≠ 0; omega)⟩
  · have hl1 : (Y.th t).left = 1 := by omega
    have hr : rstep n cap Y t = (Y.set t (RTh.enter n { Y.th t with left := 0, flipped := fun k => if k / 16 = tw n - ((Y.th t).left - 1) - 1 ∧ k < n then (Y.th k).flips else (Y.th t).flipped k } 7), false) := by
      unfold rstep
      simp only [hp, if_true]
      rw [if_neg (by omega)]
      unfold over
      simp only [hl1, Nat.sub_self]
    rw [hr]
    exact ⟨inv_mk pb nf (view_of pb nf rfl (enter_flips _ _).1 (enter_flips _ _).2) h1 h2 rfl rfl (fun k hk _ => h3 k hk) (k2 hl1), flag_in (enter_part _ _ (by decide))⟩
end
end Go.Proofs.YtefjhnhdagolhaaGreat.M
