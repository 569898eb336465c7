import Derived.Test.YtefjhnhdagolhaaGreatQ07
import Derived.Test.YtefjhnhdagolhaaGreatQ13
import Derived.Test.YtefjhnhdagolhaaGreatQ11
namespace Go.Proofs.YtefjhnhdagolhaaGreat.tree
open Go.RowKit
open M (upd upd_same upd_other Op Ver ETh ESt tw wds)
theorem upd_int (f : Nat → Int) (i : Nat) (v : Int) (k : Nat) : upd (fun i => Value.int .i64 (f i)) i (.int .i64 v) k = .int .i64 (upd f i v k) := by unfold upd; split <;> rfl
theorem upd_dw {σ : Type} (f : Nat → ETh σ) (t : Nat) (e : ETh σ) (h : e.dw = (f t).dw) (u : Nat) : (upd f t e u).dw = (f u).dw := by
  by_cases q : u = t
  · subst q; rw [upd_same, h]
  · rw [upd_other _ _ q]
theorem upd_tg {σ : Type} (f : Nat → ETh σ) (t : Nat) (e : ETh σ) (h : e.tg = (f t).tg) (u : Nat) : (upd f t e u).tg = (f u).tg := by
  by_cases q : u = t
  · subst q; rw [upd_same, h]
  · rw [upd_other _ _ q]
section
variable {σ : Type} {R : SR σ} {L : Lt} {S : Nat → Prop} {E : ESt σ} {w w' : World}
theorem list_cells {l : List Value} (h : l.length = 1 + 1) : ∃ c0 c1, l = [c0, c1] := by
  match l, h with
  | [c0, c1], _ => exact ⟨c0, c1, rfl⟩
theorem RE.stay (h : RE R L S E w) {S' : Nat → Prop} (hb : ∀ k, S k → w'.heap[k]? = w.heap[k]?) (hS : ∀ k, S k → S' k) (hl : ∀ k, S' k → k < w'.heap.size) : RE R L S' E w' := by
  have hst : ∀ k, (S k ∧ ¬ L.own k) → k < w.heap.size → (S' k ∧ ¬ L.own k) ∧ w'.heap[k]? = w.heap[k]? := fun k hk _ => ⟨⟨hS k hk.1, hk.2⟩, hb k hk.1⟩
  have hI : ∀ k, (S k ∧ ¬ L.own k) → k < w.heap.size := fun k hk => h.lt k hk.1
  have ow : ∀ {k}, L.own k → w'.heap[k]? = w.heap[k]? := fun hk => hb _ (h.ow _ hk)
  obtain ⟨sp, hp1, hp2⟩ := h.po
  obtain ⟨T, ht1, ht2⟩ := h.th
  refine { ok := h.ok, eng := h.eng.of_block (hb _ h.enS.1), enS := ⟨hS _ h.enS.1, h.enS.2⟩, sh := h.sh.of_block (ow (.inl rfl)), tg := h.tg.of_block (ow (.inr (.inl rfl))), an := h.an.of_block (ow (.inr (.inr (.inl rfl)))), po := ?po, rw := ?rw, th := ?th, gd := ?gd, gg := ?gg, ow := fun k hk => hS k (h.ow k hk), lt := hl }
  case po => exact ⟨sp, hp1.of_block (ow (.inr (.inr (.inr (.inl rfl))))), fun r hr => (hp2 r hr).stay hst hI⟩
  case rw => exact fun r hr => (h.rw r hr).of_block (ow (.inr (.inr (.inr (.inr (.inl ⟨r, hr, rfl⟩))))))
  case th =>
    refine ⟨T, ht1.of_block (ow (.inr (.inr (.inr (.inr (.inr (.inl rfl))))))), fun t ht => ?_⟩
    obtain ⟨cv, cf, pv, q⟩ := ht2 t ht
    exact ⟨cv, cf, pv, q.stay hst hI⟩
  case gd => exact fun t ht => (h.gd t ht).of_block (ow (.inr (.inr (.inr (.inr (.inr (.inr ⟨t, ht, .inl rfl⟩)))))))
  case gg => exact fun t ht => (h.gg t ht).of_block (ow (.inr (.inr (.inr (.inr (.inr (.inr ⟨t, ht, .inr rfl⟩)))))))
def grown (S : Nat → Prop) (w w' : World) (k : Nat) : Prop := S k ∨ (w.heap.size ≤ k ∧ k < w'.heap.size)
theorem RE.below (h : RE R L S E w) (hb : Below w.heap.size w w') : RE R L (grown S w w') E w' := by
  refine h.stay (fun k hk => hb.block k (h.lt k hk)) (fun k hk => .inl hk) (fun k hk => ?_)
  rcases hk with hk | hk
  · exact Nat.lt_of_lt_of_le (h.lt k hk) hb.size
  · exact hk.2
theorem RE.drewN (h : RE R L S E w) (n : Nat) : RE R L S E (w.drewN n) := h.stay (fun _ _ => rfl) (fun _ hk => hk) h.lt
theorem RE.mono (h : RE R L S E w) {S' : Nat → Prop} (hS : ∀ k, S k → S' k) (hl : ∀ k, S' k → k < w.heap.size) : RE R L S' E w := h.stay (fun _ _ => rfl) hS hl
theorem RE.set_pub (h : RE R L S E w) (ps pr : Nat) : RE R L S { E with pst := ps, prec := pr } (w.setCell ⟨L.bS, 5, none⟩ (.int .i64 ((ps : Int) * 129 + (pr : Int)))) := by
  obtain ⟨sp, hp1, hp2⟩ := h.po
  obtain ⟨T, ht1, ht2⟩ := h.th
  have hown : L.own (L.bS) := .inl rfl
  have ho : ∀ k, k ≠ L.bS → (w.setCell ⟨L.bS, 5, none⟩ (.int .i64 ((ps : Int) * 129 + (pr : Int)))).heap[k]? = w.heap[k]? := fun k hk => Below.heap_setCell w _ _ k hk
  have hst : ∀ k, (S k ∧ ¬ L.own k) → k < w.heap.size → (S k ∧ ¬ L.own k) ∧ (w.setCell ⟨L.bS, 5, none⟩ (.int .i64 ((ps : Int) * 129 + (pr : Int)))).heap[k]? = w.heap[k]? := fun k hk _ => ⟨hk, ho k (by rintro rfl; exact hk.2 hown)⟩
  have hI : ∀ k, (S k ∧ ¬ L.own k) → k < w.heap.size := fun k hk => h.lt k hk.1
  refine { ok := h.ok, eng := h.eng.of_block (ho _ (fun q => h.enS.2 (by rw [q]; exact hown))), enS := h.enS, sh := ?sh, tg := ?tg, an := ?an, po := ?po, rw := ?rw, th := ?th, gd := ?gd, gg := ?gg, ow := h.ow, lt := fun k hk => (by simpa [World.setCell] using h.lt k hk) }
  case sh =>
    exact h.sh.set 5 _
  case tg =>
    exact h.tg.of_block (ho _ (Row.apart h.tg h.sh (by decide)))
  case an =>
    exact h.an.of_block (ho _ (Row.apart h.an h.sh (by decide)))
  case po =>
    exact ⟨sp, hp1.of_block (ho _ (Row.apart hp1 h.sh (by decide))), fun r hr => (hp2 r hr).stay hst hI⟩
  case rw =>
    exact fun r hr => (h.rw r hr).of_block (ho _ (Row.apart (h.rw r hr) h.sh (by decide)))
  case th =>
    refine ⟨T, ht1.of_block (ho _ (Row.apart ht1 h.sh (by decide))), fun t ht => ?_⟩
    obtain ⟨cv, cf, pv, q⟩ := ht2 t ht
    exact ⟨cv, cf, pv, q.stay hst hI⟩
  case gd =>
    exact fun t ht => (h.gd t ht).of_block (ho _ (Row.apart (h.gd t ht) h.sh (by decide)))
  case gg =>
    exact fun t ht => (h.gg t ht).of_block (ho _ (Row.apart (h.gg t ht) h.sh (by decide)))
theorem RE.set_tog (h : RE R L S E w) (i : Nat) (v : Int) : RE R L S { E with togs := upd E.togs i v } (w.setCell ⟨L.bTg, i, none⟩ (.int .i64 v)) := by
  obtain ⟨sp, hp1, hp2⟩ := h.po
  obtain ⟨T, ht1, ht2⟩ := h.th
  have hown : L.own (L.bTg) := .inr (.inl rfl)
  have ho : ∀ k, k ≠ L.bTg → (w.setCell ⟨L.bTg, i, none⟩ (.int .i64 v)).heap[k]? = w.heap[k]? := fun k hk => Below.heap_setCell w _ _ k hk
  have hst : ∀ k, (S k ∧ ¬ L.own k) → k < w.heap.size → (S k ∧ ¬ L.own k) ∧ (w.setCell ⟨L.bTg, i, none⟩ (.int .i64 v)).heap[k]? = w.heap[k]? := fun k hk _ => ⟨hk, ho k (by rintro rfl; exact hk.2 hown)⟩
  have hI : ∀ k, (S k ∧ ¬ L.own k) → k < w.heap.size := fun k hk => h.lt k hk.1
  refine { ok := h.ok, eng := h.eng.of_block (ho _ (fun q => h.enS.2 (by rw [q]; exact hown))), enS := h.enS, sh := ?sh, tg := ?tg, an := ?an, po := ?po, rw := ?rw, th := ?th, gd := ?gd, gg := ?gg, ow := h.ow, lt := fun k hk => (by simpa [World.setCell] using h.lt k hk) }
  case sh =>
    exact h.sh.of_block (ho _ (Row.apart h.sh h.tg (by decide)))
  case tg =>
    exact (h.tg.set i _).congr (fun k _ => upd_int E.togs i v k)
  case an =>
    exact h.an.of_block (ho _ (Row.apart h.an h.tg (by decide)))
  case po =>
    exact ⟨sp, hp1.of_block (ho _ (Row.apart hp1 h.tg (by decide))), fun r hr => (hp2 r hr).stay hst hI⟩
  case rw =>
    exact fun r hr => (h.rw r hr).of_block (ho _ (Ne.symm (h.ok.tw r hr)))
  case th =>
    refine ⟨T, ht1.of_block (ho _ (Row.apart ht1 h.tg (by decide))), fun t ht => ?_⟩
    obtain ⟨cv, cf, pv, q⟩ := ht2 t ht
    exact ⟨cv, cf, pv, q.stay hst hI⟩
  case gd =>
    exact fun t ht => (h.gd t ht).of_block (ho _ (Row.apart (h.gd t ht) h.tg (by decide)))
  case gg =>
    exact fun t ht => (h.gg t ht).of_block (ho _ (Row.apart (h.gg t ht) h.tg (by decide)))
theorem RE.set_ann (h : RE R L S E w) (t1 i : Nat) (hi : i < 3) (v : Int) : RE R L S { E with ann := upd E.ann t1 (upd (E.ann t1) i v) } (w.setCell ⟨L.bAn, t1 * 3 + i, none⟩ (.int .i64 v)) := by
  obtain ⟨sp, hp1, hp2⟩ := h.po
  obtain ⟨T, ht1, ht2⟩ := h.th
  have hown : L.own (L.bAn) := .inr (.inr (.inl rfl))
  have ho : ∀ k, k ≠ L.bAn → (w.setCell ⟨L.bAn, t1 * 3 + i, none⟩ (.int .i64 v)).heap[k]? = w.heap[k]? := fun k hk => Below.heap_setCell w _ _ k hk
  have hst : ∀ k, (S k ∧ ¬ L.own k) → k < w.heap.size → (S k ∧ ¬ L.own k) ∧ (w.setCell ⟨L.bAn, t1 * 3 + i, none⟩ (.int .i64 v)).heap[k]? = w.heap[k]? := fun k hk _ => ⟨hk, ho k (by rintro rfl; exact hk.2 hown)⟩
  have hI : ∀ k, (S k ∧ ¬ L.own k) → k < w.heap.size := fun k hk => h.lt k hk.1
  refine { ok := h.ok, eng := h.eng.of_block (ho _ (fun q => h.enS.2 (by rw [q]; exact hown))), enS := h.enS, sh := ?sh, tg := ?tg, an := ?an, po := ?po, rw := ?rw, th := ?th, gd := ?gd, gg := ?gg, ow := h.ow, lt := fun k hk => (by simpa [World.setCell] using h.lt k hk) }
  case sh =>
    exact h.sh.of_block (ho _ (Row.apart h.sh h.an (by decide)))
  case tg =>
    exact h.tg.of_block (ho _ (Row.apart h.tg h.an (by decide)))
  case an =>
    refine (h.an.set hi _).congr (fun k _ => ?_)
    dsimp only
    by_cases q : k / 3 = t1
    · rw [q, upd_same, upd_same]; exact upd_int _ i v _
    · rw [upd_other _ _ q, upd_other _ _ q]
  case po =>
    exact ⟨sp, hp1.of_block (ho _ (Row.apart hp1 h.an (by decide))), fun r hr => (hp2 r hr).stay hst hI⟩
  case rw =>
    exact fun r hr => (h.rw r hr).of_block (ho _ (Row.apart (h.rw r hr) h.an (by decide)))
  case th =>
    refine ⟨T, ht1.of_block (ho _ (Row.apart ht1 h.an (by decide))), fun t ht => ?_⟩
    obtain ⟨cv, cf, pv, q⟩ := ht2 t ht
    exact ⟨cv, cf, pv, q.stay hst hI⟩
  case gd =>
    exact fun t ht => (h.gd t ht).of_block (ho _ (Row.apart (h.gd t ht) h.an (by decide)))
  case gg =>
    exact fun t ht => (h.gg t ht).of_block (ho _ (Row.apart (h.gg t ht) h.an (by decide)))
theorem RE.set_word (h : RE R L S E w) (r0 : Nat) (hr0 : r0 < 2 * L.n + 1) (i : Nat) (v : Int) : RE R L S { E with rw := upd E.rw r0 (upd (E.rw r0) i v) } (w.setCell ⟨L.bW r0, i, none⟩ (.int .i64 v)) := by
  obtain ⟨sp, hp1, hp2⟩ := h.po
  obtain ⟨T, ht1, ht2⟩ := h.th
  have hown : L.own (L.bW r0) := .inr (.inr (.inr (.inr (.inl ⟨r0, hr0, rfl⟩))))
  have ho : ∀ k, k ≠ L.bW r0 → (w.setCell ⟨L.bW r0, i, none⟩ (.int .i64 v)).heap[k]? = w.heap[k]? := fun k hk => Below.heap_setCell w _ _ k hk
  have hst : ∀ k, (S k ∧ ¬ L.own k) → k < w.heap.size → (S k ∧ ¬ L.own k) ∧ (w.setCell ⟨L.bW r0, i, none⟩ (.int .i64 v)).heap[k]? = w.heap[k]? := fun k hk _ => ⟨hk, ho k (by rintro rfl; exact hk.2 hown)⟩
  have hI : ∀ k, (S k ∧ ¬ L.own k) → k < w.heap.size := fun k hk => h.lt k hk.1
  refine { ok := h.ok, eng := h.eng.of_block (ho _ (fun q => h.enS.2 (by rw [q]; exact hown))), enS := h.enS, sh := ?sh, tg := ?tg, an := ?an, po := ?po, rw := ?rw, th := ?th, gd := ?gd, gg := ?gg, ow := h.ow, lt := fun k hk => (by simpa [World.setCell] using h.lt k hk) }
  case sh =>
    exact h.sh.of_block (ho _ (Row.apart h.sh (h.rw r0 hr0) (by decide)))
  case tg =>
    exact h.tg.of_block (ho _ (h.ok.tw r0 hr0))
  case an =>
    exact h.an.of_block (ho _ (Row.apart h.an (h.rw r0 hr0) (by decide)))
  case po =>
    exact ⟨sp, hp1.of_block (ho _ (Row.apart hp1 (h.rw r0 hr0) (by decide))), fun r hr => (hp2 r hr).stay hst hI⟩
  case rw =>
    intro r hr
    show Fn _ _ _ _ (fun k => .int .i64 (upd E.rw r0 (upd (E.rw r0) i v) r k))
    by_cases q : r = r0
    · subst q
      rw [upd_same]
      exact ((h.rw r hr).set i _).congr (fun k _ => upd_int (E.rw r) i v k)
    · rw [upd_other _ _ q]
      exact (h.rw r hr).of_block (ho _ (fun q2 => q (h.ok.ww r r0 hr hr0 q2)))
  case th =>
    refine ⟨T, ht1.of_block (ho _ (Row.apart ht1 (h.rw r0 hr0) (by decide))), fun t ht => ?_⟩
    obtain ⟨cv, cf, pv, q⟩ := ht2 t ht
    exact ⟨cv, cf, pv, q.stay hst hI⟩
  case gd =>
    exact fun t ht => (h.gd t ht).of_block (ho _ (Row.apart (h.gd t ht) (h.rw r0 hr0) (by decide)))
  case gg =>
    exact fun t ht => (h.gg t ht).of_block (ho _ (Row.apart (h.gg t ht) (h.rw r0 hr0) (by decide)))
theorem RE.set_state (h : RE R L S E w) (r0 : Nat) (hr0 : r0 < 2 * L.n + 1) (b : Nat) (x : Option (Ver σ × Ver σ)) (hx : EdRep R (fun k => S k ∧ ¬ L.own k) w x (some b)) : RE R L S { E with rst := upd E.rst r0 x } (w.setCell ⟨L.bP, r0 * 2 + 1, none⟩ (.pointer (some ⟨b, 0, none⟩))) := by
  obtain ⟨sp, hp1, hp2⟩ := h.po
  obtain ⟨T, ht1, ht2⟩ := h.th
  have hown : L.own (L.bP) := .inr (.inr (.inr (.inl rfl)))
  have ho : ∀ k, k ≠ L.bP → (w.setCell ⟨L.bP, r0 * 2 + 1, none⟩ (.pointer (some ⟨b, 0, none⟩))).heap[k]? = w.heap[k]? := fun k hk => Below.heap_setCell w _ _ k hk
  have hst : ∀ k, (S k ∧ ¬ L.own k) → k < w.heap.size → (S k ∧ ¬ L.own k) ∧ (w.setCell ⟨L.bP, r0 * 2 + 1, none⟩ (.pointer (some ⟨b, 0, none⟩))).heap[k]? = w.heap[k]? := fun k hk _ => ⟨hk, ho k (by rintro rfl; exact hk.2 hown)⟩
  have hI : ∀ k, (S k ∧ ¬ L.own k) → k < w.heap.size := fun k hk => h.lt k hk.1
  refine { ok := h.ok, eng := h.eng.of_block (ho _ (fun q => h.enS.2 (by rw [q]; exact hown))), enS := h.enS, sh := ?sh, tg := ?tg, an := ?an, po := ?po, rw := ?rw, th := ?th, gd := ?gd, gg := ?gg, ow := h.ow, lt := fun k hk => (by simpa [World.setCell] using h.lt k hk) }
  case sh =>
    exact h.sh.of_block (ho _ (Row.apart h.sh hp1 (by decide)))
  case tg =>
    exact h.tg.of_block (ho _ (Row.apart h.tg hp1 (by decide)))
  case an =>
    exact h.an.of_block (ho _ (Row.apart h.an hp1 (by decide)))
  case po =>
    refine ⟨upd sp r0 (some b), (hp1.set (i := r0) (j := 1) (by decide) _).congr (fun k _ => ?_), fun r hr => ?_⟩
    · by_cases q : k / 2 = r0
      · rw [q, upd_same]
        rcases Nat.mod_two_eq_zero_or_one k with m | m
        · rw [m, upd_other _ _ (by decide)]
          rfl
        · rw [m, upd_same]
          simp [upd_same]
      · rw [upd_other _ _ q]
        simp [upd_other _ _ q]
    · show EdRep R _ _ (upd E.rst r0 x r) (upd sp r0 (some b) r)
      by_cases q : r = r0
      · subst q; rw [upd_same, upd_same]; exact hx.stay hst hI
      · rw [upd_other _ _ q, upd_other _ _ q]; exact (hp2 r hr).stay hst hI
  case rw =>
    exact fun r hr => (h.rw r hr).of_block (ho _ (Row.apart (h.rw r hr) hp1 (by decide)))
  case th =>
    refine ⟨T, ht1.of_block (ho _ (Row.apart ht1 hp1 (by decide))), fun t ht => ?_⟩
    obtain ⟨cv, cf, pv, q⟩ := ht2 t ht
    exact ⟨cv, cf, pv, q.stay hst hI⟩
  case gd =>
    exact fun t ht => (h.gd t ht).of_block (ho _ (Row.apart (h.gd t ht) hp1 (by decide)))
  case gg =>
    exact fun t ht => (h.gg t ht).of_block (ho _ (Row.apart (h.gg t ht) hp1 (by decide)))
theorem RE.set_draft (h : RE R L S E w) (t0 : Nat) (ht0 : t0 < L.n) (i : Nat) (v : Int) : RE R L S { E with th := upd E.th t0 { E.th t0 with dw := upd (E.th t0).dw i v } } (w.setCell ⟨L.gD t0, i, none⟩ (.int .i64 v)) := by
  obtain ⟨sp, hp1, hp2⟩ := h.po
  obtain ⟨T, ht1, ht2⟩ := h.th
  have hown : L.own (L.gD t0) := .inr (.inr (.inr (.inr (.inr (.inr ⟨t0, ht0, .inl rfl⟩)))))
  have ho : ∀ k, k ≠ L.gD t0 → (w.setCell ⟨L.gD t0, i, none⟩ (.int .i64 v)).heap[k]? = w.heap[k]? := fun k hk => Below.heap_setCell w _ _ k hk
  have hst : ∀ k, (S k ∧ ¬ L.own k) → k < w.heap.size → (S k ∧ ¬ L.own k) ∧ (w.setCell ⟨L.gD t0, i, none⟩ (.int .i64 v)).heap[k]? = w.heap[k]? := fun k hk _ => ⟨hk, ho k (by rintro rfl; exact hk.2 hown)⟩
  have hI : ∀ k, (S k ∧ ¬ L.own k) → k < w.heap.size := fun k hk => h.lt k hk.1
  refine { ok := h.ok, eng := h.eng.of_block (ho _ (fun q => h.enS.2 (by rw [q]; exact hown))), enS := h.enS, sh := ?sh, tg := ?tg, an := ?an, po := ?po, rw := ?rw, th := ?th, gd := ?gd, gg := ?gg, ow := h.ow, lt := fun k hk => (by simpa [World.setCell] using h.lt k hk) }
  case sh =>
    exact h.sh.of_block (ho _ (Row.apart h.sh (h.gd t0 ht0) (by decide)))
  case tg =>
    exact h.tg.of_block (ho _ (Row.apart h.tg (h.gd t0 ht0) (by decide)))
  case an =>
    exact h.an.of_block (ho _ (Row.apart h.an (h.gd t0 ht0) (by decide)))
  case po =>
    exact ⟨sp, hp1.of_block (ho _ (Row.apart hp1 (h.gd t0 ht0) (by decide))), fun r hr => (hp2 r hr).stay hst hI⟩
  case rw =>
    exact fun r hr => (h.rw r hr).of_block (ho _ (Row.apart (h.rw r hr) (h.gd t0 ht0) (by decide)))
  case th =>
    refine ⟨T, ht1.of_block (ho _ (Row.apart ht1 (h.gd t0 ht0) (by decide))), fun t ht => ?_⟩
    obtain ⟨cv, cf, pv, q⟩ := ht2 t ht
    refine ⟨cv, cf, pv, ?_⟩
    have q' := q.stay hst hI
    show ThRep R L _ _ t (upd E.th t0 _ t) _ _ _ _
    by_cases c : t = t0
    · subst c; rw [upd_same]; exact ⟨q'.like, q'.now, q'.frm, q'.pend⟩
    · rw [upd_other _ _ c]; exact q'
  case gd =>
    intro t ht
    by_cases q : t = t0
    · subst q
      refine ((h.gd t ht).set i _).congr (fun k _ => ?_)
      show _ = Value.int .i64 ((upd E.th t _ t).dw k)
      rw [upd_same]
      exact upd_int (E.th t).dw i v k
    · refine ((h.gd t ht).of_block (ho _ (fun q2 => q (h.ok.dd t t0 ht ht0 q2)))).congr (fun k _ => ?_)
      show _ = Value.int .i64 ((upd E.th t0 _ t).dw k)
      rw [upd_other _ _ q]
  case gg =>
    intro t ht
    refine ((h.gg t ht).of_block (ho _ (Ne.symm (h.ok.dg t0 t ht0 ht)))).congr (fun k _ => ?_)
    exact congrArg _ (congrFun (upd_tg E.th t0 { E.th t0 with dw := upd (E.th t0).dw i v } rfl t).symm k)
theorem RE.set_read (h : RE R L S E w) (t0 : Nat) (ht0 : t0 < L.n) (i : Nat) (v : Int) : RE R L S { E with th := upd E.th t0 { E.th t0 with tg := upd (E.th t0).tg i v } } (w.setCell ⟨L.gG t0, i, none⟩ (.int .i64 v)) := by
  obtain ⟨sp, hp1, hp2⟩ := h.po
  obtain ⟨T, ht1, ht2⟩ := h.th
  have hown : L.own (L.gG t0) := .inr (.inr (.inr (.inr (.inr (.inr ⟨t0, ht0, .inr rfl⟩)))))
  have ho : ∀ k, k ≠ L.gG t0 → (w.setCell ⟨L.gG t0, i, none⟩ (.int .i64 v)).heap[k]? = w.heap[k]? := fun k hk => Below.heap_setCell w _ _ k hk
  have hst : ∀ k, (S k ∧ ¬ L.own k) → k < w.heap.size → (S k ∧ ¬ L.own k) ∧ (w.setCell ⟨L.gG t0, i, none⟩ (.int .i64 v)).heap[k]? = w.heap[k]? := fun k hk _ => ⟨hk, ho k (by rintro rfl; exact hk.2 hown)⟩
  have hI : ∀ k, (S k ∧ ¬ L.own k) → k < w.heap.size := fun k hk => h.lt k hk.1
  refine { ok := h.ok, eng := h.eng.of_block (ho _ (fun q => h.enS.2 (by rw [q]; exact hown))), enS := h.enS, sh := ?sh, tg := ?tg, an := ?an, po := ?po, rw := ?rw, th := ?th, gd := ?gd, gg := ?gg, ow := h.ow, lt := fun k hk => (by simpa [World.setCell] using h.lt k hk) }
  case sh =>
    exact h.sh.of_block (ho _ (Row.apart h.sh (h.gg t0 ht0) (by decide)))
  case tg =>
    exact h.tg.of_block (ho _ (Row.apart h.tg (h.gg t0 ht0) (by decide)))
  case an =>
    exact h.an.of_block (ho _ (Row.apart h.an (h.gg t0 ht0) (by decide)))
  case po =>
    exact ⟨sp, hp1.of_block (ho _ (Row.apart hp1 (h.gg t0 ht0) (by decide))), fun r hr => (hp2 r hr).stay hst hI⟩
  case rw =>
    exact fun r hr => (h.rw r hr).of_block (ho _ (Row.apart (h.rw r hr) (h.gg t0 ht0) (by decide)))
  case th =>
    refine ⟨T, ht1.of_block (ho _ (Row.apart ht1 (h.gg t0 ht0) (by decide))), fun t ht => ?_⟩
    obtain ⟨cv, cf, pv, q⟩ := ht2 t ht
    refine ⟨cv, cf, pv, ?_⟩
    have q' := q.stay hst hI
    show ThRep R L _ _ t (upd E.th t0 _ t) _ _ _ _
    by_cases c : t = t0
    · subst c; rw [upd_same]; exact ⟨q'.like, q'.now, q'.frm, q'.pend⟩
    · rw [upd_other _ _ c]; exact q'
  case gd =>
    intro t ht
    refine ((h.gd t ht).of_block (ho _ (h.ok.dg t t0 ht ht0))).congr (fun k _ => ?_)
    exact congrArg _ (congrFun (upd_dw E.th t0 { E.th t0 with tg := upd (E.th t0).tg i v } rfl t).symm k)
  case gg =>
    intro t ht
    by_cases q : t = t0
    · subst q
      refine ((h.gg t ht).set i _).congr (fun k _ => ?_)
      show _ = Value.int .i64 ((upd E.th t _ t).tg k)
      rw [upd_same]
      exact upd_int (E.th t).tg i v k
    · refine ((h.gg t ht).of_block (ho _ (fun q2 => q (h.ok.gg t t0 ht ht0 q2)))).congr (fun k _ => ?_)
      show _ = Value.int .i64 ((upd E.th t0 _ t).tg k)
      rw [upd_other _ _ q]
theorem RE.set_cell (h : RE R L S E w) (t0 : Nat) (ht0 : t0 < L.n) (j : Nat) (hj : j < 28) (v : Value) (e' : ETh σ) (hd : e'.dw = (E.th t0).dw) (hg : e'.tg = (E.th t0).tg) (hn : e'.now = (E.th t0).now) (hf : e'.frm = (E.th t0).frm) (hp : e'.pend = (E.th t0).pend) (hset : ∀ c0 c1 d0 d1 pv, (thCells L t0 (E.th t0) [c0, c1] [d0, d1] pv).set j v = thCells L t0 e' [c0, c1] [d0, d1] pv) : RE R L S { E with th := upd E.th t0 e' } (w.setCell ⟨L.g, t0 * 28 + j, none⟩ v) := by
  obtain ⟨sp, hp1, hp2⟩ := h.po
  obtain ⟨T, ht1, ht2⟩ := h.th
  have hown : L.own (L.g) := .inr (.inr (.inr (.inr (.inr (.inl rfl)))))
  have ho : ∀ k, k ≠ L.g → (w.setCell ⟨L.g, t0 * 28 + j, none⟩ v).heap[k]? = w.heap[k]? := fun k hk => Below.heap_setCell w _ _ k hk
  have hst : ∀ k, (S k ∧ ¬ L.own k) → k < w.heap.size → (S k ∧ ¬ L.own k) ∧ (w.setCell ⟨L.g, t0 * 28 + j, none⟩ v).heap[k]? = w.heap[k]? := fun k hk _ => ⟨hk, ho k (by rintro rfl; exact hk.2 hown)⟩
  have hI : ∀ k, (S k ∧ ¬ L.own k) → k < w.heap.size := fun k hk => h.lt k hk.1
  refine { ok := h.ok, eng := h.eng.of_block (ho _ (fun q => h.enS.2 (by rw [q]; exact hown))), enS := h.enS, sh := ?sh, tg := ?tg, an := ?an, po := ?po, rw := ?rw, th := ?th, gd := ?gd, gg := ?gg, ow := h.ow, lt := fun k hk => (by simpa [World.setCell] using h.lt k hk) }
  case sh =>
    exact h.sh.of_block (ho _ (Row.apart h.sh ht1 (by decide)))
  case tg =>
    exact h.tg.of_block (ho _ (Row.apart h.tg ht1 (by decide)))
  case an =>
    exact h.an.of_block (ho _ (Row.apart h.an ht1 (by decide)))
  case po =>
    exact ⟨sp, hp1.of_block (ho _ (Row.apart hp1 ht1 (by decide))), fun r hr => (hp2 r hr).stay hst hI⟩
  case rw =>
    exact fun r hr => (h.rw r hr).of_block (ho _ (Row.apart (h.rw r hr) ht1 (by decide)))
  case th =>
    refine ⟨_, ht1.set hj v, fun t ht => ?_⟩
    obtain ⟨cv, cf, pv, q⟩ := ht2 t ht
    refine ⟨cv, cf, pv, ?_⟩
    show ThRep R L _ _ t (upd E.th t0 e' t) (upd T t0 (upd (T t0) j v) t) _ _ _
    have q' := q.stay hst hI
    by_cases c : t = t0
    · subst c
      rw [upd_same, upd_same]
      obtain ⟨c0, c1, rfl⟩ := list_cells q.now.1
      obtain ⟨d0, d1, rfl⟩ := list_cells q.frm.1
      refine ⟨?_, by rw [hn]; exact q'.now, by rw [hf]; exact q'.frm, by rw [hp]; exact q'.pend⟩
      have := q.like.set j v
      rwa [hset] at this
    · rw [upd_other _ _ c, upd_other _ _ c]; exact q'
  case gd =>
    intro t ht
    refine ((h.gd t ht).of_block (ho _ (Row.apart (h.gd t ht) ht1 (by decide)))).congr (fun k _ => ?_)
    show _ = Value.int .i64 ((upd E.th t0 e' t).dw k)
    rw [upd_dw _ _ _ hd]
  case gg =>
    intro t ht
    refine ((h.gg t ht).of_block (ho _ (Row.apart (h.gg t ht) ht1 (by decide)))).congr (fun k _ => ?_)
    show _ = Value.int .i64 ((upd E.th t0 e' t).tg k)
    rw [upd_tg _ _ _ hg]
theorem RE.set_pend (h : RE R L S E w) (t0 : Nat) (ht0 : t0 < L.n) (pv : Value) (p : List Nat) (hp : PRep (fun k => S k ∧ ¬ L.own k) w p pv) (e' : ETh σ) (he : e' = { E.th t0 with pend := p }) (hd : e'.dw = (E.th t0).dw) (hg : e'.tg = (E.th t0).tg) : RE R L S { E with th := upd E.th t0 e' } (w.setCell ⟨L.g, t0 * 28 + 20, none⟩ pv) := by
  obtain ⟨sp, hp1, hp2⟩ := h.po
  obtain ⟨T, ht1, ht2⟩ := h.th
  have hown : L.own (L.g) := .inr (.inr (.inr (.inr (.inr (.inl rfl)))))
  have ho : ∀ k, k ≠ L.g → (w.setCell ⟨L.g, t0 * 28 + 20, none⟩ pv).heap[k]? = w.heap[k]? := fun k hk => Below.heap_setCell w _ _ k hk
  have hst : ∀ k, (S k ∧ ¬ L.own k) → k < w.heap.size → (S k ∧ ¬ L.own k) ∧ (w.setCell ⟨L.g, t0 * 28 + 20, none⟩ pv).heap[k]? = w.heap[k]? := fun k hk _ => ⟨hk, ho k (by rintro rfl; exact hk.2 hown)⟩
  have hI : ∀ k, (S k ∧ ¬ L.own k) → k < w.heap.size := fun k hk => h.lt k hk.1
  refine { ok := h.ok, eng := h.eng.of_block (ho _ (fun q => h.enS.2 (by rw [q]; exact hown))), enS := h.enS, sh := ?sh, tg := ?tg, an := ?an, po := ?po, rw := ?rw, th := ?th, gd := ?gd, gg := ?gg, ow := h.ow, lt := fun k hk => (by simpa [World.setCell] using h.lt k hk) }
  case sh =>
    exact h.sh.of_block (ho _ (Row.apart h.sh ht1 (by decide)))
  case tg =>
    exact h.tg.of_block (ho _ (Row.apart h.tg ht1 (by decide)))
  case an =>
    exact h.an.of_block (ho _ (Row.apart h.an ht1 (by decide)))
  case po =>
    exact ⟨sp, hp1.of_block (ho _ (Row.apart hp1 ht1 (by decide))), fun r hr => (hp2 r hr).stay hst hI⟩
  case rw =>
    exact fun r hr => (h.rw r hr).of_block (ho _ (Row.apart (h.rw r hr) ht1 (by decide)))
  case th =>
    refine ⟨_, ht1.set (j := 20) (by decide) pv, fun t ht => ?_⟩
    obtain ⟨cv, cf, pv0, q⟩ := ht2 t ht
    have q' := q.stay hst hI
    by_cases c : t = t0
    · subst c
      refine ⟨cv, cf, pv, ?_⟩
      show ThRep R L _ _ t (upd E.th t e' t) (upd T t (upd (T t) 20 pv) t) _ _ _
      rw [upd_same, upd_same, he]
      obtain ⟨c0, c1, rfl⟩ := list_cells q.now.1
      obtain ⟨d0, d1, rfl⟩ := list_cells q.frm.1
      exact ⟨q.like.set 20 pv, q'.now, q'.frm, hp.stay hst hI⟩
    · refine ⟨cv, cf, pv0, ?_⟩
      show ThRep R L _ _ t (upd E.th t0 e' t) (upd T t0 (upd (T t0) 20 pv) t) _ _ _
      rw [upd_other _ _ c, upd_other _ _ c]; exact q'
  case gd =>
    intro t ht
    refine ((h.gd t ht).of_block (ho _ (Row.apart (h.gd t ht) ht1 (by decide)))).congr (fun k _ => ?_)
    show _ = Value.int .i64 ((upd E.th t0 e' t).dw k)
    rw [upd_dw _ _ _ hd]
  case gg =>
    intro t ht
    refine ((h.gg t ht).of_block (ho _ (Row.apart (h.gg t ht) ht1 (by decide)))).congr (fun k _ => ?_)
    show _ = Value.int .i64 ((upd E.th t0 e' t).tg k)
    rw [upd_tg _ _ _ hg]
end
end Go.Proofs.YtefjhnhdagolhaaGreat.tree
namespace Go.Proofs.YtefjhnhdagolhaaGreat.tree
open Go.RowKit
open M (upd upd_same upd_other Op Ver ETh ESt tw wds)
attribute [local go_sem ↓] Go.wp_at_zero Go.wp_at_succ
theorem upd_upd {α : Type} (f : Nat → α) (t : Nat) (a b : α) : upd (upd f t a) t b = upd f t b := by funext k; unfold upd; split <;> rfl
section
variable {σ : Type} {R : SR σ} {L : Lt} {S : Nat → Prop} {E E' : ESt σ} {w : World} {t : Nat}
structure Left (R : SR σ) (L : Lt) (S : Nat → Prop) (w : World) (E' : ESt σ) (w' : World) : Prop where
  re : RE R L (grown S w w') E' w'
  fr : Fr L.own w w'
theorem Left.of {w' : World} (h : RE R L S E' w') (hf : Fr L.own w w') {w0 : World} (hw : w' = w0) : Left R L S w E' w0 := by
  subst hw
  refine ⟨h.mono (fun _ hk => .inl hk) (fun k hk => ?_), hf⟩
  rcases hk with hk | hk
  · exact h.lt k hk
  · exact hk.2
theorem Left.next {E'' : ESt σ} {w1 w2 : World} (h : Left R L S w E' w1) (h' : Left R L (grown S w w1) w1 E'' w2) : Left R L S w E'' w2 := by
  refine ⟨h'.re.mono (fun k hk => ?_) (fun k hk => ?_), h.fr.trans h'.fr⟩
  · rcases hk with (hk | hk) | hk
    · exact .inl hk
    · exact .inr ⟨hk.1, Nat.lt_of_lt_of_le hk.2 h'.fr.size⟩
    · exact .inr ⟨Nat.le_trans h.fr.size hk.1, hk.2⟩
  · rcases hk with hk | hk
    · exact h'.re.lt k (.inl (.inl hk))
    · exact hk.2
theorem Left.below (h : RE R L S E w) {w1 : World} (hb : Below w.heap.size w w1) : Left R L S w E w1 := ⟨h.below hb, Fr.of_below hb⟩
theorem RE.drew (h : RE R L S E w) : RE R L S E w.drew := h.stay (fun _ _ => rfl) (fun _ hk => hk) h.lt
theorem RE.cast (h : RE R L S E w) (e : E = E') : RE R L S E' w := e ▸ h
theorem Left.cast {E'' : ESt σ} {w1 : World} (h : Left R L S w E' w1) (e : E' = E'') : Left R L S w E'' w1 := e ▸ h
theorem own_g : L.own L.g := .inr (.inr (.inr (.inr (.inr (.inl rfl)))))
theorem RE.cells (h : RE R L S E w) (ht : t < L.n) {e : ETh σ} (he : E.th t = e) : ∃ cv cf pv, (∀ j v, j < 28 → (thCells L t e cv cf pv)[j]? = some v → w.cell? ⟨L.g, t * 28 + j, none⟩ = some v) ∧ DRep R (fun k => S k ∧ ¬ L.own k) w e.now cv ∧ DRep R (fun k => S k ∧ ¬ L.own k) w e.frm cf ∧ PRep (fun k => S k ∧ ¬ L.own k) w e.pend pv ∧ ∀ o, w.frozen? ⟨L.g, o, none⟩ = false := by
  subst he
  obtain ⟨T, h1, h2⟩ := h.th
  obtain ⟨cv, cf, pv, q⟩ := h2 t ht
  exact ⟨cv, cf, pv, fun j v hj hv => by rw [h1.cell (Nat.lt_of_lt_of_le ht h.ok.gn) hj, q.like j v hv], q.now, q.frm, q.pend, h1.frozen⟩
set_option maxHeartbeats 1000000 in
theorem enter_w (h : RE R L S E w) (ht : t < L.n) (p : Nat) :
    Calls Tryz.prog 336 #[.pointer (some ⟨L.g, t * 28, none⟩), .int .i64 (p : Int)] w fun e w' => e = .returned (.tuple #[]) ∧ RE R L S { E with th := upd E.th t ((E.th t).enter p) } w' ∧ Fr L.own w w' := by
  obtain ⟨cv, cf, pv, hc, -, -, -, hf⟩ := h.cells ht rfl
  have c3 := hc 3 _ (by decide) rfl
  have c4 := hc 4 _ (by decide) rfl
  have f3 := hf (t * 28 + 3)
  have f4 := hf (t * 28 + 4)
  have HH := hide h
  clear h hc hf
  go_enter Tryz.func336, Tryz.ntmps336
  go_wp2
  refine bodyPost_end (v := .tuple #[]) (by simp [results, Tryz.results336, go_sem]) rfl ⟨rfl, ?_, ?_⟩
  · have h1 := HH.out.set_cell t ht 3 (by decide) (.int .i64 (p : Int)) { E.th t with phase := p } rfl rfl rfl rfl rfl (by intros; rfl)
    have h2 := h1.set_cell t ht 4 (by decide) (.int .i64 0) { E.th t with phase := p, past := 0 } (by simp [upd_same]) (by simp [upd_same]) (by simp [upd_same]) (by simp [upd_same]) (by simp [upd_same]) (by intros; simp only [upd_same]; rfl)
    refine h2.cast ?_
    simp only [upd_upd]
    rfl
  · exact (Fr.set w own_g _).trans (Fr.set _ own_g _)
theorem RE.cell1 (h : RE R L S E w) (ht : t < L.n) (j : Nat) (hj : j < 28) (v : Value) (e' : ETh σ) (hd : e'.dw = (E.th t).dw) (hg : e'.tg = (E.th t).tg) (hn : e'.now = (E.th t).now) (hf : e'.frm = (E.th t).frm) (hp : e'.pend = (E.th t).pend) (hset : ∀ c0 c1 d0 d1 pv, (thCells L t (E.th t) [c0, c1] [d0, d1] pv).set j v = thCells L t e' [c0, c1] [d0, d1] pv) :
    RE R L S { E with th := upd E.th t e' } (w.setCell ⟨L.g, t * 28 + j, none⟩ v) ∧ Fr L.own w (w.setCell ⟨L.g, t * 28 + j, none⟩ v) :=
  ⟨h.set_cell t ht j hj v e' hd hg hn hf hp hset, Fr.set w own_g _⟩
set_option maxHeartbeats 1000000 in
theorem pass_w (h : RE R L S E w) (ht : t < L.n) (steps p : Nat) (hs : steps ≤ 1000000) (hq : (E.th t).past ≤ 1000000) :
    Calls Tryz.prog 339 #[.pointer (some ⟨L.g, t * 28, none⟩), .int .i64 (steps : Int), .int .i64 (p : Int)] w fun e w' => e = .returned (.tuple #[]) ∧ RE R L S { E with th := upd E.th t ((E.th t).pass steps p) } w' ∧ Fr L.own w w' := by
  obtain ⟨cv, cf, pv, hc, -, -, -, hf⟩ := h.cells ht rfl
  have c4 := hc 4 _ (by decide) rfl
  have f4 := hf (t * 28 + 4)
  obtain ⟨h1, k1⟩ := h.cell1 ht 4 (by decide) (.int .i64 (((E.th t).past : Int) + 1)) { E.th t with past := (E.th t).past + 1 } rfl rfl rfl rfl rfl (by intros; rfl)
  have HH := hide h1
  have HK := hide k1
  clear h hc hf h1 k1
  by_cases he : (E.th t).past + 1 = steps
  · have hpass := hide (show (E.th t).pass steps p = (E.th t).enter p by unfold ETh.pass; rw [if_pos he])
    have he1 : ((E.th t).past : Int) + 1 ≤ (steps : Int) := by omega
    have he2 : (steps : Int) ≤ ((E.th t).past : Int) + 1 := by omega
    clear he
    go_enter Tryz.func339, Tryz.ntmps339
    go_wp2_with fail
    refine (enter_w HH.out ht p).mono ?_
    rintro e w1 ⟨rfl, r1, k2⟩
    have HR := hide r1
    have HK2 := hide k2
    clear r1 k2
    go_wp2
    refine bodyPost_end (v := .tuple #[]) (by simp [results, Tryz.results339, go_sem]) rfl ⟨rfl, ?_, HK.out.trans HK2.out⟩
    refine HR.out.cast ?_
    rw [hpass.out]
    simp only [upd_upd, upd_same]
    rfl
  · have he' : ¬ ((E.th t).past : Int) + 1 = (steps : Int) := by omega
    have hpass := hide (show (E.th t).pass steps p = { E.th t with past := (E.th t).past + 1 } by unfold ETh.pass; rw [if_neg he])
    go_enter Tryz.func339, Tryz.ntmps339
    go_wp2
    refine bodyPost_end (v := .tuple #[]) (by simp [results, Tryz.results339, go_sem]) rfl ⟨rfl, ?_, HK.out⟩
    rw [hpass.out]
    exact HH.out
set_option maxHeartbeats 1000000 in
theorem approach_w (h : RE R L S E w) (ht : t < L.n) :
    Calls Tryz.prog 351 #[.pointer (some ⟨L.g, t * 28, none⟩)] w fun e w' => e = .returned (.tuple #[]) ∧ RE R L S { E with th := upd E.th t (E.th t).approach } w' ∧ Fr L.own w w' := by
  obtain ⟨cv, cf, pv, hc, -, -, -, -⟩ := h.cells ht rfl
  have c9 := hc 9 _ (by decide) rfl
  have HH := hide h
  clear h hc
  by_cases he : 0 < (E.th t).backoff
  · have he' : (0 : Int) < ((E.th t).backoff : Int) := by omega
    rw [show (E.th t).approach = (E.th t).enter 3 by unfold ETh.approach; rw [if_pos he]]
    go_enter Tryz.func351, Tryz.ntmps351
    go_wp2_with fail
    refine (enter_w HH.out ht 3).mono ?_
    rintro e w1 ⟨rfl, r1, k2⟩
    have HR := hide (And.intro r1 k2)
    clear r1 k2
    go_wp2
    exact bodyPost_end (v := .tuple #[]) (by simp [results, Tryz.results351, go_sem]) rfl ⟨rfl, HR.out⟩
  · have he' : ¬ (0 : Int) < ((E.th t).backoff : Int) := by omega
    rw [show (E.th t).approach = (E.th t).enter 4 by unfold ETh.approach; rw [if_neg he]]
    go_enter Tryz.func351, Tryz.ntmps351
    go_wp2_with fail
    refine (enter_w HH.out ht 4).mono ?_
    rintro e w1 ⟨rfl, r1, k2⟩
    have HR := hide (And.intro r1 k2)
    clear r1 k2
    go_wp2
    exact bodyPost_end (v := .tuple #[]) (by simp [results, Tryz.results351, go_sem]) rfl ⟨rfl, HR.out⟩
end
end Go.Proofs.YtefjhnhdagolhaaGreat.tree
