import Derived.Test.YtefjhnhdagolhaaGreatQ04
import Derived.Test.YtefjhnhdagolhaaGreatQ00
import Derived.Test.YtefjhnhdagolhaaGreatQ01
import Derived.Test.YtefjhnhdagolhaaGreatProg
namespace Go.Proofs.YtefjhnhdagolhaaGreat.M
section
variable {σ : Type} {P : Plain σ} {sz : σ → Nat} {n cap : Nat} {E : ESt σ} {Y : RSt} {t : Nat}
def Grows (sz : σ → Nat) (P : Plain σ) : Prop := sz P.first ≤ 2 ∧ ∀ s op, sz (P.apply s op).1 ≤ sz s + 2
theorem run_sz (h : Grows sz P) (ops : Nat → Nat → Op) : ∀ (l : List Nat) (r : Rp σ), sz (r.run P ops l).st ≤ sz r.st + 2 * l.length
  | [], _ => Nat.le_refl _
  | k :: l, r => by
    have h1 := run_sz h ops l (r.next P ops k)
    have h2 := h.2 r.st (ops k (r.c k))
    show sz ((r.next P ops k).run P ops l).st ≤ _
    have e : (r.next P ops k).st = (P.apply r.st (ops k (r.c k))).1 := rfl
    rw [e] at h1
    simp only [List.length_cons]
    omega
theorem replay_sz (h : Grows sz P) (ops : Nat → Nat → Op) (bs : List (List Nat)) : sz (replay P ops bs).st ≤ 2 + 2 * bs.flatten.length := by
  have h1 := run_sz h ops bs.flatten (Rp.new P)
  have h2 := h.1
  have e : sz (Rp.new P).st = sz P.first := rfl
  unfold replay
  omega
def Szs (sz : σ → Nat) (n : Nat) (E : ESt σ) (Y : RSt) : Prop :=
  ∀ t, t < n → (E.th t).phase = 8 → ∀ v, (E.th t).now = some v → sz v.st ≤ 2 + 2 * Y.bs.flatten.length + 2 * ((E.th t).past / 3)
theorem over_fl (n cap : Nat) (Y : RSt) (t : Nat) (x : RTh) : Y.bs.flatten.length ≤ (over n cap Y t x).1.bs.flatten.length := by
  unfold over
  split <;> (try split) <;> simp [RSt.set]
theorem rstep_fl (n cap : Nat) (Y : RSt) (t : Nat) : Y.bs.flatten.length ≤ (rstep n cap Y t).1.bs.flatten.length := by
  unfold rstep
  dsimp only
  split
  · exact Nat.le_refl _
  · exact over_fl _ _ _ _ _
theorem step_far (P : Plain σ) (n cap : Nat) (E : ESt σ) {t u : Nat} (h : u ≠ t) : (step P n cap E t).th u = E.th u := by
  unfold step
  dsimp only
  split <;> (try split) <;> first | exact upd_other _ _ h | rfl
theorem pass_ph {e : ETh σ} {s p : Nat} (h : (e.pass s p).phase = 8) (hp : p ≠ 8) : e.phase = 8 ∧ (e.pass s p).past = e.past + 1 ∧ (e.pass s p).now = e.now := by
  unfold ETh.pass at h ⊢
  split at h
  · exact absurd h hp
  · rename_i q
    rw [if_neg q]
    exact ⟨h, rfl, rfl⟩
theorem approach_ph (e : ETh σ) : e.approach.phase ≠ 8 := by
  unfold ETh.approach
  split
  · exact (by decide : (3 : Nat) ≠ 8)
  · exact (by decide : (4 : Nat) ≠ 8)
theorem fail_ph (e : ETh σ) (cap : Nat) : (e.fail cap).phase ≠ 8 := by
  unfold ETh.fail
  split
  · exact (by decide : (11 : Nat) ≠ 8)
  · exact approach_ph _
theorem Szs.step (hg : Grows sz P) (hi : Inv P n cap E Y) (h : Szs sz n E Y) (ht : t < n) : Szs sz n (M.step P n cap E t) (rstep n cap Y t).1 := by
  have hm := rstep_fl n cap Y t
  intro u hu
  by_cases q : u = t
  · subst q
    intro hp v hv
    have ho := h u hu
    by_cases p8 : (E.th u).phase = 8
    · have ho := ho p8
      unfold M.step at hp hv ⊢
      simp only [p8, upd_same] at hp hv ⊢
      obtain ⟨-, e1, e2⟩ := pass_ph hp (by decide)
      rw [e2] at hv
      rw [e1]
      have hc : ∀ e : ETh σ, ((if (E.th u).past + 1 = 3 * (E.th u).pend.length then e.close n else e).past = e.past) ∧ ∀ v, (if (E.th u).past + 1 = 3 * (E.th u).pend.length then e.close n else e).now = some v → ∃ v', e.now = some v' ∧ v'.st = v.st := by
        intro e
        split
        · refine ⟨rfl, fun v hv => ?_⟩
          cases hn : e.now with
          | none => simp [ETh.close, hn] at hv
          | some v' =>
            simp only [ETh.close, hn, Option.map_some, Option.some.injEq] at hv
            exact ⟨v', rfl, by rw [← hv]⟩
        · exact ⟨rfl, fun v hv => ⟨v, hv, rfl⟩⟩
      rw [(hc _).1]
      obtain ⟨v', hv', es⟩ := (hc _).2 v hv
      rw [← es]
      split at hv'
      · rename_i q2
        rw [if_pos q2]
        unfold ETh.apply at hv' ⊢
        cases hn : (E.th u).now with
        | none => simp [hn] at hv'
        | some v0 =>
          simp only [hn, Option.some.injEq] at hv' ⊢
          rw [← hv']
          have := ho v0 hn
          have := hg.2 v0.st (heardOp (upd (E.th u).heard ((E.th u).past % 3) (E.ann ((E.th u).pend.getD ((E.th u).past / 3) 0) ((E.th u).past % 3))))
          dsimp only
          omega
      · rename_i q2
        rw [if_neg q2]
        have := ho v' hv'
        dsimp only
        omega
    · by_cases p7 : (E.th u).phase = 7
      · obtain ⟨pb, nf, hN, -, T⟩ := hi
        have X := T u hu
        have hpt : (Y.th u).part = 7 := by
          by_cases c : (Y.th u).part = 11
          · have := X.p4 c; omega
          · have := X.p2 (by have := X.p1; omega); omega
        unfold M.step at hp hv ⊢
        simp only [p7, upd_same] at hp hv ⊢
        split at hp
        · rename_i q2
          rw [if_pos q2] at hv ⊢
          have hd := (X.d7 (.inr hpt) (by show _ = Y.bs.length; omega)).2.1
          have hv' : (E.th u).now = some v := hv
          rw [hd] at hv'
          have hv'' := Option.some.inj hv'
          rw [← hv'']
          have := replay_sz hg (view E Y pb nf).op Y.bs
          show sz (replay P (view E Y pb nf).op Y.bs).st ≤ _
          omega
        · exact absurd hp (fail_ph _ _)
      · exfalso
        unfold M.step at hp
        dsimp only at hp
        split at hp
        · simp only [upd_same] at hp; have := (pass_ph hp (by decide)).1; omega
        · simp only [upd_same] at hp; exact approach_ph _ hp
        · simp only [upd_same] at hp; have := (pass_ph hp (by decide)).1; omega
        · simp only [upd_same] at hp; exact absurd hp (by decide : (5 : Nat) ≠ 8)
        · simp only [upd_same] at hp
          have := (pass_ph hp (by decide)).1
          split at this <;> exact absurd this p8
        · simp only [upd_same] at hp; have := (pass_ph hp (by decide)).1; exact absurd this p8
        · omega
        · omega
        · split at hp
          · simp only [upd_same] at hp; have := (pass_ph hp (by decide)).1; omega
          · simp only [upd_same] at hp; have := (pass_ph hp (by decide)).1; omega
        · split at hp
          · simp only [upd_same] at hp; exact absurd hp (by decide : (11 : Nat) ≠ 8)
          · simp only [upd_same] at hp; exact fail_ph _ _ hp
        · simp only [upd_same] at hp; exact absurd hp (by decide : (12 : Nat) ≠ 8)
        · simp only [upd_same] at hp; exact absurd hp (by decide : (13 : Nat) ≠ 8)
        · simp only [upd_same] at hp; exact absurd hp (by decide : (0 : Nat) ≠ 8)
        · exact p8 hp
  · rw [step_far P n cap E q]
    intro hp v hv
    have := h u hu hp v hv
    omega
theorem Szs.begin (h : Szs sz n E Y) (o : Op) : Szs sz n (M.begin E t o) (rbegin Y t o) := by
  intro u hu
  by_cases q : u = t
  · subst q
    intro hp
    simp only [M.begin, upd_same] at hp
    exact absurd hp (by decide : (1 : Nat) ≠ 8)
  · have e : (M.begin E t o).th u = E.th u := upd_other _ _ q
    rw [e]
    exact h u hu
theorem szs_new (sz : σ → Nat) (P : Plain σ) (n : Nat) (f : Ver σ) : Szs sz n (E0 P f) Y0 := fun _ _ hp => absurd hp (by show (0 : Nat) ≠ 8; decide)
theorem Szs.bound (h : Szs sz n E Y) (ht : t < n) (hF : Y.bs.flatten.length ≤ 100000000000) (hp : (E.th t).past / 3 ≤ 64) (p8 : (E.th t).phase = 8) (v : Ver σ) (hv : (E.th t).now = some v) : sz v.st ≤ 1000000000000 := by
  have := h t ht p8 v hv
  omega
end
end Go.Proofs.YtefjhnhdagolhaaGreat.M
namespace Go.Proofs.YtefjhnhdagolhaaGreat
open Go.RowKit
open M (upd upd_same upd_other)
def Fn (w : World) (b : Nat) (t : TypeId) (m : Nat) (f : Nat → Value) : Prop := Row w b t ((List.range m).map f)
section
variable {w w' : World} {b : Nat} {t : TypeId} {m : Nat} {f : Nat → Value}
theorem Fn.cell (h : Fn w b t m f) {k : Nat} (hk : k < m) : w.cell? ⟨b, k, none⟩ = some (f k) := Row.cell_of h (by simp [List.getElem?_range hk])
theorem Fn.frozen (h : Fn w b t m f) (k : Nat) : w.frozen? ⟨b, k, none⟩ = false := Row.frozen h k
theorem Fn.lt (h : Fn w b t m f) : b < w.heap.size := Row.lt h
theorem Fn.of_block (h : Fn w b t m f) (e : w'.heap[b]? = w.heap[b]?) : Fn w' b t m f := Row.of_block h e
theorem map_range_upd (m : Nat) (f : Nat → Value) (k : Nat) (v : Value) : ((List.range m).map f).set k v = (List.range m).map (upd f k v) := by
  apply List.ext_getElem?
  intro i
  by_cases hi : i < m
  · by_cases e : k = i
    · subst e
      rw [List.getElem?_set_self (by simpa using hi)]
      simp [List.getElem?_range hi, upd_same]
    · rw [List.getElem?_set_ne e]
      simp [List.getElem?_range hi, upd_other _ _ (Ne.symm e)]
  · rw [List.getElem?_eq_none (by simpa using hi), List.getElem?_eq_none (by simpa using hi)]
theorem Fn.set (h : Fn w b t m f) (k : Nat) (v : Value) : Fn (w.setCell ⟨b, k, none⟩ v) b t m (upd f k v) := by
  have := Row.set h k v
  rw [map_range_upd] at this
  exact this
theorem Fn.congr (h : Fn w b t m f) {g : Nat → Value} (e : ∀ k, k < m → f k = g k) : Fn w b t m g := by
  have : (List.range m).map f = (List.range m).map g := List.map_congr_left fun k hk => e k (List.mem_range.1 hk)
  unfold Fn at *
  rw [← this]
  exact h
end
def Fn2 (w : World) (b : Nat) (t : TypeId) (m c : Nat) (T : Nat → Nat → Value) : Prop := Fn w b t (m * c) (fun k => T (k / c) (k % c))
section
variable {w w' : World} {b : Nat} {t : TypeId} {m c : Nat} {T : Nat → Nat → Value}
theorem two_lt {i j : Nat} (hi : i < m) (hj : j < c) : i * c + j < m * c := by
  have h : (i + 1) * c ≤ m * c := Nat.mul_le_mul_right c hi
  rw [Nat.add_mul, Nat.one_mul] at h
  omega
theorem two_div {i j : Nat} (hj : j < c) : (i * c + j) / c = i := by
  have hc : 0 < c := by omega
  rw [Nat.mul_comm, Nat.mul_add_div hc, Nat.div_eq_of_lt hj, Nat.add_zero]
theorem two_mod {i j : Nat} (hj : j < c) : (i * c + j) % c = j := by
  rw [Nat.mul_comm, Nat.mul_add_mod, Nat.mod_eq_of_lt hj]
theorem Fn2.cell (h : Fn2 w b t m c T) {i j : Nat} (hi : i < m) (hj : j < c) : w.cell? ⟨b, i * c + j, none⟩ = some (T i j) := by
  have := Fn.cell h (two_lt hi hj)
  simp only [two_div hj, two_mod hj] at this
  exact this
theorem Fn2.frozen (h : Fn2 w b t m c T) (k : Nat) : w.frozen? ⟨b, k, none⟩ = false := Fn.frozen h k
theorem Fn2.of_block (h : Fn2 w b t m c T) (e : w'.heap[b]? = w.heap[b]?) : Fn2 w' b t m c T := Fn.of_block h e
theorem Fn2.set (h : Fn2 w b t m c T) {i j : Nat} (hj : j < c) (v : Value) : Fn2 (w.setCell ⟨b, i * c + j, none⟩ v) b t m c (upd T i (upd (T i) j v)) := by
  refine Fn.congr (Fn.set h (i * c + j) v) fun k _ => ?_
  by_cases e : k = i * c + j
  · subst e
    rw [upd_same, two_div hj, two_mod hj, upd_same, upd_same]
  · rw [upd_other _ _ e]
    by_cases ei : k / c = i
    · have ej : k % c ≠ j := by
        intro q
        apply e
        rw [← ei, ← q, Nat.mul_comm]
        exact (Nat.div_add_mod k c).symm
      rw [ei, upd_same, upd_other _ _ ej]
    · rw [upd_other _ _ ei]
end
theorem Fn.there {w : World} {b : Nat} {t : TypeId} {m : Nat} {f : Nat → Value} (h : Fn w b t m f) {k : Nat} (hk : k < m) : w.there b k 1 := Row.there h (by simp; omega)
theorem Fn2.there {w : World} {b : Nat} {t : TypeId} {m c : Nat} {T : Nat → Nat → Value} (h : Fn2 w b t m c T) {i j : Nat} (hi : i < m) (hj : j < c) : w.there b (i * c + j) 1 := Fn.there h (two_lt hi hj)
def Like (f : Nat → Value) (l : List Value) : Prop := ∀ j v, l[j]? = some v → f j = v
theorem Like.set {f : Nat → Value} {l : List Value} (h : Like f l) (j : Nat) (v : Value) : Like (upd f j v) (l.set j v) := by
  intro k u hk
  by_cases e : k = j
  · subst e
    rw [upd_same]
    rw [List.getElem?_set] at hk
    simp only [if_true] at hk
    split at hk
    · injection hk
    · cases hk
  · rw [upd_other _ _ e]
    rw [List.getElem?_set_ne (Ne.symm e)] at hk
    exact h k u hk
structure Fr (own : Nat → Prop) (w w' : World) : Prop where
  os : w'.os = w.os
  tape : w'.tape = w.tape
  output : w'.output = w.output
  size : w.heap.size ≤ w'.heap.size
  block : ∀ k, k < w.heap.size → ¬ own k → w'.heap[k]? = w.heap[k]?
theorem Fr.refl (own : Nat → Prop) (w : World) : Fr own w w := ⟨rfl, rfl, rfl, Nat.le_refl _, fun _ _ _ => rfl⟩
theorem Fr.trans {own : Nat → Prop} {w w1 w2 : World} (h : Fr own w w1) (h' : Fr own w1 w2) : Fr own w w2 :=
  ⟨h'.os.trans h.os, h'.tape.trans h.tape, h'.output.trans h.output, Nat.le_trans h.size h'.size, fun k hk ho => (h'.block k (Nat.lt_of_lt_of_le hk h.size) ho).trans (h.block k hk ho)⟩
theorem Fr.of_below {own : Nat → Prop} {w w' : World} (h : Below w.heap.size w w') : Fr own w w' := ⟨h.os, h.tape, h.output, h.size, fun k hk _ => h.block k hk⟩
theorem Fr.set {own : Nat → Prop} (w : World) {a : Addr} (ha : own a.block) (v : Value) : Fr own w (w.setCell a v) :=
  ⟨rfl, rfl, rfl, by simp [World.setCell], fun k _ ho => Below.heap_setCell w a v k (by rintro rfl; exact ho ha)⟩
theorem Fr.drewN {own : Nat → Prop} {w w' : World} (h : Fr own w w') (n : Nat) : Fr own w (w'.drewN n) := ⟨h.os, h.tape, h.output, h.size, h.block⟩
theorem Fr.drew {own : Nat → Prop} {w w' : World} (h : Fr own w w') : Fr own w w'.drew := ⟨h.os, h.tape, h.output, h.size, h.block⟩
theorem cell_kept {w : World} {a : Addr} {v u : Value} {b o : Nat} (h : w.cell? ⟨b, o, none⟩ = some u) (hne : b ≠ a.block ∨ o ≠ a.off) : (w.setCell a v).cell? ⟨b, o, none⟩ = some u := by
  rw [World.cell?_setCell_other]
  · exact h
  · intro e
    rw [e] at hne
    rcases hne with q | q <;> exact q rfl
theorem frozen_kept {w : World} {a b : Addr} {v : Value} (h : w.frozen? b = false) : (w.setCell a v).frozen? b = false := by rw [World.frozen?_setCell]; exact h
end Go.Proofs.YtefjhnhdagolhaaGreat
namespace Go.Proofs.YtefjhnhdagolhaaGreat
open Go.RowKit
set_option maxHeartbeats 400000 in
theorem sameInts_len (a b : Option Addr) (n m ca cb : Nat) (w : World) (hne : n ≠ m) (_hn : n ≤ maxLen) (_hm : m ≤ maxLen) :
    Calls Tryz.prog 28 #[.slice a n ca, .slice b m cb] w fun e w' => e = .returned (.bool false) ∧ ∃ k, w' = w.drewN k := by
  unfold maxLen at *
  have h1 : ((n : Int) != (m : Int)) = true := by rw [bne_iff_ne]; omega
  go_enter Tryz.func28, Tryz.ntmps28
  go_wp2
  go_ret
  exact ⟨rfl, 0, rfl⟩
set_option maxHeartbeats 800000 in
theorem sameInts_same (xs ys : List Int) (va vb : Value) (w : World) (ha : Sl w va (ints xs)) (hb : Sl w vb (ints ys)) (hl : xs.length = ys.length) :
    Calls Tryz.prog 28 #[va, vb] w fun e w' => e = .returned (.bool (decide (xs = ys))) ∧ ∃ k, w' = w.drewN k := by
  obtain ⟨a, ca, rfl, h1, h2, h3⟩ := ha.open_ints
  obtain ⟨b, cb, rfl, h4, h5, h6⟩ := hb.open_ints
  clear ha hb
  rw [← hl] at h4 ⊢
  have hmax : xs.length ≤ maxLen := Nat.le_trans h1 h2
  unfold maxLen at hmax
  have HL : Hid (xs.length = ys.length) := hl
  have H3 := hide h3
  have H6 := hide h6
  clear hl h3 h6 h2 h5
  have h0 : ((xs.length : Int) != (xs.length : Int)) = false := by simp
  go_enter Tryz.func28, Tryz.ntmps28
  go_wp2
  go_loopw [5] (fun i w' => ∃ k : Nat, k ≤ xs.length ∧ i = .int .i64 k ∧ xs.take k = ys.take k ∧ ∃ q, w' = w.drewN q) (fun i _ => xs.length - (intOf i).toNat)
  case atStart => exact ⟨0, Nat.zero_le _, rfl, by simp, 0, rfl⟩
  case round =>
    obtain ⟨k, hk, rfl, heq, q, rfl⟩ := hrel
    have HE := hide heq
    clear heq
    by_cases hlt : k < xs.length
    · obtain ⟨g, off, rfl, hc⟩ := (unhide H3) k hlt
      obtain ⟨g', off', rfl, hc'⟩ := (unhide H6) k (by rw [← HL.out]; exact hlt)
      have hlt' : (k : Int) < (xs.length : Int) := by omega
      have hk0 : (0 : Int) ≤ (k : Int) := by omega
      by_cases hx : xs[k] = ys[k]'(by rw [← HL.out]; exact hlt)
      · have HX := hide hx
        clear hx
        have hn : (xs[k] != ys[k]'(by rw [← HL.out]; exact hlt)) = false := by simp [HX.out]
        go_wp2
        go_quiet (fail)
        go_wp2
        go_roundw
        case rel => exact ⟨k + 1, by omega, by go_num, take_eq_succ HE.out hlt (by rw [← HL.out]; exact hlt) HX.out, q + nq, by first | rfl | rw [World.drewN_drewN]⟩
        case measure => simp [intOf]; omega
      · have HX := hide hx
        clear hx
        have hn : (xs[k] != ys[k]'(by rw [← HL.out]; exact hlt)) = true := by simpa using HX.out
        go_wp2
        go_quiet (fail)
        go_wp2
        go_ret
        have hd : decide (xs = ys) = false := by
          rw [decide_eq_false_iff_not]; rintro rfl; exact HX.out rfl
        exact ⟨ret_bool hd.symm, q + nq, by first | rfl | rw [World.drewN_drewN]⟩
    · go_wp2
      go_ret
      have hd : decide (xs = ys) = true := by
        rw [decide_eq_true_eq]
        have := HE.out
        rwa [List.take_of_length_le (by omega), List.take_of_length_le (by have := HL.out; omega)] at this
      exact ⟨ret_bool hd.symm, _, rfl⟩
theorem sameInts_any (xs ys : List Int) (va vb : Value) (w : World) (ha : Sl w va (ints xs)) (hb : Sl w vb (ints ys)) :
    Calls Tryz.prog 28 #[va, vb] w fun e w' => e = .returned (.bool (decide (xs = ys))) ∧ ∃ k, w' = w.drewN k := by
  by_cases hl : xs.length = ys.length
  · exact sameInts_same xs ys va vb w ha hb hl
  · have hd : decide (xs = ys) = false := by rw [decide_eq_false_iff_not]; rintro rfl; exact hl rfl
    rw [hd]
    obtain ⟨a, ca, rfl, h1, h2, h3⟩ := ha.open_ints
    obtain ⟨b, cb, rfl, h4, h5, h6⟩ := hb.open_ints
    exact sameInts_len a b _ _ ca cb w hl (Nat.le_trans h1 h2) (Nat.le_trans h4 h5)
end Go.Proofs.YtefjhnhdagolhaaGreat
namespace Go.Proofs.YtefjhnhdagolhaaGreat
open Go.RowKit
theorem info_int : (Tryz.prog.info? 3).map (fun i => (i.zero, i.size, i.bytes)) = some (some (.int .i64 0), 1, 8) := by kernel_rfl
theorem size_int : (Tryz.prog.info? 3).map (·.size) = some 1 := by kernel_rfl
set_option maxHeartbeats 800000 in
theorem handed_any (xs : List Int) (v : Value) (w : World) (hv : Sl w v (ints xs)) (hn : xs.length ≤ 1048576) :
    Calls Tryz.prog 24 #[v] w fun e w' => ∃ g, e = .returned (.slice (some ⟨g, 0, none⟩) (xs.length + 2) (xs.length + 2)) ∧ w.heap.size ≤ g ∧
      w'.heap[g]? = some (.cells (ints (xs ++ [-77, -77])).toArray 3 (0, 0)) ∧ Below w.heap.size w w' := by
  obtain ⟨a, ca, rfl, h1, h2, h3⟩ := hv.open_ints
  have hmk := run_make_zeros (P := Tryz.prog) 22 3 (.int .i64 0) 8 Tryz.underlying22 info_int rfl ((xs.length : Int) + 2) (xs.length + 2) (by omega) (by omega) (by omega)
  clear h1 h2
  have H3 := hide h3
  clear h3
  clear hv
  have hb0 : ∀ o, Below w.heap.size w (w.alloc o) := fun o => (Below.refl _ _).alloc (Nat.le_refl _) o
  go_enter Tryz.func24, Tryz.ntmps24
  go_wp2_with (with_reducible refine wpList_copy_splice rfl (.tmp 10) (.tmp 11) 22 22 rfl 3 Tryz.underlying22 size_int _ _ _ _ _ _ rfl rfl w.heap.size 0 (zeros (.int .i64 0) (xs.length + 2)) 3 ?hg (ints xs) ?hn ?hpos ?hfit ?h1 w.heap.size w ?hb ?hBg ?hk)
  case hg => exact Row.new _ _ _
  case hn => simp [length_ints]
  case hpos =>
    intro hp
    rw [length_ints] at hp
    obtain ⟨g, off, rfl, -⟩ := (unhide H3) 0 hp
    refine ⟨_, rfl, fun j v hj => ?_⟩
    have hj' : j < xs.length := by rw [← length_ints]; exact (List.getElem?_eq_some_iff.1 hj).1
    obtain ⟨g', off', he, hc⟩ := (unhide H3) j hj'
    cases he
    rw [getElem?_ints, List.getElem?_eq_getElem hj'] at hj
    cases hj
    rw [addr_add]
    exact cell_new hc _
  case hfit => simp [length_ints, length_zeros]
  case h1 => exact one_ints xs
  case hb => exact hb0 _
  case hBg => exact Nat.le_refl _
  case hk =>
    intro w2 HG2 hB2
    have HG3 : Row w2 w.heap.size 3 (splice (zeros (.int .i64 0) (xs.length + 2)) 0 (ints xs)) := HG2.out
    have hs : splice (zeros (.int .i64 0) (xs.length + 2)) 0 (ints xs) = ints xs ++ [.int .i64 0, .int .i64 0] := by
      simp [splice, zeros, length_ints]
    rw [hs] at HG3
    clear hs HG2
    have hc1 : w2.cell? ⟨w.heap.size, xs.length, none⟩ = some (.int .i64 0) := HG3.cell_of (by rw [List.getElem?_append_right (by simp [length_ints])]; simp [length_ints])
    have hc2 : w2.cell? ⟨w.heap.size, xs.length + 1, none⟩ = some (.int .i64 0) := HG3.cell_of (by rw [List.getElem?_append_right (by simp [length_ints])]; simp [length_ints])
    have hf := HG3.frozen
    have hx1 : (0 : Int) ≤ (xs.length : Int) := by omega
    have hx2 : (xs.length : Int) < (xs.length + 2 : Nat) := by omega
    have hx3 : (xs.length : Int) + 1 < (xs.length + 2 : Nat) := by omega
    go_wp2
    go_ret
    refine ⟨w.heap.size, rfl, Nat.le_refl _, ?_, (hB2.setCell (Nat.le_refl _) _).setCell (Nat.le_refl _) _⟩
    have h9 := (HG3.set xs.length (.int .i64 (-77))).set (xs.length + 1) (.int .i64 (-77))
    have he : ((ints xs ++ [Value.int .i64 0, .int .i64 0]).set xs.length (.int .i64 (-77))).set (xs.length + 1) (.int .i64 (-77)) = ints (xs ++ [-77, -77]) := by
      rw [List.set_append_right _ _ (by simp [length_ints])]
      rw [List.set_append_right _ _ (by simp [length_ints])]
      simp [ints]
    rw [he] at h9
    exact h9
end Go.Proofs.YtefjhnhdagolhaaGreat
namespace Go.Proofs.YtefjhnhdagolhaaGreat
open Go.RowKit
def tableOk (st co : Int) (nx ou : List Int) : Bool :=
  decide (1 ≤ st) && decide (st ≤ 64) && decide (1 ≤ co) && decide (co ≤ 16) && decide ((nx.length : Int) = st * co) && decide ((ou.length : Int) = st * co) && nx.all fun x => decide (0 ≤ x) && decide (x < st)
theorem all_take_succ {nx : List Int} {p : Int → Bool} {k : Nat} (h : (nx.take k).all p = true) (hk : k < nx.length) (hp : p nx[k] = true) : (nx.take (k + 1)).all p = true := by
  rw [List.take_succ_eq_append_getElem hk, List.all_append, h]; simp [hp]
theorem all_false {nx : List Int} {p : Int → Bool} {k : Nat} (hk : k < nx.length) (hp : p nx[k] = false) : nx.all p = false := by
  rw [List.all_eq_false]
  exact ⟨nx[k], List.getElem_mem hk, by simp [hp]⟩
theorem prod_bd {st co : Int} (h1 : 1 ≤ st) (h2 : st ≤ 64) (h3 : 1 ≤ co) (h4 : co ≤ 16) : 1 ≤ st * co ∧ st * co ≤ 1024 := by
  constructor
  · have := Int.mul_le_mul h1 h3 (by omega) (by omega); omega
  · have := Int.mul_le_mul h2 h4 (by omega) (by omega); omega
set_option maxHeartbeats 1000000 in
theorem refTable_any (st co : Int) (nx ou : List Int) (vn vo : Value) (w : World) (hn : Sl w vn (ints nx)) (ho : Sl w vo (ints ou)) :
    Calls Tryz.prog 74 #[.agg #[.int .i64 st, .int .i64 co, vn, vo]] w fun e w' => e = .returned (.bool (tableOk st co nx ou)) ∧ Below w.heap.size w w' := by
  obtain ⟨a, ca, rfl, h1, h2, h3⟩ := hn.open_ints
  obtain ⟨b, cb, rfl, h4, h5, h6⟩ := ho.open_ints
  clear hn ho h6
  have H3 := hide h3
  clear h3
  have hmax : nx.length ≤ maxLen := Nat.le_trans h1 h2
  have hmax2 : ou.length ≤ maxLen := Nat.le_trans h4 h5
  unfold maxLen at *
  by_cases c1 : st < 1
  · rw [show tableOk st co nx ou = false from by simp [tableOk]; omega]
    go_enter Tryz.func74, Tryz.ntmps74
    go_wp2
    go_ret
    exact ⟨rfl, (by repeat (first | exact Below.refl _ _ | assumption | refine Below.drewN ?_ _ | refine Below.alloc ?_ (by simp) _))⟩
  by_cases c2 : 64 < st
  · rw [show tableOk st co nx ou = false from by simp [tableOk]; omega]
    go_enter Tryz.func74, Tryz.ntmps74
    go_wp2
    go_ret
    exact ⟨rfl, (by repeat (first | exact Below.refl _ _ | assumption | refine Below.drewN ?_ _ | refine Below.alloc ?_ (by simp) _))⟩
  by_cases c3 : co < 1
  · rw [show tableOk st co nx ou = false from by simp [tableOk]; omega]
    go_enter Tryz.func74, Tryz.ntmps74
    go_wp2
    go_ret
    exact ⟨rfl, (by repeat (first | exact Below.refl _ _ | assumption | refine Below.drewN ?_ _ | refine Below.alloc ?_ (by simp) _))⟩
  by_cases c4 : 16 < co
  · rw [show tableOk st co nx ou = false from by simp [tableOk]; omega]
    go_enter Tryz.func74, Tryz.ntmps74
    go_wp2
    go_ret
    exact ⟨rfl, (by repeat (first | exact Below.refl _ _ | assumption | refine Below.drewN ?_ _ | refine Below.alloc ?_ (by simp) _))⟩
  have hp := prod_bd (st := st) (co := co) (by omega) (by omega) (by omega) (by omega)
  by_cases c5 : (nx.length : Int) ≠ st * co
  · rw [show tableOk st co nx ou = false from by simp [tableOk]; omega]
    have c5' : ((nx.length : Int) != st * co) = true := by rw [bne_iff_ne]; exact c5
    clear c5
    go_enter Tryz.func74, Tryz.ntmps74
    go_wp2
    go_ret
    exact ⟨rfl, (by repeat (first | exact Below.refl _ _ | assumption | refine Below.drewN ?_ _ | refine Below.alloc ?_ (by simp) _))⟩
  replace c5 : (nx.length : Int) = st * co := Decidable.of_not_not c5
  by_cases c6 : (ou.length : Int) ≠ st * co
  · rw [show tableOk st co nx ou = false from by simp [tableOk]; omega]
    have c5' : ((nx.length : Int) != st * co) = false := by rw [bne_eq_false_iff_eq]; exact c5
    have c6' : ((ou.length : Int) != st * co) = true := by rw [bne_iff_ne]; exact c6
    clear c5 c6
    go_enter Tryz.func74, Tryz.ntmps74
    go_wp2
    go_ret
    exact ⟨rfl, (by repeat (first | exact Below.refl _ _ | assumption | refine Below.drewN ?_ _ | refine Below.alloc ?_ (by simp) _))⟩
  replace c6 : (ou.length : Int) = st * co := Decidable.of_not_not c6
  have hT : tableOk st co nx ou = nx.all fun x => decide (0 ≤ x) && decide (x < st) := by
    simp only [tableOk]
    rw [decide_eq_true (show 1 ≤ st by omega), decide_eq_true (show st ≤ 64 by omega), decide_eq_true (show 1 ≤ co by omega), decide_eq_true (show co ≤ 16 by omega), decide_eq_true c5, decide_eq_true c6]
    rfl
  rw [hT]
  clear hT
  have c5' : ((nx.length : Int) != st * co) = false := by rw [bne_eq_false_iff_eq]; exact c5
  have c6' : ((ou.length : Int) != st * co) = false := by rw [bne_eq_false_iff_eq]; exact c6
  have C5 := hide c5
  clear c5 c6
  go_enter Tryz.func74, Tryz.ntmps74
  go_wp2
  go_loopw [4] (fun i w' => ∃ k : Nat, k ≤ nx.length ∧ i = .int .i64 k ∧ (nx.take k).all (fun x => decide (0 ≤ x) && decide (x < st)) = true ∧ ∃ q, w' = (w.alloc (.cells #[.int .i64 st, .int .i64 co, .slice a nx.length ca, .slice b ou.length cb] 24)).drewN q) (fun i _ => nx.length - (intOf i).toNat)
  case atStart => exact ⟨0, Nat.zero_le _, rfl, by simp, 0, rfl⟩
  case round =>
    obtain ⟨k, hk, rfl, hall, q, rfl⟩ := hrel
    have HE := hide hall
    clear hall
    by_cases hlt : k < nx.length
    · obtain ⟨g, off, rfl, hc⟩ := (unhide H3) k hlt
      have hlt' : (k : Int) < (nx.length : Int) := by omega
      have hlt'' : (k : Int) < st * co := by have := C5.out; omega
      have hk0 : (0 : Int) ≤ (k : Int) := by omega
      have hc' := fun ob => cell_new hc ob
      by_cases hx : nx[k] < 0
      · go_wp2
        go_quiet (fail)
        go_wp2
        go_ret
        exact ⟨ret_bool (all_false (p := fun x => decide (0 ≤ x) && decide (x < st)) hlt (by simp; omega)).symm, (by repeat (first | exact Below.refl _ _ | assumption | refine Below.drewN ?_ _ | refine Below.alloc ?_ (by simp) _))⟩
      · by_cases hy : nx[k] < st
        · go_wp2
          go_quiet (fail)
          go_wp2
          go_roundw
          case rel => exact ⟨k + 1, by omega, by go_num, all_take_succ HE.out hlt (by simp; omega), q + nq, by first | rfl | rw [World.drewN_drewN]⟩
          case measure => simp [intOf]; omega
        · have hy' : st ≤ nx[k] := by omega
          go_wp2
          go_quiet (fail)
          go_wp2
          go_ret
          exact ⟨ret_bool (all_false (p := fun x => decide (0 ≤ x) && decide (x < st)) hlt (by simp; omega)).symm, (by repeat (first | exact Below.refl _ _ | assumption | refine Below.drewN ?_ _ | refine Below.alloc ?_ (by simp) _))⟩
    · have hlt'' : ¬ (k : Int) < st * co := by have := C5.out; omega
      go_wp2
      go_ret
      have := HE.out
      rw [List.take_of_length_le (by omega)] at this
      exact ⟨ret_bool this.symm, (by repeat (first | exact Below.refl _ _ | assumption | refine Below.drewN ?_ _ | refine Below.alloc ?_ (by simp) _))⟩
set_option maxHeartbeats 400000 in
theorem within_any (n a b : Int) (w : World) :
    Calls Tryz.prog 95 #[.int .i64 n, .int .i64 a, .int .i64 b] w fun e w' => e = .returned (.bool (decide (a ≤ n) && decide (n ≤ b))) ∧ w' = w := by
  by_cases h1 : a ≤ n
  · rw [decide_eq_true h1, Bool.true_and]
    go_enter Tryz.func95, Tryz.ntmps95
    go_wp2
    go_ret
    exact ⟨rfl, rfl⟩
  · rw [decide_eq_false h1, Bool.false_and]
    have h1' : decide (a ≤ n) = false := decide_eq_false h1
    go_enter Tryz.func95, Tryz.ntmps95
    go_wp2
    go_ret
    exact ⟨rfl, rfl⟩
theorem within_yes (n a b : Int) (w : World) (h1 : a ≤ n) (h2 : n ≤ b) :
    Calls Tryz.prog 95 #[.int .i64 n, .int .i64 a, .int .i64 b] w fun e w' => e = .returned (.bool true) ∧ w' = w := by
  have := within_any n a b w
  rwa [decide_eq_true h1, decide_eq_true h2] at this
theorem within_no (n a b : Int) (w : World) (h : n < a ∨ b < n) :
    Calls Tryz.prog 95 #[.int .i64 n, .int .i64 a, .int .i64 b] w fun e w' => e = .returned (.bool false) ∧ w' = w := by
  have := within_any n a b w
  rwa [show (decide (a ≤ n) && decide (n ≤ b)) = false from by simp; omega] at this
end Go.Proofs.YtefjhnhdagolhaaGreat
namespace Go.Proofs.YtefjhnhdagolhaaGreat
open Go.RowKit
set_option maxHeartbeats 1000000 in
theorem isTable_any (st co : Int) (nx ou : List Int) (vn vo : Value) (w : World) (hn : Sl w vn (ints nx)) (ho : Sl w vo (ints ou)) :
    Calls Tryz.prog 103 #[.agg #[.int .i64 st, .int .i64 co, vn, vo]] w fun e w' => e = .returned (.bool (tableOk st co nx ou)) ∧ Below w.heap.size w w' := by
  obtain ⟨a, ca, rfl, h1, h2, h3⟩ := hn.open_ints
  obtain ⟨b, cb, rfl, h4, h5, h6⟩ := ho.open_ints
  clear hn ho h6
  have H3 := hide h3
  clear h3
  have hmax : nx.length ≤ maxLen := Nat.le_trans h1 h2
  have hmax2 : ou.length ≤ maxLen := Nat.le_trans h4 h5
  unfold maxLen at *
  by_cases c1 : st < 1 ∨ 64 < st
  · rw [show tableOk st co nx ou = false from by simp [tableOk]; omega]
    go_enter Tryz.func103, Tryz.ntmps103
    go_wp2_with (go_at_call 95; refine (within_no _ _ _ _ c1).mono ?_; rintro e w' ⟨rfl, rfl⟩)
    go_ret
    exact ⟨rfl, (by repeat (first | exact Below.refl _ _ | assumption | refine Below.drewN ?_ _ | refine Below.alloc ?_ (by simp) _))⟩
  have c1' : 1 ≤ st ∧ st ≤ 64 := by omega
  clear c1
  by_cases c3 : co < 1 ∨ 16 < co
  · rw [show tableOk st co nx ou = false from by simp [tableOk]; omega]
    go_enter Tryz.func103, Tryz.ntmps103
    go_wp2_with fail
    refine (within_yes _ _ _ _ c1'.1 c1'.2).mono ?_
    rintro e w' ⟨rfl, rfl⟩
    go_wp2_with fail
    refine (within_no _ _ _ _ c3).mono ?_
    rintro e w' ⟨rfl, rfl⟩
    go_wp2
    go_ret
    exact ⟨rfl, (by repeat (first | exact Below.refl _ _ | assumption | refine Below.drewN ?_ _ | refine Below.alloc ?_ (by simp) _))⟩
  have c3' : 1 ≤ co ∧ co ≤ 16 := by omega
  clear c3
  obtain ⟨s1, s2⟩ := c1'
  obtain ⟨s3, s4⟩ := c3'
  have hp := prod_bd s1 s2 s3 s4
  by_cases c5 : (nx.length : Int) ≠ st * co
  · rw [show tableOk st co nx ou = false from by simp [tableOk]; omega]
    have c5' : ((nx.length : Int) != st * co) = true := by rw [bne_iff_ne]; exact c5
    clear c5
    go_enter Tryz.func103, Tryz.ntmps103
    go_wp2_with fail
    refine (within_yes _ _ _ _ s1 s2).mono ?_
    rintro e w' ⟨rfl, rfl⟩
    go_wp2_with fail
    refine (within_yes _ _ _ _ s3 s4).mono ?_
    rintro e w' ⟨rfl, rfl⟩
    go_wp2
    go_ret
    exact ⟨rfl, (by repeat (first | exact Below.refl _ _ | assumption | refine Below.drewN ?_ _ | refine Below.alloc ?_ (by simp) _))⟩
  replace c5 : (nx.length : Int) = st * co := Decidable.of_not_not c5
  by_cases c6 : (ou.length : Int) ≠ st * co
  · rw [show tableOk st co nx ou = false from by simp [tableOk]; omega]
    have c5' : ((nx.length : Int) != st * co) = false := by rw [bne_eq_false_iff_eq]; exact c5
    have c6' : ((ou.length : Int) != st * co) = true := by rw [bne_iff_ne]; exact c6
    clear c5 c6
    go_enter Tryz.func103, Tryz.ntmps103
    go_wp2_with fail
    refine (within_yes _ _ _ _ s1 s2).mono ?_
    rintro e w' ⟨rfl, rfl⟩
    go_wp2_with fail
    refine (within_yes _ _ _ _ s3 s4).mono ?_
    rintro e w' ⟨rfl, rfl⟩
    go_wp2
    go_ret
    exact ⟨rfl, (by repeat (first | exact Below.refl _ _ | assumption | refine Below.drewN ?_ _ | refine Below.alloc ?_ (by simp) _))⟩
  replace c6 : (ou.length : Int) = st * co := Decidable.of_not_not c6
  have hT : tableOk st co nx ou = nx.all fun x => decide (0 ≤ x) && decide (x < st) := by
    simp only [tableOk]
    rw [decide_eq_true (show 1 ≤ st by omega), decide_eq_true (show st ≤ 64 by omega), decide_eq_true (show 1 ≤ co by omega), decide_eq_true (show co ≤ 16 by omega), decide_eq_true c5, decide_eq_true c6]
    rfl
  rw [hT]
  clear hT
  have c5' : ((nx.length : Int) != st * co) = false := by rw [bne_eq_false_iff_eq]; exact c5
  have c6' : ((ou.length : Int) != st * co) = false := by rw [bne_eq_false_iff_eq]; exact c6
  clear c5 c6
  go_enter Tryz.func103, Tryz.ntmps103
  go_wp2_with fail
  refine (within_yes _ _ _ _ s1 s2).mono ?_
  rintro e w' ⟨rfl, rfl⟩
  go_wp2_with fail
  refine (within_yes _ _ _ _ s3 s4).mono ?_
  rintro e w' ⟨rfl, rfl⟩
  go_wp2
  go_loop [36] (fun i => ∃ k : Nat, k ≤ nx.length ∧ i = .int .i64 k ∧ (nx.take k).all (fun x => decide (0 ≤ x) && decide (x < st)) = true) (fun i => nx.length - (intOf i).toNat)
  case atStart => exact ⟨0, Nat.zero_le _, rfl, by simp⟩
  case round =>
    obtain ⟨k, hk, rfl, hall⟩ := hrel
    have HE := hide hall
    clear hall
    by_cases hlt : k < nx.length
    · obtain ⟨g, off, rfl, hc⟩ := (unhide H3) k hlt
      have hlt' : (k : Int) < (nx.length : Int) := by omega
      have hk0 : (0 : Int) ≤ (k : Int) := by omega
      have hc' := fun ob => cell_new hc ob
      by_cases hx : nx[k] < 0 ∨ st - 1 < nx[k]
      · go_wp2_with fail
        refine (within_no _ _ _ _ hx).mono ?_
        rintro e w' ⟨rfl, rfl⟩
        go_wp2
        go_ret
        exact ⟨ret_bool (all_false (p := fun x => decide (0 ≤ x) && decide (x < st)) hlt (by simp; omega)).symm, (by repeat (first | exact Below.refl _ _ | assumption | refine Below.drewN ?_ _ | refine Below.alloc ?_ (by simp) _))⟩
      · have hx1 : 0 ≤ nx[k] := by omega
        have hx2 : nx[k] ≤ st - 1 := by omega
        clear hx
        go_wp2_with fail
        refine (within_yes _ _ _ _ hx1 hx2).mono ?_
        rintro e w' ⟨rfl, rfl⟩
        go_wp2
        go_round
        case rel => exact ⟨k + 1, by omega, by go_num, all_take_succ HE.out hlt (by simp; omega)⟩
        case measure => simp [intOf]; omega
    · go_wp2
      go_ret
      have := HE.out
      rw [List.take_of_length_le (by omega)] at this
      exact ⟨ret_bool this.symm, (by repeat (first | exact Below.refl _ _ | assumption | refine Below.drewN ?_ _ | refine Below.alloc ?_ (by simp) _))⟩
end Go.Proofs.YtefjhnhdagolhaaGreat
