import Derived.Test.YtefjhnhdagolhaaGreatQ11
import Derived.Test.YtefjhnhdagolhaaGreatQ13
namespace Go.Proofs.YtefjhnhdagolhaaGreat.M
structure Dd where
  op : Op
  t : Nat
  s : Nat
  bg : Nat
  fl : Nat
  en : Nat
  nb : Nat
  st : Nat
  an : Ans
def RSt.op (Y : RSt) : Nat → Nat → Op := fun k i => ((Y.th k).ops).getD i ⟨0, 0, 0⟩
section
variable {σ : Type}
structure PI (P : Plain σ) (n cap : Nat) (Y : RSt) (D : List Dd) (u : Nat → Option Nat) (c : Nat) : Prop where
  yi : YI P n cap Y
  bo : BOk Y.bs
  cl : ∀ d ∈ D, 0 < d.bg ∧ d.bg ≤ c ∧ d.en ≤ c
  dt : ∀ i d, D[i]? = some d → d.t < n ∧ Plc (D.map Dd.t) d.t d.s i ∧ (Y.th d.t).ops[d.s]? = some d.op
  ln : ∀ t, t < n → (Y.th t).ops.length = (D.map Dd.t).count t
  un : ∀ t, t < n → (u t = none ↔ (Y.th t).part = 0)
  ui : ∀ t i, t < n → u t = some i → ∃ d, D[i]? = some d ∧ d.t = t ∧ d.s + 1 = (Y.th t).ops.length
  en : ∀ d ∈ D, (d.en = 0 ↔ ((Y.th d.t).part ≠ 0 ∧ d.s + 1 = (Y.th d.t).ops.length))
  fl : ∀ d ∈ D, (d.fl = 0 ↔ (Y.th d.t).flips ≤ d.s)
  sw : ∀ d ∈ D, d.en = 0 → ((Y.th d.t).part = 1 → d.st + (Y.th d.t).left = 3) ∧ ((Y.th d.t).part = 2 → d.st = 3) ∧ (3 ≤ (Y.th d.t).part → 4 ≤ d.st) ∧ d.st + (Y.th d.t).rank n cap ≤ bound n cap
  se : ∀ d ∈ D, d.st ≤ bound n cap
  an : ∀ d ∈ D, 0 < d.en → ∃ j, Plc Y.bs.flatten d.t d.s j ∧ d.an = ansAt P Y.op Y.bs.flatten j d.t d.s
  ti : ∀ a ∈ D, ∀ b ∈ D, 0 < b.en → b.en < a.bg → ∀ i j, Plc Y.bs.flatten a.t a.s i → Plc Y.bs.flatten b.t b.s j → j < i
variable {P : Plain σ} {n cap : Nat} {Y : RSt} {D : List Dd} {u : Nat → Option Nat} {c t : Nat}
theorem YI.c0 (h : YI P n cap Y) (ht : t < n) (hp : (Y.th t).part = 0) : (Y.th t).ops.length = (Y.th t).flips ∧ cnt Y.bs t = (Y.th t).flips := by
  obtain ⟨E, pb, nf, -, -, T⟩ := h
  obtain ⟨a, -, b⟩ := (T t ht).c0 hp
  exact ⟨a, b⟩
theorem YI.c1 (h : YI P n cap Y) (ht : t < n) (hp : (Y.th t).part = 1 ∨ (Y.th t).part = 2) : (Y.th t).ops.length = (Y.th t).flips + 1 := by
  obtain ⟨E, pb, nf, -, -, T⟩ := h
  exact ((T t ht).c1 hp).1
theorem YI.c3 (h : YI P n cap Y) (ht : t < n) (hp : 3 ≤ (Y.th t).part) : (Y.th t).ops.length = (Y.th t).flips := by
  obtain ⟨E, pb, nf, -, -, T⟩ := h
  exact ((T t ht).c3 hp).1
theorem PI.lt (h : PI P n cap Y D u c) {d : Dd} (hd : d ∈ D) : d.t < n ∧ d.s < (Y.th d.t).ops.length := by
  obtain ⟨i, hi⟩ := List.getElem?_of_mem hd
  obtain ⟨a, -, b⟩ := h.dt i d hi
  exact ⟨a, (List.getElem?_eq_some_iff.mp b).1⟩
theorem PI.uniq (h : PI P n cap Y D u c) {i j : Nat} {d e : Dd} (hi : D[i]? = some d) (hj : D[j]? = some e) (h1 : d.t = e.t) (h2 : d.s = e.s) : i = j := by
  have a := (h.dt i d hi).2.1
  have b := (h.dt j e hj).2.1
  rw [h1, h2] at a
  exact a.uniq b
theorem PI.new (P : Plain σ) (n cap : Nat) : PI P n cap Y0 [] (fun _ => none) 0 where
  yi := YI.new P n cap
  bo := fun b hb => by cases hb
  cl := fun d hd => by cases hd
  dt := fun i d hi => by simp at hi
  ln := fun t _ => rfl
  un := fun t _ => ⟨fun _ => rfl, fun _ => rfl⟩
  ui := fun t i _ h => by cases h
  en := fun d hd => by cases hd
  fl := fun d hd => by cases hd
  sw := fun d hd => by cases hd
  se := fun d hd => by cases hd
  an := fun d hd => by cases hd
  ti := fun d hd => by cases hd
theorem PI.tick (h : PI P n cap Y D u c) : PI P n cap Y D u (c + 1) :=
  { h with cl := fun d hd => by obtain ⟨a, b, e⟩ := h.cl d hd; exact ⟨a, by omega, by omega⟩ }
theorem PI.begin (h : PI P n cap Y D u c) (ht : t < n) (hp : (Y.th t).part = 0) (o : Op) :
    PI P n cap (rbegin Y t o) (D ++ [⟨o, t, (Y.th t).ops.length, c + 1, 0, 0, 0, 0, ⟨0, 0⟩⟩]) (upd u t (some D.length)) (c + 1) := by
  obtain ⟨d0, hd0⟩ : ∃ d0 : Dd, d0 = ⟨o, t, (Y.th t).ops.length, c + 1, 0, 0, 0, 0, ⟨0, 0⟩⟩ := ⟨_, rfl⟩
  rw [← hd0]
  have e0 : d0.t = t ∧ d0.s = (Y.th t).ops.length ∧ d0.bg = c + 1 ∧ d0.fl = 0 ∧ d0.en = 0 ∧ d0.st = 0 ∧ d0.op = o := by rw [hd0]; exact ⟨rfl, rfl, rfl, rfl, rfl, rfl, rfl⟩
  obtain ⟨e1, e2, e3, e4, e5, e6, e7⟩ := e0
  have hs : (rbegin Y t o).th t = { Y.th t with ops := (Y.th t).ops ++ [o], tries := 0, part := 1, left := 3 } := by simp only [rbegin, RSt.set, upd_same]
  have ho : ∀ k, k ≠ t → (rbegin Y t o).th k = Y.th k := fun k hk => by simp only [rbegin, RSt.set, upd_other _ _ hk]
  have hb : (rbegin Y t o).bs = Y.bs := rfl
  have hol : ∀ k, (rbegin Y t o).th k = Y.th k ∨ k = t := fun k => by
    by_cases e : k = t
    · exact .inr e
    · exact .inl (ho k e)
  have hmem : ∀ {d : Dd}, d ∈ D ++ [d0] → d ∈ D ∨ d = d0 := fun hd => by
    rcases List.mem_append.mp hd with q | q
    · exact .inl q
    · exact .inr (List.mem_singleton.mp q)
  have hop : ∀ k i, i < Y.bs.flatten.count k → Y.op k i = (rbegin Y t o).op k i := fun k i hi => by
    show ((Y.th k).ops).getD i _ = (((rbegin Y t o).th k).ops).getD i _
    rcases hol k with e | e
    · rw [e]
    · subst e
      have : i < (Y.th k).ops.length := Nat.lt_of_lt_of_le hi (h.yi.ok.ops k ht)
      rw [hs]
      simp only [List.getD_eq_getElem?_getD, List.getElem?_append_left this]
  have hfl : ∀ d ∈ D, ((rbegin Y t o).th d.t).flips = (Y.th d.t).flips := fun d _ => by
    rcases hol d.t with e | e
    · rw [e]
    · rw [e, hs]
  have hen : ∀ d ∈ D, d.t = t → d.en ≠ 0 := fun d hd e q => ((h.en d hd).1 q).1 (by rw [e]; exact hp)
  refine ⟨h.yi.begin ht hp o, by rw [hb]; exact h.bo, fun d hd => ?_, fun i d hi => ?_, fun k hk => ?_, fun k hk => ?_, fun k i hk hu => ?_, fun d hd => ?_, fun d hd => ?_, fun d hd hq => ?_, fun d hd => ?_, fun d hd hq => ?_, fun a ha b hb' hbe hba i j hi hj => ?_⟩
  · rcases hmem hd with q | rfl
    · obtain ⟨a, b, e⟩ := h.cl d q; exact ⟨a, by omega, by omega⟩
    · exact ⟨by omega, by omega, by omega⟩
  · rw [List.map_append]
    by_cases hil : i < D.length
    · rw [List.getElem?_append_left hil] at hi
      obtain ⟨a, b, e⟩ := h.dt i d hi
      refine ⟨a, b.append _, ?_⟩
      rcases hol d.t with q | q
      · rw [q]; exact e
      · rw [q, hs]
        rw [q] at e
        show ((Y.th t).ops ++ [o])[d.s]? = _
        rw [List.getElem?_append_left (List.getElem?_eq_some_iff.mp e).1]; exact e
    · have hi2 : i = D.length ∧ d = d0 := by
        rw [List.getElem?_append_right (by omega)] at hi
        have hlt := (List.getElem?_eq_some_iff.mp hi).1
        simp at hlt
        have : i = D.length := by omega
        subst this
        simp at hi
        exact ⟨rfl, hi.symm⟩
      obtain ⟨rfl, rfl⟩ := hi2
      rw [e1, e2, e7]
      refine ⟨ht, ⟨?_, ?_⟩, ?_⟩
      · rw [List.getElem?_append_right (by simp)]; simp [e1]
      · have el : D.length = (D.map Dd.t).length := by simp
        rw [el, List.take_left']
        · exact (h.ln t ht).symm
        · rfl
      · rw [hs]
        show ((Y.th t).ops ++ [o])[(Y.th t).ops.length]? = _
        rw [List.getElem?_append_right (Nat.le_refl _)]; simp
  · rw [List.map_append, List.count_append]
    rcases Decidable.em (k = t) with rfl | e
    · rw [hs]
      show ((Y.th k).ops ++ [o]).length = _
      rw [List.length_append, h.ln k hk]
      simp [e1]
    · rw [ho k e, h.ln k hk]
      have : t ≠ k := Ne.symm e
      simp [e1, this]
  · rcases Decidable.em (k = t) with rfl | e
    · rw [upd_same, hs]
      exact ⟨fun q => (by cases q), fun q => (by cases q)⟩
    · rw [upd_other _ _ e, ho k e]; exact h.un k hk
  · rcases Decidable.em (k = t) with rfl | e
    · rw [upd_same] at hu
      injection hu with hu
      subst hu
      refine ⟨d0, ?_, e1, ?_⟩
      · rw [List.getElem?_append_right (Nat.le_refl _)]; simp
      · rw [e2, hs]
        show _ = ((Y.th k).ops ++ [o]).length
        simp
    · rw [upd_other _ _ e] at hu
      obtain ⟨d, h1, h2, h3⟩ := h.ui k i hk hu
      refine ⟨d, ?_, h2, by rw [ho k e]; exact h3⟩
      rw [List.getElem?_append_left (List.getElem?_eq_some_iff.mp h1).1]; exact h1
  · rcases hmem hd with q | rfl
    · rcases hol d.t with e | e
      · rw [e]; exact h.en d q
      · have h1 := hen d q e
        have h2 := (h.lt q).2
        rw [e] at h2
        rw [e, hs]
        refine ⟨fun q => (h1 q).elim, fun q => ?_⟩
        have : d.s + 1 = ((Y.th t).ops ++ [o]).length := q.2
        rw [List.length_append] at this
        simp at this
        omega
    · refine ⟨fun _ => ?_, fun _ => e5⟩
      rw [e1, e2, hs]
      exact ⟨by simp, by show _ = ((Y.th t).ops ++ [o]).length; simp⟩
  · rcases hmem hd with q | rfl
    · rw [hfl d q]; exact h.fl d q
    · rw [e1, e2, hs]
      exact ⟨fun _ => (h.yi.ok.fl t ht).1, fun _ => e4⟩
  · rcases hmem hd with q | rfl
    · rcases hol d.t with e | e
      · rw [e]; exact h.sw d q hq
      · exact (hen d q e hq).elim
    · have hr := rank_begin n cap Y t o
      rw [e1, e6]
      refine ⟨fun _ => ?_, fun q => ?_, fun q => ?_, ?_⟩
      · rw [hs]; exact rfl
      · rw [hs] at q; cases q
      · rw [hs] at q; have q' : 3 ≤ 1 := q; omega
      · rw [hr]; omega
  · rcases hmem hd with q | rfl
    · exact h.se d q
    · rw [e6]; exact Nat.zero_le _
  · rcases hmem hd with q | rfl
    · obtain ⟨j, h1, h2⟩ := h.an d q hq
      refine ⟨j, by rw [hb]; exact h1, ?_⟩
      have := ansAt_append P [] h1 hop
      rw [List.append_nil] at this
      rw [hb, this]; exact h2
    · omega
  · rw [hb] at hi hj
    rcases hmem hb' with qb | rfl
    · rcases hmem ha with qa | rfl
      · exact h.ti a qa b qb hbe hba i j hi hj
      · have := hi.cnt
        rw [e1, e2] at this
        have := h.yi.ok.ops t ht
        unfold cnt at this
        omega
    · omega
theorem mem_set {α : Type} {l : List α} {i : Nat} {d' e : α} (h : e ∈ l.set i d') : e = d' ∨ ∃ j, j ≠ i ∧ l[j]? = some e := by
  obtain ⟨j, hj⟩ := List.getElem?_of_mem h
  by_cases q : j = i
  · subst q
    rw [List.getElem?_set_self' ] at hj
    cases hl : l[j]? with
    | none => rw [hl] at hj; simp at hj
    | some a => rw [hl] at hj; simp at hj; exact .inl hj.symm
  · rw [List.getElem?_set_ne (Ne.symm q)] at hj
    exact .inr ⟨j, q, hj⟩
def Dd.next (P : Plain σ) (Y' : RSt) (c : Nat) (d : Dd) : Dd :=
  { d with st := d.st + 1, fl := if d.st + 1 = 4 then c + 1 else d.fl, nb := if d.st + 1 = 4 then Y'.bs.length else d.nb, en := if (Y'.th d.t).part = 0 then c + 1 else 0, an := if (Y'.th d.t).part = 0 then (replay P Y'.op Y'.bs).an d.t else d.an }
theorem PI.step (hn : 0 < n) (h : PI P n cap Y D u c) (ht : t < n) {i0 : Nat} {d : Dd} (hu : u t = some i0) (hd : D[i0]? = some d) :
    PI P n cap (rstep n cap Y t).1 (D.set i0 (d.next P (rstep n cap Y t).1 c)) (if ((rstep n cap Y t).1.th t).part = 0 then upd u t none else u) (c + 1) := by
  obtain ⟨d1, hd1, hdt, hds⟩ := h.ui t i0 ht hu
  rw [hd] at hd1
  injection hd1 with hd1
  subst hd1
  have hp : (Y.th t).part ≠ 0 := fun q => by rw [(h.un t ht).2 q] at hu; cases hu
  have hdm : d ∈ D := List.mem_of_getElem? hd
  have hden : d.en = 0 := (h.en d hdm).2 ⟨by rw [hdt]; exact hp, by rw [hdt]; exact hds⟩
  have hil : i0 < D.length := (List.getElem?_eq_some_iff.mp hd).1
  obtain ⟨Y', hY'⟩ : ∃ Y', Y' = (rstep n cap Y t).1 := ⟨_, rfl⟩
  have hyi := h.yi.step hn ht hp
  have hbo := h.bo.step h.yi ht
  have hops : ∀ k, ((rstep n cap Y t).1.th k).ops = (Y.th k).ops := rstep_ops n cap Y t
  have hoth : ∀ k, k ≠ t → (rstep n cap Y t).1.th k = Y.th k := fun k e => rstep_other n cap Y t e
  have hflp := rstep_flips (n := n) (cap := cap) (h.yi.ok.th t ht)
  have hprt := rstep_part (n := n) (cap := cap) (h.yi.ok.th t ht) hp
  have hrk := rank_step hn (h.yi.ok.th t ht) hp
  obtain ⟨m, hm⟩ := rstep_flat n cap Y t
  rw [← hY'] at hyi hbo hops hoth hflp hprt hrk hm ⊢
  have hopq : Y'.op = Y.op := by funext k i; show ((Y'.th k).ops).getD i _ = _; rw [hops]; rfl
  obtain ⟨d', hd'⟩ : ∃ d', d' = d.next P Y' c := ⟨_, rfl⟩
  have f1 : d'.t = t := by rw [hd']; exact hdt
  have f2 : d'.s = d.s := by rw [hd']; rfl
  have f3 : d'.bg = d.bg := by rw [hd']; rfl
  have f4 : d'.fl = if d.st + 1 = 4 then c + 1 else d.fl := by rw [hd']; rfl
  have f5 : d'.en = if (Y'.th t).part = 0 then c + 1 else 0 := by rw [hd', ← hdt]; rfl
  have f6 : d'.st = d.st + 1 := by rw [hd']; rfl
  have f7 : d'.op = d.op := by rw [hd']; rfl
  have f8 : d'.an = if (Y'.th t).part = 0 then (replay P Y'.op Y'.bs).an t else d.an := by rw [hd', ← hdt]; rfl
  rw [← hd']
  have hmap : (D.set i0 d').map Dd.t = D.map Dd.t := by
    rw [List.map_set]
    apply List.ext_getElem?
    intro j
    by_cases q : j = i0
    · subst q
      rw [List.getElem?_set_self (by simpa using hil), List.getElem?_map, hd, f1, ← hdt]; rfl
    · rw [List.getElem?_set_ne (Ne.symm q)]
  have hoth2 : ∀ {e : Dd}, e ∈ D.set i0 d' → e = d' ∨ (e ∈ D ∧ ∃ j, j ≠ i0 ∧ D[j]? = some e) := fun he => by
    rcases mem_set he with q | ⟨j, q1, q2⟩
    · exact .inl q
    · exact .inr ⟨List.mem_of_getElem? q2, j, q1, q2⟩
  have hels : ∀ {e : Dd} {j : Nat}, e ∈ D → j ≠ i0 → D[j]? = some e → e.t = t → e.s + 1 < (Y.th t).ops.length := fun {e j} he hj q1 q2 => by
    have h1 := (h.lt he).2
    rw [q2] at h1
    have : e.s ≠ d.s := fun q => hj (h.uniq q1 hd (by rw [q2, hdt]) q)
    omega
  have hold : ∀ {e : Dd} {j : Nat}, e ∈ D → j ≠ i0 → D[j]? = some e → e.t = t → e.en ≠ 0 := fun {e j} he hj q1 q2 q => by
    have h1 := hels he hj q1 q2
    have h2 := ((h.en e he).1 q).2
    rw [q2] at h2
    omega
  have hsw := h.sw d hdm hden
  rw [hdt] at hsw
  have hlf := ((h.yi.ok.th t ht).p2 hp).1
  have hL : Y'.bs.flatten = Y.bs.flatten ++ m := hm
  refine ⟨hyi, hbo, fun e he => ?_, fun j e hj => ?_, fun k hk => ?_, fun k hk => ?_, fun k i hk hi => ?_, fun e he => ?_, fun e he => ?_, fun e he hq => ?_, fun e he => ?_, fun e he hq => ?_, fun a ha b hb hbe hba i j hi hj => ?_⟩
  · rcases hoth2 he with rfl | ⟨q, -⟩
    · obtain ⟨a, b, -⟩ := h.cl d hdm
      rw [f3, f5]
      exact ⟨a, by omega, by split <;> omega⟩
    · obtain ⟨a, b, e3⟩ := h.cl e q; exact ⟨a, by omega, by omega⟩
  · rw [hmap]
    by_cases q : j = i0
    · subst q
      rw [List.getElem?_set_self hil] at hj
      injection hj with hj
      subst hj
      have := h.dt j d hd
      rw [hdt] at this
      rw [f1, f2, f7, hops]
      exact this
    · rw [List.getElem?_set_ne (Ne.symm q)] at hj
      have := h.dt j e hj
      rw [hops]
      exact this
  · rw [hmap, hops]; exact h.ln k hk
  · by_cases q : k = t
    · subst q
      split
      · rename_i c0
        rw [upd_same]
        exact ⟨fun _ => c0, fun _ => rfl⟩
      · rename_i c0
        rw [hu]
        exact ⟨fun q => (by cases q), fun q => (c0 q).elim⟩
    · rw [hoth k q]
      split
      · rw [upd_other _ _ q]; exact h.un k hk
      · exact h.un k hk
  · by_cases q : k = t
    · subst q
      split at hi
      · rw [upd_same] at hi; cases hi
      · rw [hu] at hi
        injection hi with hi
        subst hi
        exact ⟨d', List.getElem?_set_self hil, f1, by rw [f2, hops]; exact hds⟩
    · have hi' : u k = some i := by
        split at hi
        · rwa [upd_other _ _ q] at hi
        · exact hi
      obtain ⟨e, h1, h2, h3⟩ := h.ui k i hk hi'
      have : i ≠ i0 := fun c => by
        subst c
        rw [hd] at h1
        injection h1 with h1
        subst h1
        exact q (h2.symm.trans hdt)
      exact ⟨e, by rw [List.getElem?_set_ne (Ne.symm this)]; exact h1, h2, by rw [hops]; exact h3⟩
  · rcases hoth2 he with rfl | ⟨q, j, q1, q2⟩
    · rw [f1, f2, f5, hops]
      split
      · rename_i c0; exact ⟨fun q => by omega, fun q => (q.1 c0).elim⟩
      · rename_i c0; exact ⟨fun _ => ⟨c0, hds⟩, fun _ => rfl⟩
    · by_cases w : e.t = t
      · have h1 := hold q q1 q2 w
        have h2 := hels q q1 q2 w
        rw [hops, w]
        exact ⟨fun c => (h1 c).elim, fun c => by omega⟩
      · rw [hoth _ w]; exact h.en e q
  · rcases hoth2 he with rfl | ⟨q, j, q1, q2⟩
    · rw [f1, f2, f4, hflp]
      have hf := h.fl d hdm
      rw [hdt] at hf
      by_cases p1 : (Y.th t).part = 1
      · have := hsw.1 p1
        rw [if_neg (by omega), if_neg (by omega)]; exact hf
      · by_cases p2 : (Y.th t).part = 2
        · have := hsw.2.1 p2
          have := h.yi.c1 ht (.inr p2)
          rw [if_pos (by omega), if_pos p2]
          exact ⟨fun q => by omega, fun q => by omega⟩
        · have := hsw.2.2.1 (by omega)
          rw [if_neg (by omega), if_neg p2]; exact hf
    · by_cases w : e.t = t
      · have h2 := hels q q1 q2 w
        have hf := h.fl e q
        rw [w] at hf ⊢
        rw [hflp]
        have : (Y.th t).ops.length ≤ (Y.th t).flips + 1 := by
          by_cases p3 : 3 ≤ (Y.th t).part
          · have := h.yi.c3 ht p3; omega
          · have := h.yi.c1 ht (by omega); omega
        refine ⟨fun c => ?_, fun c => hf.2 ?_⟩
        · have := hf.1 c; omega
        · split at c <;> omega
      · rw [hoth _ w]; exact h.fl e q
  · rcases hoth2 he with rfl | ⟨q, j, q1, q2⟩
    · rw [f5] at hq
      have p0 : (Y'.th t).part ≠ 0 := fun c => by rw [if_pos c] at hq; omega
      rw [f1, f6]
      refine ⟨fun c1 => ?_, fun c2 => ?_, fun c3 => ?_, by omega⟩
      · by_cases p1 : (Y.th t).part = 1
        · have := hsw.1 p1
          rcases hprt.1 p1 with ⟨a, b⟩ | ⟨a, b⟩ <;> omega
        · rcases hprt.2.1 (by omega) with a | a <;> omega
      · by_cases p1 : (Y.th t).part = 1
        · have := hsw.1 p1
          rcases hprt.1 p1 with ⟨a, b⟩ | ⟨a, b⟩ <;> omega
        · rcases hprt.2.1 (by omega) with a | a <;> omega
      · by_cases p1 : (Y.th t).part = 1
        · rcases hprt.1 p1 with ⟨a, b⟩ | ⟨a, b⟩ <;> omega
        · by_cases p2 : (Y.th t).part = 2
          · have := hsw.2.1 p2; omega
          · have := hsw.2.2.1 (by omega); omega
    · by_cases w : e.t = t
      · exact (hold q q1 q2 w hq).elim
      · rw [hoth _ w]; exact h.sw e q hq
  · rcases hoth2 he with rfl | ⟨q, -⟩
    · rw [f6]; omega
    · exact h.se e q
  · rcases hoth2 he with rfl | ⟨q, -⟩
    · have p0 : (Y'.th t).part = 0 := by
        by_cases c0 : (Y'.th t).part = 0
        · exact c0
        · rw [f5, if_neg c0] at hq; omega
      obtain ⟨z1, z2⟩ := hyi.c0 ht p0
      have hc : Y'.bs.flatten.count t = d.s + 1 := by
        have : cnt Y'.bs t = Y'.bs.flatten.count t := rfl
        rw [← this, z2, ← z1, hops]; exact hds.symm
      obtain ⟨j, hj⟩ := Plc.ex (l := Y'.bs.flatten) (t := t) (s := d.s) (by omega)
      rw [f1, f2, f8, if_pos p0]
      exact ⟨j, hj, ansAt_last P Y'.op hj hc⟩
    · obtain ⟨j, h1, h2⟩ := h.an e q hq
      refine ⟨j, by rw [hL]; exact h1.append m, ?_⟩
      rw [hL, hopq, ansAt_append P (ops := Y.op) m h1 (fun _ _ _ => rfl)]; exact h2
  · rcases hoth2 hb with rfl | ⟨qb, -⟩
    · exfalso
      rw [f5] at hbe hba
      have : a.bg ≤ c := by
        rcases hoth2 ha with rfl | ⟨qa, -⟩
        · rw [f3]; exact (h.cl d hdm).2.1
        · exact (h.cl a qa).2.1
      by_cases c0 : (Y'.th t).part = 0
      · rw [if_pos c0] at hba; omega
      · rw [if_neg c0] at hbe; omega
    · obtain ⟨j0, hj0, -⟩ := h.an b qb hbe
      rw [hL] at hi hj
      have ej := hj.uniq (hj0.append m)
      subst ej
      have key : ∀ x : Dd, x ∈ D → b.en < x.bg → Plc (Y.bs.flatten ++ m) x.t x.s i → j < i := fun x hx hbx hix => by
        by_cases cc : x.s < Y.bs.flatten.count x.t
        · exact h.ti x hx b qb hbe hbx i j (hix.old cc) hj0
        · have := hix.new (by omega)
          have := hj0.lt
          omega
      rcases hoth2 ha with rfl | ⟨qa, -⟩
      · exact key d hdm (by rw [← f3]; exact hba) (by rw [hdt, ← f1, ← f2]; exact hi)
      · exact key a qa hba hi
end
end Go.Proofs.YtefjhnhdagolhaaGreat.M
namespace Go.Proofs.YtefjhnhdagolhaaGreat
open Go.RowKit
open M (upd upd_same upd_other RSt RTh Dd PI)
theorem owns_upd {w : World} {base : Nat} {e : TypeId} {size : Nat} {v : Value} {n : Nat} {xs : List Value} (h : w.ownsRow base e size v n xs) {g : Nat} (hg : v.ownBlock = some g) (k : Nat) (u : Value) : (w.setCell ⟨g, k, none⟩ u).ownsRow base e size v n (xs.set k u) := by
  rcases h.2 with ⟨rfl, -⟩ | ⟨g', cap, cur, rfl, h3, h4, h5, h6, h7, h8⟩
  · cases hg
  · have : g' = g := by simpa [Value.ownBlock] using hg
    subst this
    refine ⟨by rw [List.length_set]; exact h.1, .inr ⟨g', cap, cur.set! k u, rfl, h3, ?_, h5, h6, by simpa using h7, ?_⟩⟩
    · simp [World.setCell, Array.getElem?_modify, h4]
    · rw [← h8]
      simp [List.take_set]
theorem owns_frozen {w : World} {base : Nat} {e : TypeId} {size : Nat} {v : Value} {n : Nat} {xs : List Value} (h : w.ownsRow base e size v n xs) {g : Nat} (hg : v.ownBlock = some g) (k : Nat) : w.frozen? ⟨g, k, none⟩ = false := by
  rcases h.2 with ⟨rfl, -⟩ | ⟨g', cap, cur, rfl, h3, h4, -⟩
  · cases hg
  · have : g' = g := by simpa [Value.ownBlock] using hg
    subst this
    simp [World.frozen?, h4]
theorem owns_apart {w : World} {base : Nat} {e t : TypeId} {size : Nat} {v : Value} {n : Nat} {xs ys : List Value} {b : Nat} (h : w.ownsRow base e size v n xs) (hr : Row w b t ys) (hne : e ≠ t) : v.ownBlock ≠ some b := by
  intro q
  rcases h.2 with ⟨rfl, -⟩ | ⟨g, cap, cur, rfl, -, h4, -⟩
  · cases q
  · have : g = b := by simpa [Value.ownBlock] using q
    subst this
    unfold Row at hr
    rw [h4] at hr
    injection hr with hr
    injection hr with _ hr _
    exact hne hr
structure QW where
  w : World
  q : Nat → Prop
theorem low_of_fr {w0 w w' : World} {q U : Nat → Prop} (h : Fr (fun k => ¬ q k) w0 w) (hf : Fr U w w') (hU : ∀ k, U k → ¬ q k) : Fr (fun k => ¬ q k) w0 w' :=
  h.trans ⟨hf.os, hf.tape, hf.output, hf.size, fun k hk hn => hf.block k hk (fun c => hn (hU k c))⟩
def ddc (d : Dd) : List Value := [.int .i64 d.op.c, .int .i64 d.op.a, .int .i64 d.op.b, .int .i64 (d.t : Int), .int .i64 (d.s : Int), .int .i64 (d.bg : Int), .int .i64 (d.fl : Int), .int .i64 (d.en : Int), .int .i64 (d.nb : Int), .int .i64 (d.st : Int), .int .i64 d.an.v, .int .i64 d.an.s]
def ddcs (l : List Dd) : List Value := l.flatMap ddc
theorem ddcs_append (l m : List Dd) : ddcs (l ++ m) = ddcs l ++ ddcs m := by simp [ddcs]
theorem ddcs_get : ∀ {l : List Dd} {i : Nat} {d : Dd} (f : Nat), l[i]? = some d → f < 12 → (ddcs l)[i * 12 + f]? = (ddc d)[f]?
  | [], i, d, f, h, _ => by simp at h
  | a :: l, 0, d, f, h, hf => by
    simp at h
    subst h
    show (ddc a ++ ddcs l)[0 * 12 + f]? = _
    rw [List.getElem?_append_left (by simp [ddc]; omega)]
    simp
  | a :: l, i + 1, d, f, h, hf => by
    show (ddc a ++ ddcs l)[(i + 1) * 12 + f]? = _
    rw [List.getElem?_append_right (by simp [ddc]; omega), ← ddcs_get (l := l) (i := i) f (by simpa using h) hf]
    congr 1
    simp [ddc]
    omega
theorem ddcs_set : ∀ {l : List Dd} {i : Nat} {d d' : Dd} (f : Nat) (v : Value), l[i]? = some d → f < 12 → ddc d' = (ddc d).set f v → ddcs (l.set i d') = (ddcs l).set (i * 12 + f) v
  | [], i, d, d', f, v, h, _, _ => by simp at h
  | a :: l, 0, d, d', f, v, h, hf, e => by
    simp at h
    subst h
    show ddc d' ++ ddcs l = (ddc a ++ ddcs l).set (0 * 12 + f) v
    rw [List.set_append_left _ _ (by simp [ddc]; omega), e]
    simp
  | a :: l, i + 1, d, d', f, v, h, hf, e => by
    show ddc a ++ ddcs (l.set i d') = (ddc a ++ ddcs l).set ((i + 1) * 12 + f) v
    rw [List.set_append_right _ _ (by simp [ddc]; omega), ddcs_set (l := l) (i := i) f v (by simpa using h) hf e]
    congr 2
    simp [ddc]
    omega
theorem ints_set (l : List Int) (i : Nat) (x : Int) : ints (l.set i x) = (ints l).set i (.int .i64 x) := by simp [ints, List.map_set]
theorem ints_get {l : List Int} {i : Nat} {x : Int} (h : l[i]? = some x) : (ints l)[i]? = some (.int .i64 x) := by rw [ints, List.getElem?_map, h]; rfl
structure PL where
  bP : Nat
  bX : Nat
  tE : TypeId
  bN : Nat
  kd : Int
  st : Int
  co : Int
  vn : Value
  vo : Value
def plcs (D : DL) (A : PL) (vd vu vs : Value) (c : Nat) : List Value := [.pointer (some ⟨A.bX, 0, none⟩), .int .i64 A.kd, .int .i64 (D.n : Int), .int .i64 (D.cap : Int), .int .i64 A.st, .int .i64 A.co, A.vn, A.vo, vd, vu, vs, .int .i64 (c : Int)]
structure PM (X : (Nat → Prop) → RSt → World → Prop) (D : DL) (A : PL) (w0 : QW) (S : Nat → Prop) (vd vu vs : Value) (Y : RSt) (ds : List Dd) (us ss : List Int) (c : Nat) (w : World) : Prop where
  row : Row w A.bP 69 (plcs D A vd vu vs c)
  obj : Row w A.bX 74 [.iface A.tE (.pointer (some ⟨A.bN, 0, none⟩))]
  x : X S Y w
  xl : ∀ k, S k → k < w.heap.size
  od : w.ownsRow 0 77 12 vd ds.length (ddcs ds)
  ou : w.ownsRow 0 3 1 vu us.length (ints us)
  os : w.ownsRow 0 3 1 vs ss.length (ints ss)
  sx : ∀ k, S k → k ≠ A.bP ∧ k ≠ A.bX ∧ vd.ownBlock ≠ some k ∧ vu.ownBlock ≠ some k ∧ vs.ownBlock ≠ some k
  nu : ∀ k, vu.ownBlock = some k → vs.ownBlock ≠ some k
  lo : ¬ w0.q A.bP ∧ ¬ w0.q A.bX ∧ (∀ k, S k → ¬ w0.q k) ∧ ∀ k, vd.ownBlock = some k ∨ vu.ownBlock = some k ∨ vs.ownBlock = some k → ¬ w0.q k
  ql : ∀ k, w0.q k → k < w0.w.heap.size
  bl : Fr (fun k => ¬ w0.q k) w0.w w
section
variable {σ : Type} {P : M.Plain σ} {tell : σ → List Int} {D : DL} {X : (Nat → Prop) → RSt → World → Prop} {A : PL} {S : Nat → Prop} {w0 : QW} {w w1 : World} {vd vu vs : Value} {Y Y' : RSt} {ds : List Dd} {us ss : List Int} {c : Nat} {fBe fSt fAn fDo fOr fTe fBo : Nat}
theorem PM.below (xo : XOk P tell D A.tE A.bN X fBe fSt fAn fDo fOr fTe fBo) (h : PM X D A w0 S vd vu vs Y ds us ss c w) (hb : Below w.heap.size w w1) : PM X D A w0 S vd vu vs Y ds us ss c w1 where
  row := h.row.old hb
  obj := h.obj.old hb
  x := xo.stay _ _ _ _ _ h.x (fun k hS => hb.block k (h.xl k hS)) (fun _ q => q) (fun k hS => Nat.lt_of_lt_of_le (h.xl k hS) hb.size)
  xl k hS := Nat.lt_of_lt_of_le (h.xl k hS) hb.size
  od := owns_later h.od hb
  ou := owns_later h.ou hb
  os := owns_later h.os hb
  sx := h.sx
  nu := h.nu
  lo := h.lo
  ql := h.ql
  bl := h.bl.trans (Fr.of_below hb)
theorem PM.xgo (xo : XOk P tell D A.tE A.bN X fBe fSt fAn fDo fOr fTe fBo) (h : PM X D A w0 S vd vu vs Y ds us ss c w) (hg : XGo X S w Y' w1) : PM X D A w0 (Grow S w w1) vd vu vs Y' ds us ss c w1 := by
  have hk : ∀ k, k < w.heap.size → ¬ S k → w1.heap[k]? = w.heap[k]? := hg.fr.block
  have hz := hg.fr.size
  have hz0 := h.bl.size
  have hr := h.row.lt
  have hx := h.obj.lt
  exact {
    row := h.row.of_block (hk _ hr (fun q => (h.sx _ q).1 rfl))
    obj := h.obj.of_block (hk _ hx (fun q => (h.sx _ q).2.1 rfl))
    x := hg.x
    xl := xo.lt _ _ _ hg.x
    od := owns_block h.od fun k e => hk k (h.od.lt k e).2 (fun q => (h.sx k q).2.2.1 e)
    ou := owns_block h.ou fun k e => hk k (h.ou.lt k e).2 (fun q => (h.sx k q).2.2.2.1 e)
    os := owns_block h.os fun k e => hk k (h.os.lt k e).2 (fun q => (h.sx k q).2.2.2.2 e)
    sx := fun k hS => by
      rcases hS with q | q
      · exact h.sx k q
      · exact ⟨by omega, by omega, fun e => by have := (h.od.lt k e).2; omega, fun e => by have := (h.ou.lt k e).2; omega, fun e => by have := (h.os.lt k e).2; omega⟩
    nu := h.nu
    lo := ⟨h.lo.1, h.lo.2.1, fun k hS => by
      rcases hS with q | q
      · exact h.lo.2.2.1 k q
      · exact fun c => by have := h.ql k c; omega, h.lo.2.2.2⟩
    ql := h.ql
    bl := low_of_fr h.bl hg.fr h.lo.2.2.1 }
theorem set_block {w : World} {b o k : Nat} {v : Value} (h : k ≠ b) : (w.setCell ⟨b, o, none⟩ v).heap[k]? = w.heap[k]? := Below.heap_setCell _ _ _ k h
theorem PM.xset (xo : XOk P tell D A.tE A.bN X fBe fSt fAn fDo fOr fTe fBo) (h : PM X D A w0 S vd vu vs Y ds us ss c w) {b : Nat} (hb : ¬ S b) (o : Nat) (v : Value) : X S Y (w.setCell ⟨b, o, none⟩ v) ∧ ∀ k, S k → k < (w.setCell ⟨b, o, none⟩ v).heap.size := by
  have hz : (w.setCell ⟨b, o, none⟩ v).heap.size = w.heap.size := by simp [World.setCell]
  refine ⟨xo.stay _ _ _ _ _ h.x (fun k hS => set_block (fun q => hb (by rw [← q]; exact hS))) (fun _ q => q) (fun k hS => by rw [hz]; exact h.xl k hS), fun k hS => by rw [hz]; exact h.xl k hS⟩
theorem below_low {w0 w : World} {q : Nat → Prop} {b : Nat} (h : Fr (fun k => ¬ q k) w0 w) (hb : ¬ q b) (o : Nat) (v : Value) : Fr (fun k => ¬ q k) w0 (w.setCell ⟨b, o, none⟩ v) := h.here (b := b) hb o v
theorem PM.ne (h : PM X D A w0 S vd vu vs Y ds us ss c w) : A.bP ≠ A.bX ∧ vd.ownBlock ≠ some A.bP ∧ vu.ownBlock ≠ some A.bP ∧ vs.ownBlock ≠ some A.bP ∧ vd.ownBlock ≠ some A.bX ∧ vu.ownBlock ≠ some A.bX ∧ vs.ownBlock ≠ some A.bX ∧ (∀ k, vd.ownBlock = some k → vu.ownBlock ≠ some k ∧ vs.ownBlock ≠ some k) := by
  have n3 : ∀ {v v' : Value} {n n' : Nat} {xs ys : List Value} {s s' : Nat} {e e' : TypeId}, w.ownsRow 0 e s v n xs → w.ownsRow 0 e' s' v' n' ys → e ≠ e' → ∀ k, v.ownBlock = some k → v'.ownBlock ≠ some k := by
    intro v v' n n' xs ys s s' e e' h1 h2 hne k q1 q2
    rcases h1.2 with ⟨rfl, -⟩ | ⟨g, cap, cur, rfl, -, h4, -⟩
    · cases q1
    · rcases h2.2 with ⟨rfl, -⟩ | ⟨g2, cap2, cur2, rfl, -, h42, -⟩
      · cases q2
      · have a : g = k := by simpa [Value.ownBlock] using q1
        have b : g2 = k := by simpa [Value.ownBlock] using q2
        subst a b
        rw [h4] at h42
        injection h42 with h42
        injection h42 with _ h43 _
        exact hne h43
  exact ⟨Row.apart h.row h.obj (by decide), owns_apart h.od h.row (by decide), owns_apart h.ou h.row (by decide), owns_apart h.os h.row (by decide), owns_apart h.od h.obj (by decide), owns_apart h.ou h.obj (by decide), owns_apart h.os h.obj (by decide), fun k e => ⟨n3 h.od h.ou (by decide) k e, n3 h.od h.os (by decide) k e⟩⟩
theorem PM.setP (xo : XOk P tell D A.tE A.bN X fBe fSt fAn fDo fOr fTe fBo) (h : PM X D A w0 S vd vu vs Y ds us ss c w) (c' : Nat) (x : Int) (hx : x = (c' : Int)) : PM X D A w0 S vd vu vs Y ds us ss c' (w.setCell ⟨A.bP, 11, none⟩ (.int .i64 x)) := by
  subst hx
  obtain ⟨n1, n2, n3, n4, -⟩ := h.ne
  have hb : ¬ S A.bP := fun q => (h.sx _ q).1 rfl
  have hne : ∀ {v : Value} {k : Nat}, v.ownBlock ≠ some A.bP → v.ownBlock = some k → k ≠ A.bP := fun hv e q => hv (by rw [← q]; exact e)
  obtain ⟨x1, x2⟩ := h.xset xo hb 11 (.int .i64 (c' : Int))
  exact {
    row := h.row.set 11 _
    obj := h.obj.setOther (Ne.symm n1) _
    x := x1
    xl := x2
    od := owns_block h.od fun k e => set_block (hne n2 e)
    ou := owns_block h.ou fun k e => set_block (hne n3 e)
    os := owns_block h.os fun k e => set_block (hne n4 e)
    sx := h.sx
    nu := h.nu
    lo := h.lo
    ql := h.ql
    bl := below_low h.bl h.lo.1 _ _ }
theorem PM.setU (xo : XOk P tell D A.tE A.bN X fBe fSt fAn fDo fOr fTe fBo) (h : PM X D A w0 S vd vu vs Y ds us ss c w) {g : Nat} (hg : vu.ownBlock = some g) (k : Nat) (x : Int) : PM X D A w0 S vd vu vs Y ds (us.set k x) ss c (w.setCell ⟨g, k, none⟩ (.int .i64 x)) := by
  obtain ⟨-, -, n3, -, -, n6, -, n8⟩ := h.ne
  have hb : ¬ S g := fun q => (h.sx _ q).2.2.2.1 hg
  obtain ⟨x1, x2⟩ := h.xset xo hb k (.int .i64 x)
  exact {
    row := h.row.setOther (fun q => n3 (by rw [q]; exact hg)) _
    obj := h.obj.setOther (fun q => n6 (by rw [q]; exact hg)) _
    x := x1
    xl := x2
    od := owns_block h.od fun j e => set_block (fun q => (n8 j e).1 (by rw [q]; exact hg))
    ou := by rw [List.length_set, ints_set]; exact owns_upd h.ou hg k _
    os := owns_block h.os fun j e => set_block (fun q => h.nu g hg (by rw [← q]; exact e))
    sx := h.sx
    nu := h.nu
    lo := h.lo
    ql := h.ql
    bl := below_low h.bl (h.lo.2.2.2 g (.inr (.inl hg))) _ _ }
theorem PM.setS (xo : XOk P tell D A.tE A.bN X fBe fSt fAn fDo fOr fTe fBo) (h : PM X D A w0 S vd vu vs Y ds us ss c w) {g : Nat} (hg : vs.ownBlock = some g) (k : Nat) (x : Int) : PM X D A w0 S vd vu vs Y ds us (ss.set k x) c (w.setCell ⟨g, k, none⟩ (.int .i64 x)) := by
  obtain ⟨-, -, -, n4, -, -, n7, n8⟩ := h.ne
  have hb : ¬ S g := fun q => (h.sx _ q).2.2.2.2 hg
  obtain ⟨x1, x2⟩ := h.xset xo hb k (.int .i64 x)
  exact {
    row := h.row.setOther (fun q => n4 (by rw [q]; exact hg)) _
    obj := h.obj.setOther (fun q => n7 (by rw [q]; exact hg)) _
    x := x1
    xl := x2
    od := owns_block h.od fun j e => set_block (fun q => (n8 j e).2 (by rw [q]; exact hg))
    ou := owns_block h.ou fun j e => set_block (fun q => h.nu j e (by rw [q]; exact hg))
    os := by rw [List.length_set, ints_set]; exact owns_upd h.os hg k _
    sx := h.sx
    nu := h.nu
    lo := h.lo
    ql := h.ql
    bl := below_low h.bl (h.lo.2.2.2 g (.inr (.inr hg))) _ _ }
theorem PM.setD (xo : XOk P tell D A.tE A.bN X fBe fSt fAn fDo fOr fTe fBo) (h : PM X D A w0 S vd vu vs Y ds us ss c w) {g : Nat} (hg : vd.ownBlock = some g) {i : Nat} {d d' : Dd} (f : Nat) (v : Value) (hd : ds[i]? = some d) (hf : f < 12) (e : ddc d' = (ddc d).set f v) : PM X D A w0 S vd vu vs Y (ds.set i d') us ss c (w.setCell ⟨g, i * 12 + f, none⟩ v) := by
  obtain ⟨-, n2, -, -, n5, -, -, n8⟩ := h.ne
  have hb : ¬ S g := fun q => (h.sx _ q).2.2.1 hg
  obtain ⟨x1, x2⟩ := h.xset xo hb (i * 12 + f) v
  exact {
    row := h.row.setOther (fun q => n2 (by rw [q]; exact hg)) _
    obj := h.obj.setOther (fun q => n5 (by rw [q]; exact hg)) _
    x := x1
    xl := x2
    od := by rw [List.length_set, ddcs_set f v hd hf e]; exact owns_upd h.od hg _ _
    ou := owns_block h.ou fun j q => set_block (fun q2 => (n8 g hg).1 (by rw [← q2]; exact q))
    os := owns_block h.os fun j q => set_block (fun q2 => (n8 g hg).2 (by rw [← q2]; exact q))
    sx := h.sx
    nu := h.nu
    lo := h.lo
    ql := h.ql
    bl := below_low h.bl (h.lo.2.2.2 g (.inl hg)) _ _ }
theorem PM.deed (h : PM X D A w0 S vd vu vs Y ds us ss c w) {i : Nat} {d : Dd} (hd : ds[i]? = some d) : ∃ g cp, vd = .slice (some ⟨g, 0, none⟩) ds.length cp ∧ ∀ f v, (ddc d)[f]? = some v → w.cell? ⟨g, i * 12 + f, none⟩ = some v := by
  have h0 := ddcs_get (l := ds) 0 hd (by decide)
  obtain ⟨g, cp, e, -⟩ := owns_get h.od (i := i * 12 + 0) (u := .int .i64 d.op.c) (by rw [h0]; rfl)
  refine ⟨g, cp, e, fun f v hv => ?_⟩
  have hf : f < 12 := by have := (List.getElem?_eq_some_iff.mp hv).1; simpa [ddc] using this
  obtain ⟨g', cp', e', q⟩ := owns_get h.od (i := i * 12 + f) (u := v) (by rw [ddcs_get f hd hf]; exact hv)
  rw [e] at e'
  injection e' with e1 _ _
  injection e1 with e1
  injection e1 with e1
  rw [e1]; exact q
end
end Go.Proofs.YtefjhnhdagolhaaGreat
