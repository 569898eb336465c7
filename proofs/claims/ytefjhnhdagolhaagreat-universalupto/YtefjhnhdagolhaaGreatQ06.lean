import Derived.Test.YtefjhnhdagolhaaGreatQ03
import Derived.Test.YtefjhnhdagolhaaGreatQ01
namespace Go.Proofs.YtefjhnhdagolhaaGreat
open Go.RowKit
set_option maxHeartbeats 400000 in
theorem int64Load (b o : Nat) (x : Int) (w : World) (hc : w.cell? ⟨b, o, none⟩ = some (.int .i64 x)) :
    Calls Tryz.prog 239 #[.pointer (some ⟨b, o, none⟩)] w fun e w' => e = .returned (.int .i64 x) ∧ w' = w := by
  have hld := run_call_load (P := Tryz.prog) Tryz.func246 (by kernel_rfl) (by kernel_rfl) (by kernel_rfl) .i64 (by kernel_rfl) hc
  clear hc
  go_enter Tryz.func239, Tryz.ntmps239
  go_wp2
  go_ret
  exact ⟨rfl, rfl⟩
set_option maxHeartbeats 400000 in
theorem pubRead (b o : Nat) (x : Int) (w : World) (hc : w.cell? ⟨b, o, none⟩ = some (.int .i64 x)) :
    Calls Tryz.prog 218 #[.pointer (some ⟨b, o, none⟩)] w fun e w' => e = .returned (.int .i64 x) ∧ w' = w := by
  have HC := hide hc
  clear hc
  go_enter Tryz.func218, Tryz.ntmps218
  go_wp2_with fail
  refine (int64Load b o x _ HC.out).mono ?_
  rintro e w1 ⟨rfl, rfl⟩
  go_wp2_with fail
  go_ret
  exact ⟨rfl, rfl⟩
set_option maxHeartbeats 400000 in
theorem pubRecord (x : Int) (w : World) (h0 : 0 ≤ x) (h1 : x ≤ 9223372036854775807) :
    Calls Tryz.prog 223 #[.int .i64 x] w fun e w' => e = .returned (.int .i64 (x % 129)) ∧ w' = w := by
  go_enter Tryz.func223, Tryz.ntmps223
  go_wp2
  go_ret
  exact ⟨rfl, rfl⟩
set_option maxHeartbeats 400000 in
theorem pubStamp (x : Int) (w : World) (h0 : 0 ≤ x) (h1 : x ≤ 9223372036854775807) :
    Calls Tryz.prog 226 #[.int .i64 x] w fun e w' => e = .returned (.int .i64 (x / 129)) ∧ w' = w := by
  go_enter Tryz.func226, Tryz.ntmps226
  go_wp2
  go_ret
  exact ⟨rfl, rfl⟩
set_option maxHeartbeats 400000 in
theorem parts_any (n : Int) (w : World) (h0 : 1 ≤ n) (h1 : n ≤ 64) :
    Calls Tryz.prog 199 #[.agg #[.int .i64 n]] w fun e w' => e = .returned (.int .i64 ((n + 15) / 16 + 2 * n + 1)) ∧ Below w.heap.size w w' := by
  go_enter Tryz.func199, Tryz.ntmps199
  go_wp2_with fail
  refine (recordWords_any n _ h0 h1).mono ?_
  rintro e w1 ⟨rfl, hb1⟩
  go_wp2_with fail
  go_ret
  exact ⟨rfl, Below.next (below_alloc _ _) hb1 (by simp)⟩
end Go.Proofs.YtefjhnhdagolhaaGreat
namespace Go.Proofs.YtefjhnhdagolhaaGreat.M
section
variable {σ : Type} {P : Plain σ} {n cap : Nat}
theorem Thr.ann {V : View σ} {t u : Nat} {e : ETh σ} {x : RTh} (h : Thr P n cap V t e x) (hu : u ≠ t) (hq : cnt V.bs u = V.flips u) (f : Nat → Int) : Thr P n cap { V with ann := upd V.ann u f } t e x := by
  refine { h with an1 := ?_, an2 := ?_, h8n := ?_ }
  · intro h1 i hi
    show upd V.ann u f t i = _
    rw [upd_other _ _ (Ne.symm hu)]
    exact h.an1 h1 i hi
  · intro h1 i hi
    show upd V.ann u f t i = _
    rw [upd_other _ _ (Ne.symm hu)]
    exact h.an2 h1 i hi
  · intro h1 h2
    obtain ⟨a1, a2, a3, a4⟩ := h.h8n h1 h2
    refine ⟨a1, a2, a3, fun q hq' => ?_⟩
    show _ = upd V.ann u f _ q
    rw [a4 q hq', upd_other]
    rintro rfl
    obtain ⟨b1, b2, b3, b4⟩ := h.h8 (by omega) (by omega)
    obtain ⟨c1, c2⟩ := h.p3 (by omega) (by omega)
    have hl : x.len n x.part = 3 * x.pend.length := by rw [h1]; simp [RTh.len]
    rw [hl, ← b1] at c1
    have hlt : e.past / 3 < e.pend.length := by omega
    have hm : e.pend.getD (e.past / 3) 0 ∈ e.pend := by
      rw [List.getD_eq_getElem?_getD, List.getElem?_eq_getElem hlt]
      exact List.getElem_mem hlt
    generalize e.pend.getD (e.past / 3) 0 = k at *
    rw [b2, List.mem_filter] at hm
    obtain ⟨m1, m2⟩ := hm
    have m1 := List.mem_range.1 m1
    have m2 := of_decide_eq_true m2
    have hsc := ((h.t7 (by omega) (by omega)).2 k m1 (by unfold tw; omega)).2.1
    have ha : V.at e.stamp k = cnt V.bs k := cnt_take_all _ (by rw [h2]; exact Nat.le_refl _) k
    omega
theorem Pends.count {V : View σ} {s t : Nat} {p : List Nat} {fd : Nat → Nat} (h : Pends n V s t p fd) (k : Nat) : p.count k = if k ∈ p then 1 else 0 := by
  have hn : p.Nodup := by rw [h.1]; exact List.nodup_range.filter _
  exact hn.count
theorem Pends.mem {V : View σ} {s t : Nat} {p : List Nat} {fd : Nat → Nat} (h : Pends n V s t p fd) {k : Nat} : k ∈ p ↔ k < n ∧ fd k = V.at s k + 1 := by
  rw [h.1, List.mem_filter]
  simp
theorem at_now (V : View σ) {s : Nat} (hs : s = V.N) (k : Nat) : V.at s k = cnt V.bs k := cnt_take_all _ (by rw [hs]; exact Nat.le_refl _) k
theorem lt_tw {k : Nat} (hk : k < n) : k / 16 < tw n := by unfold tw; omega
def View.flip (V : View σ) (u : Nat) (g : Nat → Int) : View σ := { V with flips := upd V.flips u (V.flips u + 1), togs := g, nf := upd V.nf u V.N }
theorem flip_quiet {V : View σ} {u : Nat} {g : Nat → Int} {s k : Nat} (hq : cnt V.bs u = V.flips u) (h : (V.flip u g).quiet s k) : V.quiet s k := by
  obtain ⟨h1, h2⟩ := h
  by_cases e : k = u
  · subst e
    simp only [View.flip, upd_same] at h1
    omega
  · simp only [View.flip, upd_other _ _ e] at h1
    exact ⟨h1, h2⟩
theorem flip_drafts {V : View σ} {u : Nat} {g : Nat → Int} {s c : Nat} {dw : Nat → Int} (hq : cnt V.bs u = V.flips u) (h : Drafts P n V s c dw) : Drafts P n (V.flip u g) s c dw :=
  fun k hk hqk => h k hk (flip_quiet hq hqk)
theorem flip_scanned {V : View σ} {u t : Nat} (hu : t ≠ u) {g : Nat → Int} {s c : Nat} {tg : Nat → Int} {fd : Nat → Nat} (hs : s ≤ V.N) (h : Scanned n V t s c tg fd) : Scanned n (V.flip u g) t s c tg fd := by
  refine ⟨h.1, fun k hk hc => ?_⟩
  obtain ⟨h1, h2, h3⟩ := h.2 k hk hc
  refine ⟨h1, ?_, ?_⟩
  · show fd k ≤ upd V.flips u (V.flips u + 1) k
    by_cases e : k = u
    · subst e; rw [upd_same]; omega
    · rw [upd_other _ _ e]; exact h2
  · show k = t ∨ upd V.nf u V.N k < s → fd k = upd V.flips u (V.flips u + 1) k
    by_cases e : k = u
    · subst e; rw [upd_same]; omega
    · rw [upd_other _ _ e, upd_other _ _ e]; exact h3
theorem Thr.flip {V : View σ} {t u : Nat} {e : ETh σ} {x : RTh} (h : Thr P n cap V t e x) (hu : t ≠ u) (hq : cnt V.bs u = V.flips u) (g : Nat → Int) : Thr P n cap (V.flip u g) t e x := by
  have hf : (V.flip u g).flips t = V.flips t := upd_other _ _ hu
  have hn : (V.flip u g).nf t = V.nf t := upd_other _ _ hu
  refine { h with xf := ?_, tog := ?_, c0 := ?_, c1 := ?_, c3 := ?_, c11 := ?_, tn := ?_, s1 := ?_, d5 := ?_, d6 := ?_, t6 := ?_, t7 := ?_ }
  · rw [hf]; exact h.xf
  · rw [hf]; exact h.tog
  · rw [hf]; exact h.c0
  · rw [hf]; exact h.c1
  · rw [hf]; exact h.c3
  · rw [hf]; exact h.c11
  · rw [hn]; exact h.tn
  · rw [hn]; exact h.s1
  · exact fun h1 => ⟨flip_drafts hq (h.d5 h1).1, (h.d5 h1).2⟩
  · exact fun h1 h2 => ⟨flip_drafts hq (h.d6 h1 h2).1, (h.d6 h1 h2).2⟩
  · exact fun h1 => flip_scanned hu (h.s1 (by omega) (by omega)).2.1 (h.t6 h1)
  · exact fun h1 h2 => flip_scanned hu (h.s1 (by omega) (by omega)).2.1 (h.t7 h1 h2)
theorem Thr.word {V : View σ} {t r : Nat} {e : ETh σ} {x : RTh} (h : Thr P n cap V t e x) (hp : r ≠ V.prec) (hr : e.spare ≠ r) (f : Nat → Int) : Thr P n cap { V with rw := upd V.rw r f } t e x := by
  have h1 : upd V.rw r f V.prec = V.rw V.prec := upd_other _ _ (Ne.symm hp)
  have h2 : upd V.rw r f e.spare = V.rw e.spare := upd_other _ _ hr
  refine { h with d5 := ?_, d7 := ?_, w9 := ?_, w10 := ?_ }
  · intro q
    refine ⟨(h.d5 q).1, ?_⟩
    show _ → ∀ i, _ → _ → e.dw i = upd V.rw r f V.prec i
    rw [h1]
    exact (h.d5 q).2
  · intro q q2
    show (∀ i, _ → e.dw i = upd V.rw r f V.prec i) ∧ _
    rw [h1]
    exact h.d7 q q2
  · intro q
    show ∀ i, _ → _ → upd V.rw r f e.spare i = _
    rw [h2]
    exact h.w9 q
  · intro q
    show (∀ i, _ → upd V.rw r f e.spare i = _) ∧ _
    rw [h2]
    exact h.w10 q
theorem Thr.state {V : View σ} {t r : Nat} {e : ETh σ} {x : RTh} (h : Thr P n cap V t e x) (hr : e.spare ≠ r) (s : Option (Ver σ × Ver σ)) (hs : s.isSome) : Thr P n cap { V with rst := upd V.rst r s } t e x := by
  refine { h with s1 := ?_, w10 := ?_ }
  · intro h1 h2
    obtain ⟨a1, a2, a3, a4, a5, a6, a7, a8⟩ := h.s1 h1 h2
    refine ⟨a1, a2, a3, a4, a5, a6, a7, ?_⟩
    show (upd V.rst r s e.srec).isSome = true
    unfold upd
    split
    · exact hs
    · exact a8
  · intro q
    show _ ∧ upd V.rst r s e.spare = _
    rw [upd_other _ _ hr]
    exact h.w10 q
def View.publish (V : View σ) (r : Nat) (p : List Nat) : View σ := { V with bs := V.bs ++ [p], prec := r, pb := upd V.pb r (V.N + 1) }
structure Good (n : Nat) (V : View σ) (p : List Nat) : Prop where
  cn : ∀ k, p.count k = if k ∈ p then 1 else 0
  lt : ∀ k, k ∈ p → k < n
  fl : ∀ k, k ∈ p → V.flips k = cnt V.bs k + 1
theorem Pends.good {V : View σ} {s t : Nat} {p : List Nat} {tg : Nat → Int} {fd : Nat → Nat} (h : Pends n V s t p fd) (hs : s = V.N) (hc : Scanned n V t s (tw n) tg fd) (hG : Glob P n V) : Good n V p := by
  refine ⟨h.count, fun k hk => (h.mem.1 hk).1, fun k hk => ?_⟩
  obtain ⟨h1, h2⟩ := h.mem.1 hk
  have h3 := (hc.2 k h1 (lt_tw h1)).2.1
  have h4 := hG.fl k h1
  rw [at_now V hs] at h2
  omega
section
variable {V : View σ} {r : Nat} {p : List Nat}
theorem pub_N : (V.publish r p).N = V.N + 1 := by simp [View.publish, View.N]
theorem pub_cnt (hp : Good n V p) (k : Nat) : cnt (V.publish r p).bs k = cnt V.bs k + if k ∈ p then 1 else 0 := by
  show cnt (V.bs ++ [p]) k = _
  rw [cnt_append, hp.cn]
theorem pub_at {s : Nat} (hs : s ≤ V.N) (k : Nat) : (V.publish r p).at s k = V.at s k := by
  show cnt ((V.bs ++ [p]).take s) k = _
  rw [take_append_le _ _ hs]
  rfl
theorem pub_rp : (V.publish r p).rp P = (V.rp P).run P V.op p := replay_append P V.op V.bs p
theorem pub_A {k : Nat} (hk : k ∉ p) : (V.publish r p).A P k = V.A P k := by
  unfold View.A
  rw [pub_rp, run_an P V.op k p _ hk]
theorem pub_quiet (hp : Good n V p) {s k : Nat} (hs : s ≤ V.N) (h : (V.publish r p).quiet s k) : V.quiet s k ∧ k ∉ p := by
  obtain ⟨h1, h2⟩ := h
  rw [pub_at hs, pub_cnt hp] at h2
  rw [pub_cnt hp] at h1
  have h3 := cnt_take_le V.bs s k
  have h4 : V.at s k = cnt (V.bs.take s) k := rfl
  by_cases hk : k ∈ p
  · rw [if_pos hk] at h2; omega
  · rw [if_neg hk] at h1 h2
    exact ⟨⟨h1, h2⟩, hk⟩
theorem pub_drafts (hp : Good n V p) {s c : Nat} {dw : Nat → Int} (hs : s ≤ V.N) (h : Drafts P n V s c dw) : Drafts P n (V.publish r p) s c dw := by
  intro k hk hq
  obtain ⟨h1, h2⟩ := pub_quiet hp hs hq
  rw [pub_A h2]
  exact h k hk h1
theorem pub_scanned {t s c : Nat} {tg : Nat → Int} {fd : Nat → Nat} (hs : s ≤ V.N) (h : Scanned n V t s c tg fd) : Scanned n (V.publish r p) t s c tg fd := by
  refine ⟨h.1, fun k hk hc => ?_⟩
  rw [pub_at hs]
  exact h.2 k hk hc
theorem pub_pends {s t : Nat} {q : List Nat} {fd : Nat → Nat} (hs : s ≤ V.N) (h : Pends n V s t q fd) : Pends n (V.publish r p) s t q fd := by
  unfold Pends
  simp only [pub_at hs]
  exact h
theorem Thr.publish {t : Nat} {e : ETh σ} {x : RTh} (h : Thr P n cap V t e x) (hp : Good n V p) (hG : Glob P n V) (hr : e.spare ≠ r) : Thr P n cap (V.publish r p) t e x := by
  have hst : ∀ {s : Nat}, s ≤ V.N → s = (V.publish r p).N → False := fun h1 h2 => by rw [pub_N] at h2; omega
  have hs : 5 ≤ x.part → x.part ≤ 10 → e.stamp ≤ V.N := fun h1 h2 => (h.s1 h1 h2).2.1
  have hnp : cnt V.bs t = V.flips t → t ∉ p := fun h1 h2 => by have := hp.fl t h2; omega
  have hcn : cnt V.bs t = V.flips t → cnt (V.publish r p).bs t = cnt V.bs t := fun h1 => by rw [pub_cnt hp, if_neg (hnp h1)]; rfl
  refine { h with c0 := ?_, c1 := ?_, c11 := ?_, spc := hr, a0 := ?_, a1 := ?_, fd := ?_, tn := ?_, s1 := ?_, d5 := ?_, d6 := ?_, d7 := ?_, t6 := ?_, t7 := ?_, h8 := ?_, h8n := ?_, h9 := ?_ }
  · intro h1
    obtain ⟨a, b, c⟩ := h.c0 h1
    exact ⟨a, b, (hcn c).trans c⟩
  · intro h1
    obtain ⟨a, b, c⟩ := h.c1 h1
    exact ⟨a, b, (hcn c).trans c⟩
  · intro h1
    exact (hcn (h.c11 h1)).trans (h.c11 h1)
  · intro h1
    rw [pub_A (hnp (h.c0 h1).2.2)]
    exact h.a0 h1
  · intro h1
    rw [pub_A (hnp (h.c11 h1))]
    exact h.a1 h1
  · intro h1 h2
    rw [hcn (h.c11 h1)]
    show (V.publish r p).at (upd V.pb r (V.N + 1) e.found) t = _
    by_cases q : e.found = r
    · rw [q, upd_same]
      show cnt ((V.publish r p).bs.take _) t = _
      rw [cnt_take_all _ (by rw [← pub_N (r := r) (p := p)]; exact Nat.le_refl _)]
      exact hcn (h.c11 h1)
    · rw [upd_other _ _ q, pub_at (hG.pbN _)]
      exact h.fd h1 h2
  · intro h1 h2
    rw [pub_N]
    exact Nat.lt_succ_of_lt (h.tn h1 h2)
  · intro h1 h2
    obtain ⟨a1, a2, a3, a4, a5, a6, a7, a8⟩ := h.s1 h1 h2
    refine ⟨a1, by rw [pub_N]; omega, ?_, fun q => (hst a2 q).elim, a5, a6, ?_, a8⟩
    · show _ ≤ upd V.pb r (V.N + 1) e.srec
      unfold upd
      split <;> omega
    · show upd V.pb r (V.N + 1) e.spare ≤ _
      rw [upd_other _ _ hr]
      exact a7
  · exact fun h1 => ⟨pub_drafts hp (hs (by omega) (by omega)) (h.d5 h1).1, fun q => (hst (hs (by omega) (by omega)) q).elim⟩
  · exact fun h1 h2 => ⟨pub_drafts hp (hs (by omega) h2) (h.d6 h1 h2).1, (h.d6 h1 h2).2⟩
  · exact fun h1 q => (hst (hs (by omega) (by omega)) q).elim
  · exact fun h1 => pub_scanned (hs (by omega) (by omega)) (h.t6 h1)
  · exact fun h1 h2 => pub_scanned (hs (by omega) (by omega)) (h.t7 h1 h2)
  · exact fun h1 h2 => ⟨(h.h8 h1 h2).1, pub_pends (hs (by omega) (by omega)) (h.h8 h1 h2).2⟩
  · exact fun h1 q => (hst (hs (by omega) (by omega)) q).elim
  · exact fun h1 q => (hst (hs (by omega) (by omega)) q).elim
end
def View.more (V : View σ) (u : Nat) (o : Op) : View σ := { V with ops := upd V.ops u (V.ops u ++ [o]) }
section
variable {V : View σ} {u : Nat} {o : Op}
theorem more_op {k i : Nat} (hi : i < (V.ops k).length) : (V.more u o).op k i = V.op k i := by
  show (upd V.ops u (V.ops u ++ [o]) k).getD i _ = _
  by_cases e : k = u
  · subst e
    rw [upd_same]
    simp [View.op, List.getD_eq_getElem?_getD, List.getElem?_append_left hi]
  · rw [upd_other _ _ e]
    rfl
theorem cnt_out (hG : Glob P n V) {k : Nat} (hk : ¬ k < n) : cnt V.bs k = 0 := by
  unfold cnt
  rw [List.count_eq_zero]
  intro hm
  obtain ⟨b, hb, hkb⟩ := List.mem_flatten.1 hm
  exact hk (hG.mem b hb k hkb)
theorem cnt_ops (hG : Glob P n V) {k i : Nat} (hi : i < cnt V.bs k) : i < (V.ops k).length := by
  by_cases hk : k < n
  · have := hG.opl k hk; have := (hG.fl k hk).1; omega
  · rw [cnt_out hG hk] at hi; omega
theorem more_rp (hG : Glob P n V) : (V.more u o).rp P = V.rp P := replay_congr P fun _ _ hi => more_op (cnt_ops hG hi)
theorem more_A (hG : Glob P n V) (k : Nat) : (V.more u o).A P k = V.A P k := by unfold View.A; rw [more_rp hG]
theorem more_run (hG : Glob P n V) {p : List Nat} (hp : Good n V p) {q : List Nat} (hq : ∀ k, q.count k ≤ p.count k) : (V.rp P).run P (V.more u o).op q = (V.rp P).run P V.op q := by
  refine run_congr P q _ fun k i hi => more_op ?_
  rw [show (V.rp P).c k = cnt V.bs k from replay_c P V.op V.bs k] at hi
  have h1 := hq k
  rw [hp.cn k] at h1
  by_cases hk : k ∈ p
  · rw [if_pos hk] at h1
    have := hp.fl k hk
    have := hG.opl k (hp.lt k hk)
    omega
  · rw [if_neg hk] at h1
    exact cnt_ops hG (by omega)
theorem Thr.more {t : Nat} {e : ETh σ} {x : RTh} (h : Thr P n cap V t e x) (hG : Glob P n V) (hu : t ≠ u) : Thr P n cap (V.more u o) t e x := by
  have ho : (V.more u o).ops t = V.ops t := upd_other _ _ hu
  have hop : ∀ i, (V.more u o).op t i = V.op t i := fun i => by show ((V.more u o).ops t).getD i _ = _; rw [ho]; rfl
  have hA : ∀ k, (V.more u o).A P k = V.A P k := more_A hG
  have hD : ∀ {s c : Nat} {dw : Nat → Int}, Drafts P n V s c dw → Drafts P n (V.more u o) s c dw := fun h k hk hq => by rw [hA]; exact h k hk hq
  refine { h with xo := ?_, eop := ?_, c0 := ?_, c1 := ?_, c3 := ?_, a0 := ?_, a1 := ?_, d5 := ?_, d6 := ?_, d7 := ?_, h8n := ?_, h9 := ?_ }
  · rw [ho]; exact h.xo
  · rw [ho, hop]; exact h.eop
  · rw [ho]; exact h.c0
  · rw [ho]; exact h.c1
  · rw [ho]; exact h.c3
  · rw [hA]; exact h.a0
  · rw [hA]; exact h.a1
  · exact fun h1 => ⟨hD (h.d5 h1).1, (h.d5 h1).2⟩
  · exact fun h1 h2 => ⟨hD (h.d6 h1 h2).1, (h.d6 h1 h2).2⟩
  · intro h1 h2
    rw [more_rp hG]
    exact h.d7 h1 h2
  · intro h1 h2
    rw [more_rp hG, more_run hG ((h.h8 (by omega) (by omega)).2.good h2 (h.t7 (by omega) (by omega)) hG) (fun k => (List.take_sublist _ _).count_le k)]
    exact h.h8n h1 h2
  · intro h1 h2
    rw [more_rp hG, more_run hG ((h.h8 (by omega) (by omega)).2.good h2 (h.t7 (by omega) (by omega)) hG) (fun k => Nat.le_refl _)]
    exact h.h9 h1 h2
end
end
end Go.Proofs.YtefjhnhdagolhaaGreat.M
namespace Go.Proofs.YtefjhnhdagolhaaGreat.M
section
variable {σ : Type} {P : Plain σ} {n cap : Nat} {V : View σ}
theorem Glob.ann (h : Glob P n V) {u : Nat} (hq : cnt V.bs u = V.flips u) (f : Nat → Int) : Glob P n { V with ann := upd V.ann u f } := by
  refine { h with pnd := ?_ }
  intro t ht hc i hi
  show upd V.ann u f t i = _
  rw [upd_other]
  · exact h.pnd t ht hc i hi
  · rintro rfl
    have hc' : cnt V.bs t < V.flips t := hc
    omega
theorem Glob.more (h : Glob P n V) {u : Nat} (o : Op) : Glob P n (V.more u o) := by
  have hA : ∀ k, (V.more u o).A P k = V.A P k := more_A h
  have hl : ∀ t, (V.ops t).length ≤ ((V.more u o).ops t).length := fun t => by
    show _ ≤ (upd V.ops u (V.ops u ++ [o]) t).length
    by_cases e : t = u
    · subst e; rw [upd_same]; simp
    · rw [upd_other _ _ e]; exact Nat.le_refl _
  refine { h with opl := ?_, pnd := ?_, curA := ?_, curS := ?_, recs := ?_ }
  · exact fun t ht => Nat.le_trans (h.opl t ht) (hl t)
  · intro t ht hc i hi
    show V.ann t i = ((V.more u o).op t (cnt V.bs t)).w i
    have hc' : cnt V.bs t < V.flips t := hc
    rw [more_op (by have := h.opl t ht; omega)]
    exact h.pnd t ht hc i hi
  · intro t ht; rw [hA]; exact h.curA t ht
  · rw [more_rp h]; exact h.curS
  · intro r t ht hq; rw [hA]; exact h.recs r t ht hq
theorem Glob.flip (h : Glob P n V) {u : Nat} (hu : u < n) (hq : cnt V.bs u = V.flips u) (hl : (V.ops u).length = V.flips u + 1) (ha : ∀ i, i < 3 → V.ann u i = (V.op u (V.flips u)).w i) :
    Glob P n (V.flip u (upd V.togs (u / 16) (V.togs (u / 16) + (if V.flips u % 2 = 1 then -(2 ^ (u % 16)) else 2 ^ (u % 16))))) := by
  generalize hg : upd V.togs (u / 16) (V.togs (u / 16) + (if V.flips u % 2 = 1 then -(2 ^ (u % 16)) else 2 ^ (u % 16))) = g
  have hf : ∀ t, t ≠ u → (V.flip u g).flips t = V.flips t := fun t ht => upd_other _ _ ht
  have hfu : (V.flip u g).flips u = V.flips u + 1 := upd_same _ _ _
  refine { h with fl := ?_, opl := ?_, pnd := ?_, togs := ?_, recs := ?_, nfN := ?_, help := ?_ }
  · intro t ht
    by_cases e : t = u
    · subst e; rw [hfu]; show cnt V.bs t ≤ _ ∧ _ ≤ cnt V.bs t + 1; omega
    · rw [hf t e]; exact h.fl t ht
  · intro t ht
    by_cases e : t = u
    · subst e; rw [hfu]; show _ ≤ (V.ops t).length; omega
    · rw [hf t e]; exact h.opl t ht
  · intro t ht hc i hi
    by_cases e : t = u
    · subst e
      show V.ann t i = (V.op t (cnt V.bs t)).w i
      rw [hq]
      exact ha i hi
    · rw [hf t e] at hc; exact h.pnd t ht hc i hi
  · intro w hw
    show g w = bits n (upd V.flips u (V.flips u + 1)) w
    rw [← hg]
    by_cases e : w = u / 16
    · subst e
      rw [upd_same, bits_flip n V.flips u hu, h.togs _ hw]
    · rw [upd_other _ _ e, bits_other _ _ _ _ _ e]
      exact h.togs w hw
  · exact fun r t ht hqt => h.recs r t ht (flip_quiet hq hqt)
  · intro t
    show upd V.nf u V.N t ≤ V.N
    unfold upd
    split
    · exact Nat.le_refl _
    · exact h.nfN t
  · intro t ht hn
    have hn' : upd V.nf u V.N t + 2 ≤ V.N := hn
    by_cases e : t = u
    · subst e; rw [upd_same] at hn'; omega
    · rw [upd_other _ _ e] at hn'
      rw [hf t e]
      exact h.help t ht hn'
theorem quiet_mono {s s' k : Nat} (hs : s ≤ s') (h : V.quiet s k) : V.quiet s' k := by
  obtain ⟨h1, h2⟩ := h
  refine ⟨h1, ?_⟩
  have a := cnt_take_mono V.bs hs k
  have b := cnt_take_le V.bs s' k
  show cnt (V.bs.take s') k = _
  have c : cnt (V.bs.take s) k = cnt V.bs k := h2
  omega
theorem Glob.word (h : Glob P n V) {r i s : Nat} {dw : Nat → Int} (hr : r ≠ V.prec) (hs : V.pb r ≤ s) (hd : Drafts P n V s (wds n) dw) : Glob P n { V with rw := upd V.rw r (upd (V.rw r) i (dw i)) } := by
  have hp : upd V.rw r (upd (V.rw r) i (dw i)) V.prec = V.rw V.prec := upd_other _ _ (Ne.symm hr)
  refine { h with curW := ?_, curA := ?_, recs := ?_ }
  · intro w hw
    show upd V.rw r (upd (V.rw r) i (dw i)) V.prec w = _
    rw [hp]
    exact h.curW w hw
  · intro t ht
    show upd V.rw r (upd (V.rw r) i (dw i)) V.prec _ = _ ∧ upd V.rw r (upd (V.rw r) i (dw i)) V.prec _ = _
    rw [hp]
    exact h.curA t ht
  · intro r' t ht hq
    show upd V.rw r (upd (V.rw r) i (dw i)) r' _ = _ ∧ upd V.rw r (upd (V.rw r) i (dw i)) r' _ = _
    by_cases e : r' = r
    · subst e
      rw [upd_same]
      have old := h.recs r' t ht hq
      obtain ⟨d1, d2⟩ := hd t ht (quiet_mono hs hq)
      have hl1 : statusAt n t < wds n := by unfold statusAt wds; omega
      have hl2 : valueAt n t < wds n := by unfold valueAt wds; omega
      constructor
      · unfold upd
        split
        · rename_i q; rw [← q]; exact d1 hl1
        · exact old.1
      · unfold upd
        split
        · rename_i q; rw [← q]; exact d2 hl2
        · exact old.2
    · rw [upd_other _ _ e]
      exact h.recs r' t ht hq
theorem Glob.state (h : Glob P n V) {r : Nat} (hr : r ≠ V.prec) (s : Option (Ver σ × Ver σ)) : Glob P n { V with rst := upd V.rst r s } := by
  refine { h with curS := ?_ }
  show ∃ f, upd V.rst r s V.prec = _
  rw [upd_other _ _ (Ne.symm hr)]
  exact h.curS
theorem Glob.publish (h : Glob P n V) {r s t : Nat} {p : List Nat} {tg : Nat → Int} {fd : Nat → Nat} {v f : Ver σ} {dw : Nat → Int} (hs : s = V.N) (hsc : Scanned n V t s (tw n) tg fd) (hpe : Pends n V s t p fd) (hrw : ∀ i, i < wds n → V.rw r i = dw i) (hrs : V.rst r = some (v, f))
    (hv : v = ⟨((V.rp P).run P V.op p).st, num (V.bs ++ [p])⟩) (ha : HasAns n ((V.rp P).run P V.op p) dw) (hw : ∀ w, w < tw n → dw w = bits n fd w) : Glob P n (V.publish r p) := by
  have hp := hpe.good hs hsc h
  have hA : ∀ k, (V.publish r p).A P k = ((V.rp P).run P V.op p).an k := fun k => by unfold View.A; rw [pub_rp]
  have hcur : ∀ k, k < n → V.rw r (statusAt n k) = ((V.publish r p).A P k).s ∧ V.rw r (valueAt n k) = ((V.publish r p).A P k).v := by
    intro k hk
    rw [hA, hrw _ (by unfold statusAt wds; omega), hrw _ (by unfold valueAt wds; omega)]
    exact ha k hk
  have hcn : ∀ k, cnt (V.publish r p).bs k = cnt V.bs k + if k ∈ p then 1 else 0 := pub_cnt hp
  refine { h with fl := ?_, pnd := ?_, mem := ?_, curW := ?_, curA := hcur, curS := ?_, recs := ?_, pbN := ?_, pbc := ?_, nfN := ?_, help := ?_ }
  · intro k hk
    show _ ≤ V.flips k ∧ V.flips k ≤ _
    rw [hcn]
    have := h.fl k hk
    split
    · rename_i hm; have := hp.fl k hm; omega
    · omega
  · intro k hk hc i hi
    have hc' : cnt (V.publish r p).bs k < V.flips k := hc
    have hkp : k ∉ p := fun hm => by rw [hcn, if_pos hm] at hc'; have := hp.fl k hm; omega
    show V.ann k i = (V.op k (cnt (V.publish r p).bs k)).w i
    rw [hcn, if_neg hkp] at hc' ⊢
    exact h.pnd k hk hc' i hi
  · intro b hb k hk
    have hb' : b ∈ V.bs ++ [p] := hb
    rcases List.mem_append.1 hb' with hb' | hb'
    · exact h.mem b hb' k hk
    · rw [List.mem_singleton.1 hb'] at hk; exact hp.lt k hk
  · intro w hw'
    show V.rw r w = bits n (cnt (V.publish r p).bs) w
    rw [hrw w (by unfold wds; omega), hw w hw']
    apply bits_congr
    intro k _ hk
    rw [hcn]
    obtain ⟨b1, b2, -⟩ := hsc.2 k hk (lt_tw hk)
    have b3 := hpe.2.2 k hk
    rw [at_now V hs] at b1 b3
    split
    · rename_i hm
      have := (hpe.mem.1 hm).2
      rw [at_now V hs] at this
      rw [this]
    · rename_i hm
      have : fd k ≠ cnt V.bs k + 1 := fun q => hm (hpe.mem.2 ⟨hk, by rw [at_now V hs]; exact q⟩)
      rw [show fd k = cnt V.bs k by omega]
      rfl
  · refine ⟨f, ?_⟩
    show V.rst r = _
    rw [hrs, hv, pub_rp]
    rfl
  · intro r' k hk hq
    by_cases e : r' = r
    · subst e; exact hcur k hk
    · have hq' : (V.publish r p).quiet (upd V.pb r (V.N + 1) r') k := hq
      rw [upd_other _ _ e] at hq'
      obtain ⟨q1, q2⟩ := pub_quiet hp (h.pbN r') hq'
      rw [pub_A q2]
      exact h.recs r' k hk q1
  · intro r'
    rw [pub_N]
    show upd V.pb r (V.N + 1) r' ≤ _
    unfold upd
    split
    · exact Nat.le_refl _
    · exact Nat.le_succ_of_le (h.pbN r')
  · rw [pub_N]
    exact upd_same _ _ _
  · intro k
    rw [pub_N]
    exact Nat.le_succ_of_le (h.nfN k)
  · intro k hk hn
    rw [pub_N] at hn
    have hn' : V.nf k + 2 ≤ V.N + 1 := hn
    show V.flips k = _
    rw [hcn]
    have b1 := (hsc.2 k hk (lt_tw hk)).2.2 (.inr (by omega))
    have b2 := h.fl k hk
    split
    · rename_i hm; exact hp.fl k hm
    · rename_i hm
      have : fd k ≠ cnt V.bs k + 1 := fun q => hm (hpe.mem.2 ⟨hk, by rw [at_now V hs]; exact q⟩)
      omega
end
end Go.Proofs.YtefjhnhdagolhaaGreat.M
