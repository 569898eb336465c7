import Derived.Test.YtefjhnhdagolhaaGreatQ01
namespace Go.Proofs.YtefjhnhdagolhaaGreat.M
section
variable {σ : Type} {P : Plain σ} {n cap : Nat} {V : View σ}
theorem Glob.ann (h : Glob P n V) {u : Nat} (hq : cnt V.bs u = V.flips u) (f : Nat → Int) : Glob P n { V with ann := upd V.ann u f } := by
  refine { h with pnd := ?_ }
  intro t ht hc i hi
  show upd V.ann u f t i = _
  rw [upd_other]
  · exact h.pnd t ht hc i hi
  · rintro rfl
    have hc' : cnt V.bs t < V.flips t := hc
    omega
theorem Glob.more (h : Glob P n V) {u : Nat} (o : Op) : Glob P n (V.more u o) := by
  have hA : ∀ k, (V.more u o).A P k = V.A P k := more_A h
  have hl : ∀ t, (V.ops t).length ≤ ((V.more u o).ops t).length := fun t => by
    show _ ≤ (upd V.ops u (V.ops u ++ [o]) t).length
    by_cases e : t = u
    · subst e; rw [upd_same]; simp
    · rw [upd_other _ _ e]; exact Nat.le_refl _
  refine { h with opl := ?_, pnd := ?_, curA := ?_, curS := ?_, recs := ?_ }
  · exact fun t ht => Nat.le_trans (h.opl t ht) (hl t)
  · intro t ht hc i hi
    show V.ann t i = ((V.more u o).op t (cnt V.bs t)).w i
    have hc' : cnt V.bs t < V.flips t := hc
    rw [more_op (by have := h.opl t ht; omega)]
    exact h.pnd t ht hc i hi
  · intro t ht; rw [hA]; exact h.curA t ht
  · rw [more_rp h]; exact h.curS
  · intro r t ht hq; rw [hA]; exact h.recs r t ht hq
theorem Glob.flip (h : Glob P n V) {u : Nat} (hu : u < n) (hq : cnt V.bs u = V.flips u) (hl : (V.ops u).length = V.flips u + 1) (ha : ∀ i, i < 3 → V.ann u i = (V.op u (V.flips u)).w i) :
    Glob P n (V.flip u (upd V.togs (u / 16) (V.togs (u / 16) + (if V.flips u % 2 = 1 then -(2 ^ (u % 16)) else 2 ^ (u % 16))))) := by
  generalize hg : upd V.togs (u / 16) (V.togs (u / 16) + (if V.flips u % 2 = 1 then -(2 ^ (u % 16)) else 2 ^ (u % 16))) = g
  have hf : ∀ t, t ≠ u → (V.flip u g).flips t = V.flips t := fun t ht => upd_other _ _ ht
  have hfu : (V.flip u g).flips u = V.flips u + 1 := upd_same _ _ _
  refine { h with fl := ?_, opl := ?_, pnd := ?_, togs := ?_, recs := ?_, nfN := ?_, help := ?_ }
  · intro t ht
    by_cases e : t = u
    · subst e; rw [hfu]; show cnt V.bs t ≤ _ ∧ _ ≤ cnt V.bs t + 1; omega
    · rw [hf t e]; exact h.fl t ht
  · intro t ht
    by_cases e : t = u
    · subst e; rw [hfu]; show _ ≤ (V.ops t).length; omega
    · rw [hf t e]; exact h.opl t ht
  · intro t ht hc i hi
    by_cases e : t = u
    · subst e
      show V.ann t i = (V.op t (cnt V.bs t)).w i
      rw [hq]
      exact ha i hi
    · rw [hf t e] at hc; exact h.pnd t ht hc i hi
  · intro w hw
    show g w = bits n (upd V.flips u (V.flips u + 1)) w
    rw [← hg]
    by_cases e : w = u / 16
    · subst e
      rw [upd_same, bits_flip n V.flips u hu, h.togs _ hw]
    · rw [upd_other _ _ e, bits_other _ _ _ _ _ e]
      exact h.togs w hw
  · exact fun r t ht hqt => h.recs r t ht (flip_quiet hq hqt)
  · intro t
    show upd V.nf u V.N t ≤ V.N
    unfold upd
    split
    · exact Nat.le_refl _
    · exact h.nfN t
  · intro t ht hn
    have hn' : upd V.nf u V.N t + 2 ≤ V.N := hn
    by_cases e : t = u
    · subst e; rw [upd_same] at hn'; omega
    · rw [upd_other _ _ e] at hn'
      rw [hf t e]
      exact h.help t ht hn'
theorem quiet_mono {s s' k : Nat} (hs : s ≤ s') (h : V.quiet s k) : V.quiet s' k := by
  obtain ⟨h1, h2⟩ := h
  refine ⟨h1, ?_⟩
  have a := cnt_take_mono V.bs hs k
  have b := cnt_take_le V.bs s' k
  show cnt (V.bs.take s') k = _
  have c : cnt (V.bs.take s) k = cnt V.bs k := h2
  omega
theorem Glob.word (h : Glob P n V) {r i s : Nat} {dw : Nat → Int} (hr : r ≠ V.prec) (hs : V.pb r ≤ s) (hd : Drafts P n V s (wds n) dw) : Glob P n { V with rw := upd V.rw r (upd (V.rw r) i (dw i)) } := by
  have hp : upd V.rw r (upd (V.rw r) i (dw i)) V.prec = V.rw V.prec := upd_other _ _ (Ne.symm hr)
  refine { h with curW := ?_, curA := ?_, recs := ?_ }
  · intro w hw
    show upd V.rw r (upd (V.rw r) i (dw i)) V.prec w = _
    rw [hp]
    exact h.curW w hw
  · intro t ht
    show upd V.rw r (upd (V.rw r) i (dw i)) V.prec _ = _ ∧ upd V.rw r (upd (V.rw r) i (dw i)) V.prec _ = _
    rw [hp]
    exact h.curA t ht
  · intro r' t ht hq
    show upd V.rw r (upd (V.rw r) i (dw i)) r' _ = _ ∧ upd V.rw r (upd (V.rw r) i (dw i)) r' _ = _
    by_cases e : r' = r
    · subst e
      rw [upd_same]
      have old := h.recs r' t ht hq
      obtain ⟨d1, d2⟩ := hd t ht (quiet_mono hs hq)
      have hl1 : statusAt n t < wds n := by unfold statusAt wds; omega
      have hl2 : valueAt n t < wds n := by unfold valueAt wds; omega
      constructor
      · unfold upd
        split
        · rename_i q; rw [← q]; exact d1 hl1
        · exact old.1
      · unfold upd
        split
        · rename_i q; rw [← q]; exact d2 hl2
        · exact old.2
    · rw [upd_other _ _ e]
      exact h.recs r' t ht hq
theorem Glob.state (h : Glob P n V) {r : Nat} (hr : r ≠ V.prec) (s : Option (Ver σ × Ver σ)) : Glob P n { V with rst := upd V.rst r s } := by
  refine { h with curS := ?_ }
  show ∃ f, upd V.rst r s V.prec = _
  rw [upd_other _ _ (Ne.symm hr)]
  exact h.curS
theorem Glob.publish (h : Glob P n V) {r s t : Nat} {p : List Nat} {tg : Nat → Int} {fd : Nat → Nat} {v f : Ver σ} {dw : Nat → Int} (hs : s = V.N) (hsc : Scanned n V t s (tw n) tg fd) (hpe : Pends n V s t p fd) (hrw : ∀ i, i < wds n → V.rw r i = dw i) (hrs : V.rst r = some (v, f))
    (hv : v = ⟨((V.rp P).run P V.op p).st, num (V.bs ++ [p])⟩) (ha : HasAns n ((V.rp P).run P V.op p) dw) (hw : ∀ w, w < tw n → dw w = bits n fd w) : Glob P n (V.publish r p) := by
  have hp := hpe.good hs hsc h
  have hA : ∀ k, (V.publish r p).A P k = ((V.rp P).run P V.op p).an k := fun k => by unfold View.A; rw [pub_rp]
  have hcur : ∀ k, k < n → V.rw r (statusAt n k) = ((V.publish r p).A P k).s ∧ V.rw r (valueAt n k) = ((V.publish r p).A P k).v := by
    intro k hk
    rw [hA, hrw _ (by unfold statusAt wds; omega), hrw _ (by unfold valueAt wds; omega)]
    exact ha k hk
  have hcn : ∀ k, cnt (V.publish r p).bs k = cnt V.bs k + if k ∈ p then 1 else 0 := pub_cnt hp
  refine { h with fl := ?_, pnd := ?_, mem := ?_, curW := ?_, curA := hcur, curS := ?_, recs := ?_, pbN := ?_, pbc := ?_, nfN := ?_, help := ?_ }
  · intro k hk
    show _ ≤ V.flips k ∧ V.flips k ≤ _
    rw [hcn]
    have := h.fl k hk
    split
    · rename_i hm; have := hp.fl k hm; omega
    · omega
  · intro k hk hc i hi
    have hc' : cnt (V.publish r p).bs k < V.flips k := hc
    have hkp : k ∉ p := fun hm => by rw [hcn, if_pos hm] at hc'; have := hp.fl k hm; omega
    show V.ann k i = (V.op k (cnt (V.publish r p).bs k)).w i
    rw [hcn, if_neg hkp] at hc' ⊢
    exact h.pnd k hk hc' i hi
  · intro b hb k hk
    have hb' : b ∈ V.bs ++ [p] := hb
    rcases List.mem_append.1 hb' with hb' | hb'
    · exact h.mem b hb' k hk
    · rw [List.mem_singleton.1 hb'] at hk; exact hp.lt k hk
  · intro w hw'
    show V.rw r w = bits n (cnt (V.publish r p).bs) w
    rw [hrw w (by unfold wds; omega), hw w hw']
    apply bits_congr
    intro k _ hk
    rw [hcn]
    obtain ⟨b1, b2, -⟩ := hsc.2 k hk (lt_tw hk)
    have b3 := hpe.2.2 k hk
    rw [at_now V hs] at b1 b3
    split
    · rename_i hm
      have := (hpe.mem.1 hm).2
      rw [at_now V hs] at this
      rw [this]
    · rename_i hm
      have : fd k ≠ cnt V.bs k + 1 := fun q => hm (hpe.mem.2 ⟨hk, by rw [at_now V hs]; exact q⟩)
      rw [show fd k = cnt V.bs k by omega]
      rfl
  · refine ⟨f, ?_⟩
    show V.rst r = _
    rw [hrs, hv, pub_rp]
    rfl
  · intro r' k hk hq
    by_cases e : r' = r
    · subst e; exact hcur k hk
    · have hq' : (V.publish r p).quiet (upd V.pb r (V.N + 1) r') k := hq
      rw [upd_other _ _ e] at hq'
      obtain ⟨q1, q2⟩ := pub_quiet hp (h.pbN r') hq'
      rw [pub_A q2]
      exact h.recs r' k hk q1
  · intro r'
    rw [pub_N]
    show upd V.pb r (V.N + 1) r' ≤ _
    unfold upd
    split
    · exact Nat.le_refl _
    · exact Nat.le_succ_of_le (h.pbN r')
  · rw [pub_N]
    exact upd_same _ _ _
  · intro k
    rw [pub_N]
    exact Nat.le_succ_of_le (h.nfN k)
  · intro k hk hn
    rw [pub_N] at hn
    have hn' : V.nf k + 2 ≤ V.N + 1 := hn
    show V.flips k = _
    rw [hcn]
    have b1 := (hsc.2 k hk (lt_tw hk)).2.2 (.inr (by omega))
    have b2 := h.fl k hk
    split
    · rename_i hm; exact hp.fl k hm
    · rename_i hm
      have : fd k ≠ cnt V.bs k + 1 := fun q => hm (hpe.mem.2 ⟨hk, by rw [at_now V hs]; exact q⟩)
      omega
end
end Go.Proofs.YtefjhnhdagolhaaGreat.M
namespace Go.Proofs.YtefjhnhdagolhaaGreat.M
section
variable {σ : Type} {P : Plain σ} {n cap : Nat} {V : View σ} {t : Nat} {e : ETh σ} {x : RTh}
structure Base3 (P : Plain σ) (n cap : Nat) (V : View σ) (t : Nat) (e : ETh σ) (x : RTh) : Prop where
  xo : x.ops = V.ops t
  xf : x.flips = V.flips t
  bk : e.backoff = x.backoff
  bc : x.backoff ≤ cap
  ag : e.again = decide (x.tries = 2)
  tog : e.toggle = decide (V.flips t % 2 = 1)
  eop : (V.ops t).length ≠ 0 ∧ e.op = V.op t ((V.ops t).length - 1)
  c3 : (V.ops t).length = V.flips t ∧ x.ended + 1 = V.flips t
  an2 : ∀ i, i < 3 → V.ann t i = e.op.w i
  sp : (e.spare = 2 * t + 1 ∧ e.kept = 2 * t + 2) ∨ (e.spare = 2 * t + 2 ∧ e.kept = 2 * t + 1)
  spc : e.spare ≠ V.prec
  en : e.ended = decide (0 < x.ended)
  tr : x.tries = 1 ∨ x.tries = 2
  tn : x.tries = 2 → V.nf t < V.N
theorem Thr.base (h : Thr P n cap V t e x) (h3 : 3 ≤ x.part) : Base3 P n cap V t e x :=
  ⟨h.xo, h.xf, h.bk, h.bc, h.ag (by omega), h.tog, h.eop (by omega), h.c3 h3, h.an2 (by omega), h.sp, h.spc, h.en, h.tr h3, h.tn h3⟩
structure Att (P : Plain σ) (n : Nat) (V : View σ) (t : Nat) (e : ETh σ) (x : RTh) : Prop where
  st : x.stamp = e.stamp
  le : e.stamp ≤ V.N
  pb : e.stamp ≤ V.pb e.srec
  cur : e.stamp = V.N → e.srec = V.prec
  nf : V.nf t ≤ e.stamp
  nf2 : x.tries = 2 → V.nf t < e.stamp
  spb : V.pb e.spare ≤ e.stamp
  some : (V.rst e.srec).isSome
theorem Thr.att (h : Thr P n cap V t e x) (h5 : 5 ≤ x.part) (h10 : x.part ≤ 10) : Att P n V t e x := by
  obtain ⟨a1, a2, a3, a4, a5, a6, a7, a8⟩ := h.s1 h5 h10
  exact ⟨a1, a2, a3, a4, a5, a6, a7, a8⟩
theorem Att.all (h : Att P n V t e x) : x.stamp = e.stamp ∧ e.stamp ≤ V.N ∧ e.stamp ≤ V.pb e.srec ∧ (e.stamp = V.N → e.srec = V.prec) ∧ V.nf t ≤ e.stamp ∧ (x.tries = 2 → V.nf t < e.stamp) ∧ V.pb e.spare ≤ e.stamp ∧ (V.rst e.srec).isSome :=
  ⟨h.st, h.le, h.pb, h.cur, h.nf, h.nf2, h.spb, h.some⟩
theorem Thr.mk34 (b : Base3 P n cap V t e x) (h : x.part = 3 ∨ x.part = 4) (hp : e.phase = x.part) (hl : e.past + x.left = x.len n x.part ∧ 0 < x.left) : Thr P n cap V t e x :=
  { xo := b.xo, xf := b.xf, bk := b.bk, bc := b.bc, ag := fun _ => b.ag, tog := b.tog, eop := fun _ => b.eop, c3 := fun _ => b.c3, an2 := fun _ => b.an2, sp := b.sp, spc := b.spc, en := b.en, tr := fun _ => b.tr, tn := fun _ => b.tn,
    p1 := (by intros; (try dsimp only at *); omega), p2 := fun _ => hp, p3 := fun _ _ => hl, p4 := (by intros; (try dsimp only at *); omega), c0 := (by intros; (try dsimp only at *); omega), t0 := (by intros; (try dsimp only at *); omega), c1 := (by intros; (try dsimp only at *); omega), c11 := (by intros; (try dsimp only at *); omega), an1 := (by intros; (try dsimp only at *); omega), a0 := (by intros; (try dsimp only at *); omega), a1 := (by intros; (try dsimp only at *); omega), fd := (by intros; (try dsimp only at *); omega), s1 := (by intros; (try dsimp only at *); omega), d5 := (by intros; (try dsimp only at *); omega), d6 := (by intros; (try dsimp only at *); omega), d7 := (by intros; (try dsimp only at *); omega), t6 := (by intros; (try dsimp only at *); omega), t7 := (by intros; (try dsimp only at *); omega), h8 := (by intros; (try dsimp only at *); omega), h8n := (by intros; (try dsimp only at *); omega), h9 := (by intros; (try dsimp only at *); omega), w9 := (by intros; (try dsimp only at *); omega), w10 := (by intros; (try dsimp only at *); omega) }
theorem Thr.mk11 (b : Base3 P n cap V t e x) (h : x.part = 11) (hp : 1 ≤ x.left ∧ x.left ≤ 3 ∧ e.phase = 14 - x.left) (hc : cnt V.bs t = V.flips t) (ha : x.left = 1 → e.sta = (V.A P t).s) (hf : x.left ≤ 2 → V.at (V.pb e.found) t = cnt V.bs t) : Thr P n cap V t e x :=
  { xo := b.xo, xf := b.xf, bk := b.bk, bc := b.bc, ag := fun _ => b.ag, tog := b.tog, eop := fun _ => b.eop, c3 := fun _ => b.c3, an2 := fun _ => b.an2, sp := b.sp, spc := b.spc, en := b.en, tr := fun _ => b.tr, tn := fun _ => b.tn,
    p1 := (by intros; (try dsimp only at *); omega), p2 := (by intros; (try dsimp only at *); omega), p3 := (by intros; (try dsimp only at *); omega), p4 := fun _ => hp, c0 := (by intros; (try dsimp only at *); omega), t0 := (by intros; (try dsimp only at *); omega), c1 := (by intros; (try dsimp only at *); omega), c11 := fun _ => hc, an1 := (by intros; (try dsimp only at *); omega), a0 := (by intros; (try dsimp only at *); omega), a1 := fun _ => ha, fd := fun _ => hf, s1 := (by intros; (try dsimp only at *); omega), d5 := (by intros; (try dsimp only at *); omega), d6 := (by intros; (try dsimp only at *); omega), d7 := (by intros; (try dsimp only at *); omega), t6 := (by intros; (try dsimp only at *); omega), t7 := (by intros; (try dsimp only at *); omega), h8 := (by intros; (try dsimp only at *); omega), h8n := (by intros; (try dsimp only at *); omega), h9 := (by intros; (try dsimp only at *); omega), w9 := (by intros; (try dsimp only at *); omega), w10 := (by intros; (try dsimp only at *); omega) }
theorem Thr.mk5 (b : Base3 P n cap V t e x) (a : Att P n V t e x) (h : x.part = 5) (hp : e.phase = 5) (hl : e.past + x.left = wds n + 1 ∧ 0 < x.left) (hd : Drafts P n V e.stamp e.past e.dw ∧ (e.stamp = V.N → ∀ i, i < e.past → i < wds n → e.dw i = V.rw V.prec i)) : Thr P n cap V t e x :=
  { xo := b.xo, xf := b.xf, bk := b.bk, bc := b.bc, ag := fun _ => b.ag, tog := b.tog, eop := fun _ => b.eop, c3 := fun _ => b.c3, an2 := fun _ => b.an2, sp := b.sp, spc := b.spc, en := b.en, tr := fun _ => b.tr, tn := fun _ => b.tn,
    p1 := (by intros; (try dsimp only at *); omega), p2 := fun _ => by omega, p3 := fun _ _ => by rw [h]; exact hl, p4 := (by intros; (try dsimp only at *); omega), c0 := (by intros; (try dsimp only at *); omega), t0 := (by intros; (try dsimp only at *); omega), c1 := (by intros; (try dsimp only at *); omega), c11 := (by intros; (try dsimp only at *); omega), an1 := (by intros; (try dsimp only at *); omega), a0 := (by intros; (try dsimp only at *); omega), a1 := (by intros; (try dsimp only at *); omega), fd := (by intros; (try dsimp only at *); omega), s1 := fun _ _ => a.all, d5 := fun _ => hd, d6 := (by intros; (try dsimp only at *); omega), d7 := (by intros; (try dsimp only at *); omega), t6 := (by intros; (try dsimp only at *); omega), t7 := (by intros; (try dsimp only at *); omega), h8 := (by intros; (try dsimp only at *); omega), h8n := (by intros; (try dsimp only at *); omega), h9 := (by intros; (try dsimp only at *); omega), w9 := (by intros; (try dsimp only at *); omega), w10 := (by intros; (try dsimp only at *); omega) }
structure Cop (P : Plain σ) (n : Nat) (V : View σ) (e : ETh σ) : Prop where
  d : Drafts P n V e.stamp (wds n) e.dw
  now : e.now.isSome
  frm : e.frm.isSome
theorem Thr.mk67 (b : Base3 P n cap V t e x) (a : Att P n V t e x) (c : Cop P n V e) (h : (x.part = 6 ∧ Scanned n V t e.stamp e.past e.tg x.flipped) ∨ (x.part = 7 ∧ Scanned n V t e.stamp (tw n) e.tg x.flipped)) (hp : e.phase = x.part) (hl : e.past + x.left = x.len n x.part ∧ 0 < x.left)
    (hd : e.stamp = V.N → (∀ i, i < wds n → e.dw i = V.rw V.prec i) ∧ e.now = some ⟨(V.rp P).st, num V.bs⟩ ∧ e.frm = some ⟨(V.rp P).st, num V.bs⟩) : Thr P n cap V t e x :=
  { xo := b.xo, xf := b.xf, bk := b.bk, bc := b.bc, ag := fun _ => b.ag, tog := b.tog, eop := fun _ => b.eop, c3 := fun _ => b.c3, an2 := fun _ => b.an2, sp := b.sp, spc := b.spc, en := b.en, tr := fun _ => b.tr, tn := fun _ => b.tn,
    p1 := (by intros; (try dsimp only at *); omega), p2 := fun _ => hp, p3 := fun _ _ => hl, p4 := (by intros; (try dsimp only at *); omega), c0 := (by intros; (try dsimp only at *); omega), t0 := (by intros; (try dsimp only at *); omega), c1 := (by intros; (try dsimp only at *); omega), c11 := (by intros; (try dsimp only at *); omega), an1 := (by intros; (try dsimp only at *); omega), a0 := (by intros; (try dsimp only at *); omega), a1 := (by intros; (try dsimp only at *); omega), fd := (by intros; (try dsimp only at *); omega), s1 := fun _ _ => a.all, d5 := (by intros; (try dsimp only at *); omega), d6 := fun _ _ => ⟨c.d, c.now, c.frm⟩, d7 := fun _ => hd,
    t6 := fun q => (by rcases h with h | h; exact h.2; omega), t7 := fun q _ => (by rcases h with h | h; omega; exact h.2), h8 := (by intros; (try dsimp only at *); omega), h8n := (by intros; (try dsimp only at *); omega), h9 := (by intros; (try dsimp only at *); omega), w9 := (by intros; (try dsimp only at *); omega), w10 := (by intros; (try dsimp only at *); omega) }
theorem Thr.mk8 (b : Base3 P n cap V t e x) (a : Att P n V t e x) (c : Cop P n V e) (s : Scanned n V t e.stamp (tw n) e.tg x.flipped) (q : e.pend = x.pend ∧ Pends n V e.stamp t e.pend x.flipped) (h : 8 ≤ x.part ∧ x.part ≤ 10) (hp : e.phase = x.part) (hl : e.past + x.left = x.len n x.part ∧ 0 < x.left)
    (h8n : x.part = 8 → e.stamp = V.N → e.frm = some ⟨(V.rp P).st, num V.bs⟩ ∧ e.now = some ⟨((V.rp P).run P V.op (e.pend.take (e.past / 3))).st, num V.bs⟩ ∧ HasAns n ((V.rp P).run P V.op (e.pend.take (e.past / 3))) e.dw ∧ ∀ q, q < e.past % 3 → e.heard q = V.ann (e.pend.getD (e.past / 3) 0) q)
    (h9 : x.part = 9 ∨ x.part = 10 → e.stamp = V.N → e.now = some ⟨((V.rp P).run P V.op e.pend).st, num (V.bs ++ [e.pend])⟩ ∧ HasAns n ((V.rp P).run P V.op e.pend) e.dw ∧ ∀ w, w < tw n → e.dw w = bits n x.flipped w)
    (w9 : x.part = 9 → ∀ i, i < e.past → i < wds n → V.rw e.spare i = e.dw i) (w10 : x.part = 10 → (∀ i, i < wds n → V.rw e.spare i = e.dw i) ∧ V.rst e.spare = e.now.bind fun v => e.frm.map fun f => (v, f)) : Thr P n cap V t e x :=
  { xo := b.xo, xf := b.xf, bk := b.bk, bc := b.bc, ag := fun _ => b.ag, tog := b.tog, eop := fun _ => b.eop, c3 := fun _ => b.c3, an2 := fun _ => b.an2, sp := b.sp, spc := b.spc, en := b.en, tr := fun _ => b.tr, tn := fun _ => b.tn,
    p1 := (by intros; (try dsimp only at *); omega), p2 := fun _ => hp, p3 := fun _ _ => hl, p4 := (by intros; (try dsimp only at *); omega), c0 := (by intros; (try dsimp only at *); omega), t0 := (by intros; (try dsimp only at *); omega), c1 := (by intros; (try dsimp only at *); omega), c11 := (by intros; (try dsimp only at *); omega), an1 := (by intros; (try dsimp only at *); omega), a0 := (by intros; (try dsimp only at *); omega), a1 := (by intros; (try dsimp only at *); omega), fd := (by intros; (try dsimp only at *); omega), s1 := fun _ _ => a.all, d5 := (by intros; (try dsimp only at *); omega), d6 := fun _ _ => ⟨c.d, c.now, c.frm⟩, d7 := (by intros; (try dsimp only at *); omega), t6 := (by intros; (try dsimp only at *); omega), t7 := fun _ _ => s, h8 := fun _ _ => q, h8n := h8n, h9 := h9, w9 := w9, w10 := w10 }
theorem Base3.with {e' : ETh σ} {x' : RTh} (b : Base3 P n cap V t e x) (h1 : x'.ops = x.ops) (h2 : x'.flips = x.flips) (h3 : e'.backoff = x'.backoff) (h4 : x'.backoff ≤ cap) (h5 : e'.again = decide (x'.tries = 2)) (h6 : e'.toggle = e.toggle) (h7 : e'.op = e.op) (h8 : x'.ended = x.ended) (h9 : e'.spare = e.spare) (h10 : e'.kept = e.kept) (h11 : e'.ended = e.ended)
    (h12 : x'.tries = 1 ∨ x'.tries = 2) (h13 : x'.tries = 2 → V.nf t < V.N) : Base3 P n cap V t e' x' :=
  ⟨h1.trans b.xo, h2.trans b.xf, h3, h4, h5, h6.trans b.tog, ⟨b.eop.1, h7.trans b.eop.2⟩, by rw [h8]; exact b.c3, by rw [h7]; exact b.an2, by rw [h9, h10]; exact b.sp, by rw [h9]; exact b.spc, by rw [h8, h11]; exact b.en, h12, h13⟩
theorem Thr.approach {e1 : ETh σ} {x1 : RTh} (b : Base3 P n cap V t e1 x1) : Thr P n cap V t e1.approach (x1.enter n 3) := by
  by_cases h : x1.backoff = 0
  · have e2 : x1.enter n 3 = { x1 with part := 4, left := 1 } := by simp [RTh.enter, RTh.len, h]
    have e3 : e1.approach = e1.enter 4 := by unfold ETh.approach; rw [if_neg (by rw [b.bk]; omega)]
    rw [e2, e3]
    refine Thr.mk34 ⟨b.xo, b.xf, b.bk, b.bc, b.ag, b.tog, b.eop, b.c3, b.an2, b.sp, b.spc, b.en, b.tr, b.tn⟩ (.inr rfl) rfl ⟨rfl, (by intros; (try dsimp only at *); omega)⟩
  · have e2 : x1.enter n 3 = { x1 with part := 3, left := x1.backoff } := by simp [RTh.enter, RTh.len, h]
    have e3 : e1.approach = e1.enter 3 := by unfold ETh.approach; rw [if_pos (by rw [b.bk]; omega)]
    rw [e2, e3]
    refine Thr.mk34 ⟨b.xo, b.xf, b.bk, b.bc, b.ag, b.tog, b.eop, b.c3, b.an2, b.sp, b.spc, b.en, b.tr, b.tn⟩ (.inl rfl) rfl ⟨?_, by show 0 < x1.backoff; omega⟩
    show 0 + x1.backoff = _
    simp [RTh.len]
theorem Thr.failed (b : Base3 P n cap V t e x) (a : Att P n V t e x) (hG : Glob P n V) (ht : t < n) (hs : e.stamp ≠ V.N) : Thr P n cap V t (e.fail cap) (x.fail n cap) := by
  have hN : V.nf t < V.N := by have := a.le; have := a.nf; omega
  unfold ETh.fail RTh.fail
  rw [b.ag]
  by_cases h : x.tries = 2
  · rw [if_pos h, if_pos (by simpa using h)]
    have e2 : RTh.enter n { x with backoff := min (2 * x.backoff + 1) cap } 11 = { x with backoff := min (2 * x.backoff + 1) cap, part := 11, left := 3 } := by simp [RTh.enter, RTh.len]
    rw [e2]
    have hc : V.flips t = cnt V.bs t := hG.help t ht (by have := a.nf2 h; have := a.le; omega)
    refine Thr.mk11 (b.with rfl rfl (by show min _ _ = min _ _; rw [b.bk]) (Nat.min_le_right _ _) rfl rfl rfl rfl rfl rfl rfl b.tr b.tn) rfl ⟨(by intros; (try dsimp only at *); omega), (by intros; (try dsimp only at *); omega), rfl⟩ hc.symm (by intros; (try dsimp only at *); omega) (by intros; (try dsimp only at *); omega)
  · rw [if_neg h, if_neg (by simpa using h)]
    exact Thr.approach (b.with rfl rfl (by show min _ _ = min _ _; rw [b.bk]) (Nat.min_le_right _ _) rfl rfl rfl rfl rfl rfl rfl (.inr rfl) (fun _ => hN))
end
end Go.Proofs.YtefjhnhdagolhaaGreat.M
namespace Go.Proofs.YtefjhnhdagolhaaGreat.M
section
variable {σ : Type} {P : Plain σ} {n cap : Nat} {V : View σ} {t : Nat} {e : ETh σ} {x : RTh}
theorem Base3.same {e' : ETh σ} {x' : RTh} (b : Base3 P n cap V t e x) (h1 : x'.ops = x.ops) (h2 : x'.flips = x.flips) (h3 : e'.backoff = e.backoff) (h4 : x'.backoff = x.backoff) (h5 : e'.again = e.again) (h5' : x'.tries = x.tries) (h6 : e'.toggle = e.toggle) (h7 : e'.op = e.op) (h8 : x'.ended = x.ended) (h9 : e'.spare = e.spare) (h10 : e'.kept = e.kept) (h11 : e'.ended = e.ended) : Base3 P n cap V t e' x' :=
  b.with h1 h2 (by rw [h3, h4]; exact b.bk) (by rw [h4]; exact b.bc) (by rw [h5, h5']; exact b.ag) h6 h7 h8 h9 h10 h11 (by rw [h5']; exact b.tr) (by rw [h5']; exact b.tn)
theorem Att.same {e' : ETh σ} {x' : RTh} (a : Att P n V t e x) (h1 : x'.stamp = x.stamp) (h2 : e'.stamp = e.stamp) (h3 : e'.srec = e.srec) (h4 : x'.tries = x.tries) (h5 : e'.spare = e.spare) : Att P n V t e' x' :=
  ⟨by rw [h1, h2]; exact a.st, by rw [h2]; exact a.le, by rw [h2, h3]; exact a.pb, by rw [h2, h3]; exact a.cur, by rw [h2]; exact a.nf, by rw [h2, h4]; exact a.nf2, by rw [h2, h5]; exact a.spb, by rw [h3]; exact a.some⟩
theorem tw_pos (hn : 0 < n) : 0 < tw n := by unfold tw; omega
theorem own3 (h : Thr P n cap V t e x) (hp : x.part = 3) : (1 < x.left → Thr P n cap V t (e.pass e.backoff 4) { x with left := x.left - 1 }) ∧ (x.left = 1 → Thr P n cap V t (e.pass e.backoff 4) (RTh.enter n { x with left := 0 } 4)) := by
  have b := h.base (by omega)
  obtain ⟨l1, l2⟩ := h.p3 (by omega) (by omega)
  have l3 : x.len n x.part = x.backoff := by rw [hp]; simp [RTh.len]
  have hb := b.bk
  constructor
  · intro hl
    have e1 : e.pass e.backoff 4 = { e with past := e.past + 1 } := by unfold ETh.pass; rw [if_neg (by omega)]
    rw [e1]
    refine Thr.mk34 (b.same rfl rfl rfl rfl rfl rfl rfl rfl rfl rfl rfl rfl) (.inl hp) (h.p2 (by omega)) ⟨?_, by show 0 < x.left - 1; omega⟩
    show e.past + 1 + (x.left - 1) = RTh.len n x x.part
    omega
  · intro hl
    have e1 : e.pass e.backoff 4 = e.enter 4 := by unfold ETh.pass; rw [if_pos (by omega)]
    have e2 : RTh.enter n { x with left := 0 } 4 = { x with part := 4, left := 1 } := by simp [RTh.enter, RTh.len]
    rw [e1, e2]
    exact Thr.mk34 (b.same rfl rfl rfl rfl rfl rfl rfl rfl rfl rfl rfl rfl) (.inr rfl) rfl ⟨rfl, (by intros; (try dsimp only at *); omega)⟩
theorem own4 (h : Thr P n cap V t e x) (hG : Glob P n V) (hp : x.part = 4) : x.left = 1 ∧ Thr P n cap V t (ETh.enter { e with stamp := V.N, srec := V.prec } 5) (RTh.enter n { x with left := 0, stamp := V.N } 5) := by
  have b := h.base (by omega)
  obtain ⟨l1, l2⟩ := h.p3 (by omega) (by omega)
  have l3 : x.len n x.part = 1 := by rw [hp]; simp [RTh.len]
  refine ⟨by omega, ?_⟩
  have e2 : RTh.enter n { x with left := 0, stamp := V.N } 5 = { x with part := 5, left := wds n + 1, stamp := V.N } := by simp [RTh.enter, RTh.len]
  rw [e2]
  obtain ⟨f, hf⟩ := hG.curS
  refine Thr.mk5 (b.same rfl rfl rfl rfl rfl rfl rfl rfl rfl rfl rfl rfl) ⟨rfl, Nat.le_refl _, by show V.N ≤ V.pb V.prec; rw [hG.pbc]; exact Nat.le_refl _, fun _ => rfl, hG.nfN t, b.tn, hG.pbN _, by show (V.rst V.prec).isSome = true; rw [hf]; rfl⟩ rfl rfl ⟨?_, (by intros; (try dsimp only at *); omega)⟩ ⟨fun k _ _ => ⟨fun q => absurd q (Nat.not_lt_zero _), fun q => absurd q (Nat.not_lt_zero _)⟩, fun _ i hi => absurd hi (Nat.not_lt_zero _)⟩
  show 0 + (wds n + 1) = _
  omega
theorem own5w (h : Thr P n cap V t e x) (hG : Glob P n V) (hp : x.part = 5) (hw : e.past < wds n) : 1 < x.left ∧ Thr P n cap V t (ETh.pass { e with dw := upd e.dw e.past (V.rw e.srec e.past) } (wds n + 1) 6) { x with left := x.left - 1 } := by
  have b := h.base (by omega)
  have a := h.att (by omega) (by omega)
  obtain ⟨l1, l2⟩ := h.p3 (by omega) (by omega)
  have l3 : x.len n x.part = wds n + 1 := by rw [hp]; simp [RTh.len]
  refine ⟨by omega, ?_⟩
  have e1 : ETh.pass { e with dw := upd e.dw e.past (V.rw e.srec e.past) } (wds n + 1) 6 = { e with dw := upd e.dw e.past (V.rw e.srec e.past), past := e.past + 1 } := by unfold ETh.pass; rw [if_neg (by dsimp only; omega)]
  rw [e1]
  obtain ⟨d1, d2⟩ := h.d5 hp
  refine Thr.mk5 (b.same rfl rfl rfl rfl rfl rfl rfl rfl rfl rfl rfl rfl) (a.same rfl rfl rfl rfl rfl) hp ((h.p2 (by omega)).trans hp) ⟨by show e.past + 1 + (x.left - 1) = _; omega, by show 0 < x.left - 1; omega⟩ ⟨?_, ?_⟩
  · intro k hk hq
    obtain ⟨f1, f2⟩ := d1 k hk hq
    obtain ⟨g1, g2⟩ := hG.recs e.srec k hk (quiet_mono a.pb hq)
    constructor
    · intro q
      show upd e.dw e.past (V.rw e.srec e.past) (statusAt n k) = _
      have q' : statusAt n k < e.past + 1 := q
      by_cases c : statusAt n k = e.past
      · rw [c, upd_same, ← c]; exact g1
      · rw [upd_other _ _ c]; exact f1 (by omega)
    · intro q
      show upd e.dw e.past (V.rw e.srec e.past) (valueAt n k) = _
      have q' : valueAt n k < e.past + 1 := q
      by_cases c : valueAt n k = e.past
      · rw [c, upd_same, ← c]; exact g2
      · rw [upd_other _ _ c]; exact f2 (by omega)
  · intro q i hi hi2
    show upd e.dw e.past (V.rw e.srec e.past) i = _
    have hi' : i < e.past + 1 := hi
    by_cases c : i = e.past
    · rw [c, upd_same, a.cur q]
    · rw [upd_other _ _ c]; exact d2 q i (by omega) hi2
theorem own5s (hn : 0 < n) (h : Thr P n cap V t e x) (hG : Glob P n V) (hp : x.part = 5) (hw : ¬ e.past < wds n) : x.left = 1 ∧ Thr P n cap V t (ETh.pass { e with now := (V.rst e.srec).map Prod.fst, frm := (V.rst e.srec).map Prod.fst } (wds n + 1) 6) (RTh.enter n { x with left := 0 } 6) := by
  have b := h.base (by omega)
  have a := h.att (by omega) (by omega)
  obtain ⟨l1, l2⟩ := h.p3 (by omega) (by omega)
  have l3 : x.len n x.part = wds n + 1 := by rw [hp]; simp [RTh.len]
  refine ⟨by omega, ?_⟩
  have hpast : e.past = wds n := by omega
  have htw := tw_pos hn
  have e1 : ETh.pass { e with now := (V.rst e.srec).map Prod.fst, frm := (V.rst e.srec).map Prod.fst } (wds n + 1) 6 = { e with now := (V.rst e.srec).map Prod.fst, frm := (V.rst e.srec).map Prod.fst, phase := 6, past := 0 } := by unfold ETh.pass; rw [if_pos (by dsimp only; omega)]; rfl
  have e2 : RTh.enter n { x with left := 0 } 6 = { x with part := 6, left := tw n } := by
    have : tw n ≠ 0 := by omega
    simp [RTh.enter, RTh.len, this]
  rw [e1, e2]
  obtain ⟨d1, d2⟩ := h.d5 hp
  rw [hpast] at d1 d2
  refine Thr.mk67 (b.same rfl rfl rfl rfl rfl rfl rfl rfl rfl rfl rfl rfl) (a.same rfl rfl rfl rfl rfl) ⟨d1, by simpa using a.some, by simpa using a.some⟩ (.inl ⟨rfl, fun w hw => absurd hw (Nat.not_lt_zero _), fun k _ hk => absurd hk (Nat.not_lt_zero _)⟩) rfl ⟨?_, htw⟩ ?_
  · show 0 + tw n = _
    simp [RTh.len]
  · intro q
    obtain ⟨f, hf⟩ := hG.curS
    have : (V.rst e.srec).map Prod.fst = some ⟨(V.rp P).st, num V.bs⟩ := by rw [a.cur q, hf]; rfl
    exact ⟨fun i hi => d2 q i hi hi, this, this⟩
theorem own6 (h : Thr P n cap V t e x) (hG : Glob P n V) (hp : x.part = 6) (fd : Nat → Nat) (hfd : fd = fun k => if k / 16 = tw n - (x.left - 1) - 1 ∧ k < n then V.flips k else x.flipped k) :
    (1 < x.left → Thr P n cap V t (ETh.pass { e with tg := upd e.tg e.past (V.togs e.past) } (tw n) 7) { x with left := x.left - 1, flipped := fd }) ∧ (x.left = 1 → Thr P n cap V t (ETh.pass { e with tg := upd e.tg e.past (V.togs e.past) } (tw n) 7) (RTh.enter n { x with left := 0, flipped := fd } 7)) := by
  have b := h.base (by omega)
  have a := h.att (by omega) (by omega)
  obtain ⟨l1, l2⟩ := h.p3 (by omega) (by omega)
  have l3 : x.len n x.part = tw n := by rw [hp]; simp [RTh.len]
  have hpast : tw n - (x.left - 1) - 1 = e.past := by omega
  rw [hpast] at hfd
  obtain ⟨c1, c2, c3⟩ := h.d6 (by omega) (by omega)
  obtain ⟨s1, s2⟩ := h.t6 hp
  have hsc : Scanned n V t e.stamp (e.past + 1) (upd e.tg e.past (V.togs e.past)) fd := by
    refine ⟨fun w hw => ?_, fun k hk hkc => ?_⟩
    · by_cases c : w = e.past
      · subst c
        rw [upd_same, hG.togs _ (by omega)]
        apply bits_congr
        intro k hk1 hk2
        rw [hfd]
        simp [hk1, hk2]
      · rw [upd_other _ _ c, s1 w (by omega)]
        apply bits_congr
        intro k hk1 hk2
        rw [hfd]
        have : ¬ (k / 16 = e.past ∧ k < n) := by omega
        simp only [this, if_false]
    · rw [hfd]
      by_cases c : k / 16 = e.past
      · simp only [c, hk, and_self, if_true]
        have := cnt_take_le V.bs e.stamp k
        have h2 := (hG.fl k hk).1
        exact ⟨by show cnt (V.bs.take e.stamp) k ≤ _; omega, Nat.le_refl _, fun _ => trivial⟩
      · have : ¬ (k / 16 = e.past ∧ k < n) := by omega
        simp only [this, if_false]
        exact s2 k hk (by omega)
  have hd := h.d7 (.inl hp)
  constructor
  · intro hl
    have e1 : ETh.pass { e with tg := upd e.tg e.past (V.togs e.past) } (tw n) 7 = { e with tg := upd e.tg e.past (V.togs e.past), past := e.past + 1 } := by unfold ETh.pass; rw [if_neg (by dsimp only; omega)]
    rw [e1]
    refine Thr.mk67 (b.same rfl rfl rfl rfl rfl rfl rfl rfl rfl rfl rfl rfl) (a.same rfl rfl rfl rfl rfl) ⟨c1, c2, c3⟩ (.inl ⟨hp, hsc⟩) (h.p2 (by omega)) ⟨?_, by show 0 < x.left - 1; omega⟩ hd
    show e.past + 1 + (x.left - 1) = RTh.len n { x with left := x.left - 1, flipped := fd } x.part
    have : RTh.len n { x with left := x.left - 1, flipped := fd } x.part = x.len n x.part := by rw [hp]; rfl
    omega
  · intro hl
    have e1 : ETh.pass { e with tg := upd e.tg e.past (V.togs e.past) } (tw n) 7 = { e with tg := upd e.tg e.past (V.togs e.past), phase := 7, past := 0 } := by unfold ETh.pass; rw [if_pos (by dsimp only; omega)]; rfl
    have e2 : RTh.enter n { x with left := 0, flipped := fd } 7 = { x with part := 7, left := 1, flipped := fd } := by simp [RTh.enter, RTh.len]
    rw [e1, e2]
    rw [show e.past + 1 = tw n by omega] at hsc
    exact Thr.mk67 (b.same rfl rfl rfl rfl rfl rfl rfl rfl rfl rfl rfl rfl) (a.same rfl rfl rfl rfl rfl) ⟨c1, c2, c3⟩ (.inr ⟨rfl, hsc⟩) rfl ⟨rfl, (by intros; (try dsimp only at *); omega)⟩ hd
end
end Go.Proofs.YtefjhnhdagolhaaGreat.M
