import Derived.Test.YtefjhnhdagolhaaGreatQ06
namespace Go.Proofs.YtefjhnhdagolhaaGreat.M
section
variable {σ : Type} {P : Plain σ} {n cap : Nat} {V : View σ} {t : Nat} {e : ETh σ} {x : RTh}
structure Base3 (P : Plain σ) (n cap : Nat) (V : View σ) (t : Nat) (e : ETh σ) (x : RTh) : Prop where
  xo : x.ops = V.ops t
  xf : x.flips = V.flips t
  bk : e.backoff = x.backoff
  bc : x.backoff ≤ cap
  ag : e.again = decide (x.tries = 2)
  tog : e.toggle = decide (V.flips t % 2 = 1)
  eop : (V.ops t).length ≠ 0 ∧ e.op = V.op t ((V.ops t).length - 1)
  c3 : (V.ops t).length = V.flips t ∧ x.ended + 1 = V.flips t
  an2 : ∀ i, i < 3 → V.ann t i = e.op.w i
  sp : (e.spare = 2 * t + 1 ∧ e.kept = 2 * t + 2) ∨ (e.spare = 2 * t + 2 ∧ e.kept = 2 * t + 1)
  spc : e.spare ≠ V.prec
  en : e.ended = decide (0 < x.ended)
  tr : x.tries = 1 ∨ x.tries = 2
  tn : x.tries = 2 → V.nf t < V.N
theorem Thr.base (h : Thr P n cap V t e x) (h3 : 3 ≤ x.part) : Base3 P n cap V t e x :=
  ⟨h.xo, h.xf, h.bk, h.bc, h.ag (by omega), h.tog, h.eop (by omega), h.c3 h3, h.an2 (by omega), h.sp, h.spc, h.en, h.tr h3, h.tn h3⟩
structure Att (P : Plain σ) (n : Nat) (V : View σ) (t : Nat) (e : ETh σ) (x : RTh) : Prop where
  st : x.stamp = e.stamp
  le : e.stamp ≤ V.N
  pb : e.stamp ≤ V.pb e.srec
  cur : e.stamp = V.N → e.srec = V.prec
  nf : V.nf t ≤ e.stamp
  nf2 : x.tries = 2 → V.nf t < e.stamp
  spb : V.pb e.spare ≤ e.stamp
  some : (V.rst e.srec).isSome
theorem Thr.att (h : Thr P n cap V t e x) (h5 : 5 ≤ x.part) (h10 : x.part ≤ 10) : Att P n V t e x := by
  obtain ⟨a1, a2, a3, a4, a5, a6, a7, a8⟩ := h.s1 h5 h10
  exact ⟨a1, a2, a3, a4, a5, a6, a7, a8⟩
theorem Att.all (h : Att P n V t e x) : x.stamp = e.stamp ∧ e.stamp ≤ V.N ∧ e.stamp ≤ V.pb e.srec ∧ (e.stamp = V.N → e.srec = V.prec) ∧ V.nf t ≤ e.stamp ∧ (x.tries = 2 → V.nf t < e.stamp) ∧ V.pb e.spare ≤ e.stamp ∧ (V.rst e.srec).isSome :=
  ⟨h.st, h.le, h.pb, h.cur, h.nf, h.nf2, h.spb, h.some⟩
theorem Thr.mk34 (b : Base3 P n cap V t e x) (h : x.part = 3 ∨ x.part = 4) (hp : e.phase = x.part) (hl : e.past + x.left = x.len n x.part ∧ 0 < x.left) : Thr P n cap V t e x :=
  { xo := b.xo, xf := b.xf, bk := b.bk, bc := b.bc, ag := fun _ => b.ag, tog := b.tog, eop := fun _ => b.eop, c3 := fun _ => b.c3, an2 := fun _ => b.an2, sp := b.sp, spc := b.spc, en := b.en, tr := fun _ => b.tr, tn := fun _ => b.tn,
    p1 := (by intros; (try dsimp only at *); omega), p2 := fun _ => hp, p3 := fun _ _ => hl, p4 := (by intros; (try dsimp only at *); omega), c0 := (by intros; (try dsimp only at *); omega), t0 := (by intros; (try dsimp only at *); omega), c1 := (by intros; (try dsimp only at *); omega), c11 := (by intros; (try dsimp only at *); omega), an1 := (by intros; (try dsimp only at *); omega), a0 := (by intros; (try dsimp only at *); omega), a1 := (by intros; (try dsimp only at *); omega), fd := (by intros; (try dsimp only at *); omega), s1 := (by intros; (try dsimp only at *); omega), d5 := (by intros; (try dsimp only at *); omega), d6 := (by intros; (try dsimp only at *); omega), d7 := (by intros; (try dsimp only at *); omega), t6 := (by intros; (try dsimp only at *); omega), t7 := (by intros; (try dsimp only at *); omega), h8 := (by intros; (try dsimp only at *); omega), h8n := (by intros; (try dsimp only at *); omega), h9 := (by intros; (try dsimp only at *); omega), w9 := (by intros; (try dsimp only at *); omega), w10 := (by intros; (try dsimp only at *); omega) }
theorem Thr.mk11 (b : Base3 P n cap V t e x) (h : x.part = 11) (hp : 1 ≤ x.left ∧ x.left ≤ 3 ∧ e.phase = 14 - x.left) (hc : cnt V.bs t = V.flips t) (ha : x.left = 1 → e.sta = (V.A P t).s) (hf : x.left ≤ 2 → V.at (V.pb e.found) t = cnt V.bs t) : Thr P n cap V t e x :=
  { xo := b.xo, xf := b.xf, bk := b.bk, bc := b.bc, ag := fun _ => b.ag, tog := b.tog, eop := fun _ => b.eop, c3 := fun _ => b.c3, an2 := fun _ => b.an2, sp := b.sp, spc := b.spc, en := b.en, tr := fun _ => b.tr, tn := fun _ => b.tn,
    p1 := (by intros; (try dsimp only at *); omega), p2 := (by intros; (try dsimp only at *); omega), p3 := (by intros; (try dsimp only at *); omega), p4 := fun _ => hp, c0 := (by intros; (try dsimp only at *); omega), t0 := (by intros; (try dsimp only at *); omega), c1 := (by intros; (try dsimp only at *); omega), c11 := fun _ => hc, an1 := (by intros; (try dsimp only at *); omega), a0 := (by intros; (try dsimp only at *); omega), a1 := fun _ => ha, fd := fun _ => hf, s1 := (by intros; (try dsimp only at *); omega), d5 := (by intros; (try dsimp only at *); omega), d6 := (by intros; (try dsimp only at *); omega), d7 := (by intros; (try dsimp only at *); omega), t6 := (by intros; (try dsimp only at *); omega), t7 := (by intros; (try dsimp only at *); omega), h8 := (by intros; (try dsimp only at *); omega), h8n := (by intros; (try dsimp only at *); omega), h9 := (by intros; (try dsimp only at *); omega), w9 := (by intros; (try dsimp only at *); omega), w10 := (by intros; (try dsimp only at *); omega) }
theorem Thr.mk5 (b : Base3 P n cap V t e x) (a : Att P n V t e x) (h : x.part = 5) (hp : e.phase = 5) (hl : e.past + x.left = wds n + 1 ∧ 0 < x.left) (hd : Drafts P n V e.stamp e.past e.dw ∧ (e.stamp = V.N → ∀ i, i < e.past → i < wds n → e.dw i = V.rw V.prec i)) : Thr P n cap V t e x :=
  { xo := b.xo, xf := b.xf, bk := b.bk, bc := b.bc, ag := fun _ => b.ag, tog := b.tog, eop := fun _ => b.eop, c3 := fun _ => b.c3, an2 := fun _ => b.an2, sp := b.sp, spc := b.spc, en := b.en, tr := fun _ => b.tr, tn := fun _ => b.tn,
    p1 := (by intros; (try dsimp only at *); omega), p2 := fun _ => by omega, p3 := fun _ _ => by rw [h]; exact hl, p4 := (by intros; (try dsimp only at *); omega), c0 := (by intros; (try dsimp only at *); omega), t0 := (by intros; (try dsimp only at *); omega), c1 := (by intros; (try dsimp only at *); omega), c11 := (by intros; (try dsimp only at *); omega), an1 := (by intros; (try dsimp only at *); omega), a0 := (by intros; (try dsimp only at *); omega), a1 := (by intros; (try dsimp only at *); omega), fd := (by intros; (try dsimp only at *); omega), s1 := fun _ _ => a.all, d5 := fun _ => hd, d6 := (by intros; (try dsimp only at *); omega), d7 := (by intros; (try dsimp only at *); omega), t6 := (by intros; (try dsimp only at *); omega), t7 := (by intros; (try dsimp only at *); omega), h8 := (by intros; (try dsimp only at *); omega), h8n := (by intros; (try dsimp only at *); omega), h9 := (by intros; (try dsimp only at *); omega), w9 := (by intros; (try dsimp only at *); omega), w10 := (by intros; (try dsimp only at *); omega) }
structure Cop (P : Plain σ) (n : Nat) (V : View σ) (e : ETh σ) : Prop where
  d : Drafts P n V e.stamp (wds n) e.dw
  now : e.now.isSome
  frm : e.frm.isSome
theorem Thr.mk67 (b : Base3 P n cap V t e x) (a : Att P n V t e x) (c : Cop P n V e) (h : (x.part = 6 ∧ Scanned n V t e.stamp e.past e.tg x.flipped) ∨ (x.part = 7 ∧ Scanned n V t e.stamp (tw n) e.tg x.flipped)) (hp : e.phase = x.part) (hl : e.past + x.left = x.len n x.part ∧ 0 < x.left)
    (hd : e.stamp = V.N → (∀ i, i < wds n → e.dw i = V.rw V.prec i) ∧ e.now = some ⟨(V.rp P).st, num V.bs⟩ ∧ e.frm = some ⟨(V.rp P).st, num V.bs⟩) : Thr P n cap V t e x :=
  { xo := b.xo, xf := b.xf, bk := b.bk, bc := b.bc, ag := fun _ => b.ag, tog := b.tog, eop := fun _ => b.eop, c3 := fun _ => b.c3, an2 := fun _ => b.an2, sp := b.sp, spc := b.spc, en := b.en, tr := fun _ => b.tr, tn := fun _ => b.tn,
    p1 := (by intros; (try dsimp only at *); omega), p2 := fun _ => hp, p3 := fun _ _ => hl, p4 := (by intros; (try dsimp only at *); omega), c0 := (by intros; (try dsimp only at *); omega), t0 := (by intros; (try dsimp only at *); omega), c1 := (by intros; (try dsimp only at *); omega), c11 := (by intros; (try dsimp only at *); omega), an1 := (by intros; (try dsimp only at *); omega), a0 := (by intros; (try dsimp only at *); omega), a1 := (by intros; (try dsimp only at *); omega), fd := (by intros; (try dsimp only at *); omega), s1 := fun _ _ => a.all, d5 := (by intros; (try dsimp only at *); omega), d6 := fun _ _ => ⟨c.d, c.now, c.frm⟩, d7 := fun _ => hd,
    t6 := fun q => (by rcases h with h | h; exact h.2; omega), t7 := fun q _ => (by rcases h with h | h; omega; exact h.2), h8 := (by intros; (try dsimp only at *); omega), h8n := (by intros; (try dsimp only at *); omega), h9 := (by intros; (try dsimp only at *); omega), w9 := (by intros; (try dsimp only at *); omega), w10 := (by intros; (try dsimp only at *); omega) }
theorem Thr.mk8 (b : Base3 P n cap V t e x) (a : Att P n V t e x) (c : Cop P n V e) (s : Scanned n V t e.stamp (tw n) e.tg x.flipped) (q : e.pend = x.pend ∧ Pends n V e.stamp t e.pend x.flipped) (h : 8 ≤ x.part ∧ x.part ≤ 10) (hp : e.phase = x.part) (hl : e.past + x.left = x.len n x.part ∧ 0 < x.left)
    (h8n : x.part = 8 → e.stamp = V.N → e.frm = some ⟨(V.rp P).st, num V.bs⟩ ∧ e.now = some ⟨((V.rp P).run P V.op (e.pend.take (e.past / 3))).st, num V.bs⟩ ∧ HasAns n ((V.rp P).run P V.op (e.pend.take (e.past / 3))) e.dw ∧ ∀ q, q < e.past % 3 → e.heard q = V.ann (e.pend.getD (e.past / 3) 0) q)
    (h9 : x.part = 9 ∨ x.part = 10 → e.stamp = V.N → e.now = some ⟨((V.rp P).run P V.op e.pend).st, num (V.bs ++ [e.pend])⟩ ∧ HasAns n ((V.rp P).run P V.op e.pend) e.dw ∧ ∀ w, w < tw n → e.dw w = bits n x.flipped w)
    (w9 : x.part = 9 → ∀ i, i < e.past → i < wds n → V.rw e.spare i = e.dw i) (w10 : x.part = 10 → (∀ i, i < wds n → V.rw e.spare i = e.dw i) ∧ V.rst e.spare = e.now.bind fun v => e.frm.map fun f => (v, f)) : Thr P n cap V t e x :=
  { xo := b.xo, xf := b.xf, bk := b.bk, bc := b.bc, ag := fun _ => b.ag, tog := b.tog, eop := fun _ => b.eop, c3 := fun _ => b.c3, an2 := fun _ => b.an2, sp := b.sp, spc := b.spc, en := b.en, tr := fun _ => b.tr, tn := fun _ => b.tn,
    p1 := (by intros; (try dsimp only at *); omega), p2 := fun _ => hp, p3 := fun _ _ => hl, p4 := (by intros; (try dsimp only at *); omega), c0 := (by intros; (try dsimp only at *); omega), t0 := (by intros; (try dsimp only at *); omega), c1 := (by intros; (try dsimp only at *); omega), c11 := (by intros; (try dsimp only at *); omega), an1 := (by intros; (try dsimp only at *); omega), a0 := (by intros; (try dsimp only at *); omega), a1 := (by intros; (try dsimp only at *); omega), fd := (by intros; (try dsimp only at *); omega), s1 := fun _ _ => a.all, d5 := (by intros; (try dsimp only at *); omega), d6 := fun _ _ => ⟨c.d, c.now, c.frm⟩, d7 := (by intros; (try dsimp only at *); omega), t6 := (by intros; (try dsimp only at *); omega), t7 := fun _ _ => s, h8 := fun _ _ => q, h8n := h8n, h9 := h9, w9 := w9, w10 := w10 }
theorem Base3.with {e' : ETh σ} {x' : RTh} (b : Base3 P n cap V t e x) (h1 : x'.ops = x.ops) (h2 : x'.flips = x.flips) (h3 : e'.backoff = x'.backoff) (h4 : x'.backoff ≤ cap) (h5 : e'.again = decide (x'.tries = 2)) (h6 : e'.toggle = e.toggle) (h7 : e'.op = e.op) (h8 : x'.ended = x.ended) (h9 : e'.spare = e.spare) (h10 : e'.kept = e.kept) (h11 : e'.ended = e.ended)
    (h12 : x'.tries = 1 ∨ x'.tries = 2) (h13 : x'.tries = 2 → V.nf t < V.N) : Base3 P n cap V t e' x' :=
  ⟨h1.trans b.xo, h2.trans b.xf, h3, h4, h5, h6.trans b.tog, ⟨b.eop.1, h7.trans b.eop.2⟩, by rw [h8]; exact b.c3, by rw [h7]; exact b.an2, by rw [h9, h10]; exact b.sp, by rw [h9]; exact b.spc, by rw [h8, h11]; exact b.en, h12, h13⟩
theorem Thr.approach {e1 : ETh σ} {x1 : RTh} (b : Base3 P n cap V t e1 x1) : Thr P n cap V t e1.approach (x1.enter n 3) := by
  by_cases h : x1.backoff = 0
  · have e2 : x1.enter n 3 = { x1 with part := 4, left := 1 } := by simp [RTh.enter, RTh.len, h]
    have e3 : e1.approach = e1.enter 4 := by unfold ETh.approach; rw [if_neg (by rw [b.bk]; omega)]
    rw [e2, e3]
    refine Thr.mk34 ⟨b.xo, b.xf, b.bk, b.bc, b.ag, b.tog, b.eop, b.c3, b.an2, b.sp, b.spc, b.en, b.tr, b.tn⟩ (.inr rfl) rfl ⟨rfl, (by intros; (try dsimp only at *); omega)⟩
  · have e2 : x1.enter n 3 = { x1 with part := 3, left := x1.backoff } := by simp [RTh.enter, RTh.len, h]
    have e3 : e1.approach = e1.enter 3 := by unfold ETh.approach; rw [if_pos (by rw [b.bk]; omega)]
    rw [e2, e3]
    refine Thr.mk34 ⟨b.xo, b.xf, b.bk, b.bc, b.ag, b.tog, b.eop, b.c3, b.an2, b.sp, b.spc, b.en, b.tr, b.tn⟩ (.inl rfl) rfl ⟨?_, by show 0 < x1.backoff; omega⟩
    show 0 + x1.backoff = _
    simp [RTh.len]
theorem Thr.failed (b : Base3 P n cap V t e x) (a : Att P n V t e x) (hG : Glob P n V) (ht : t < n) (hs : e.stamp ≠ V.N) : Thr P n cap V t (e.fail cap) (x.fail n cap) := by
  have hN : V.nf t < V.N := by have := a.le; have := a.nf; omega
  unfold ETh.fail RTh.fail
  rw [b.ag]
  by_cases h : x.tries = 2
  · rw [if_pos h, if_pos (by simpa using h)]
    have e2 : RTh.enter n { x with backoff := min (2 * x.backoff + 1) cap } 11 = { x with backoff := min (2 * x.backoff + 1) cap, part := 11, left := 3 } := by simp [RTh.enter, RTh.len]
    rw [e2]
    have hc : V.flips t = cnt V.bs t := hG.help t ht (by have := a.nf2 h; have := a.le; omega)
    refine Thr.mk11 (b.with rfl rfl (by show min _ _ = min _ _; rw [b.bk]) (Nat.min_le_right _ _) rfl rfl rfl rfl rfl rfl rfl b.tr b.tn) rfl ⟨(by intros; (try dsimp only at *); omega), (by intros; (try dsimp only at *); omega), rfl⟩ hc.symm (by intros; (try dsimp only at *); omega) (by intros; (try dsimp only at *); omega)
  · rw [if_neg h, if_neg (by simpa using h)]
    exact Thr.approach (b.with rfl rfl (by show min _ _ = min _ _; rw [b.bk]) (Nat.min_le_right _ _) rfl rfl rfl rfl rfl rfl rfl (.inr rfl) (fun _ => hN))
end
end Go.Proofs.YtefjhnhdagolhaaGreat.M
namespace Go.Proofs.YtefjhnhdagolhaaGreat.M
section
variable {σ : Type} {P : Plain σ} {n cap : Nat} {V : View σ} {t : Nat} {e : ETh σ} {x : RTh}
theorem Base3.same {e' : ETh σ} {x' : RTh} (b : Base3 P n cap V t e x) (h1 : x'.ops = x.ops) (h2 : x'.flips = x.flips) (h3 : e'.backoff = e.backoff) (h4 : x'.backoff = x.backoff) (h5 : e'.again = e.again) (h5' : x'.tries = x.tries) (h6 : e'.toggle = e.toggle) (h7 : e'.op = e.op) (h8 : x'.ended = x.ended) (h9 : e'.spare = e.spare) (h10 : e'.kept = e.kept) (h11 : e'.ended = e.ended) : Base3 P n cap V t e' x' :=
  b.with h1 h2 (by rw [h3, h4]; exact b.bk) (by rw [h4]; exact b.bc) (by rw [h5, h5']; exact b.ag) h6 h7 h8 h9 h10 h11 (by rw [h5']; exact b.tr) (by rw [h5']; exact b.tn)
theorem Att.same {e' : ETh σ} {x' : RTh} (a : Att P n V t e x) (h1 : x'.stamp = x.stamp) (h2 : e'.stamp = e.stamp) (h3 : e'.srec = e.srec) (h4 : x'.tries = x.tries) (h5 : e'.spare = e.spare) : Att P n V t e' x' :=
  ⟨by rw [h1, h2]; exact a.st, by rw [h2]; exact a.le, by rw [h2, h3]; exact a.pb, by rw [h2, h3]; exact a.cur, by rw [h2]; exact a.nf, by rw [h2, h4]; exact a.nf2, by rw [h2, h5]; exact a.spb, by rw [h3]; exact a.some⟩
theorem tw_pos (hn : 0 < n) : 0 < tw n := by unfold tw; omega
theorem own3 (h : Thr P n cap V t e x) (hp : x.part = 3) : (1 < x.left → Thr P n cap V t (e.pass e.backoff 4) { x with left := x.left - 1 }) ∧ (x.left = 1 → Thr P n cap V t (e.pass e.backoff 4) (RTh.enter n { x with left := 0 } 4)) := by
  have b := h.base (by omega)
  obtain ⟨l1, l2⟩ := h.p3 (by omega) (by omega)
  have l3 : x.len n x.part = x.backoff := by rw [hp]; simp [RTh.len]
  have hb := b.bk
  constructor
  · intro hl
    have e1 : e.pass e.backoff 4 = { e with past := e.past + 1 } := by unfold ETh.pass; rw [if_neg (by omega)]
    rw [e1]
    refine Thr.mk34 (b.same rfl rfl rfl rfl rfl rfl rfl rfl rfl rfl rfl rfl) (.inl hp) (h.p2 (by omega)) ⟨?_, by show 0 < x.left - 1; omega⟩
    show e.past + 1 + (x.left - 1) = RTh.len n x x.part
    omega
  · intro hl
    have e1 : e.pass e.backoff 4 = e.enter 4 := by unfold ETh.pass; rw [if_pos (by omega)]
    have e2 : RTh.enter n { x with left := 0 } 4 = { x with part := 4, left := 1 } := by simp [RTh.enter, RTh.len]
    rw [e1, e2]
    exact Thr.mk34 (b.same rfl rfl rfl rfl rfl rfl rfl rfl rfl rfl rfl rfl) (.inr rfl) rfl ⟨rfl, (by intros; (try dsimp only at *); omega)⟩
theorem own4 (h : Thr P n cap V t e x) (hG : Glob P n V) (hp : x.part = 4) : x.left = 1 ∧ Thr P n cap V t (ETh.enter { e with stamp := V.N, srec := V.prec } 5) (RTh.enter n { x with left := 0, stamp := V.N } 5) := by
  have b := h.base (by omega)
  obtain ⟨l1, l2⟩ := h.p3 (by omega) (by omega)
  have l3 : x.len n x.part = 1 := by rw [hp]; simp [RTh.len]
  refine ⟨by omega, ?_⟩
  have e2 : RTh.enter n { x with left := 0, stamp := V.N } 5 = { x with part := 5, left := wds n + 1, stamp := V.N } := by simp [RTh.enter, RTh.len]
  rw [e2]
  obtain ⟨f, hf⟩ := hG.curS
  refine Thr.mk5 (b.same rfl rfl rfl rfl rfl rfl rfl rfl rfl rfl rfl rfl) ⟨rfl, Nat.le_refl _, by show V.N ≤ V.pb V.prec; rw [hG.pbc]; exact Nat.le_refl _, fun _ => rfl, hG.nfN t, b.tn, hG.pbN _, by show (V.rst V.prec).isSome = true; rw [hf]; rfl⟩ rfl rfl ⟨?_, (by intros; (try dsimp only at *); omega)⟩ ⟨fun k _ _ => ⟨fun q => absurd q (Nat.not_lt_zero _), fun q => absurd q (Nat.not_lt_zero _)⟩, fun _ i hi => absurd hi (Nat.not_lt_zero _)⟩
  show 0 + (wds n + 1) = _
  omega
theorem own5w (h : Thr P n cap V t e x) (hG : Glob P n V) (hp : x.part = 5) (hw : e.past < wds n) : 1 < x.left ∧ Thr P n cap V t (ETh.pass { e with dw := upd e.dw e.past (V.rw e.srec e.past) } (wds n + 1) 6) { x with left := x.left - 1 } := by
  have b := h.base (by omega)
  have a := h.att (by omega) (by omega)
  obtain ⟨l1, l2⟩ := h.p3 (by omega) (by omega)
  have l3 : x.len n x.part = wds n + 1 := by rw [hp]; simp [RTh.len]
  refine ⟨by omega, ?_⟩
  have e1 : ETh.pass { e with dw := upd e.dw e.past (V.rw e.srec e.past) } (wds n + 1) 6 = { e with dw := upd e.dw e.past (V.rw e.srec e.past), past := e.past + 1 } := by unfold ETh.pass; rw [if_neg (by dsimp only; omega)]
  rw [e1]
  obtain ⟨d1, d2⟩ := h.d5 hp
  refine Thr.mk5 (b.same rfl rfl rfl rfl rfl rfl rfl rfl rfl rfl rfl rfl) (a.same rfl rfl rfl rfl rfl) hp ((h.p2 (by omega)).trans hp) ⟨by show e.past + 1 + (x.left - 1) = _; omega, by show 0 < x.left - 1; omega⟩ ⟨?_, ?_⟩
  · intro k hk hq
    obtain ⟨f1, f2⟩ := d1 k hk hq
    obtain ⟨g1, g2⟩ := hG.recs e.srec k hk (quiet_mono a.pb hq)
    constructor
    · intro q
      show upd e.dw e.past (V.rw e.srec e.past) (statusAt n k) = _
      have q' : statusAt n k < e.past + 1 := q
      by_cases c : statusAt n k = e.past
      · rw [c, upd_same, ← c]; exact g1
      · rw [upd_other _ _ c]; exact f1 (by omega)
    · intro q
      show upd e.dw e.past (V.rw e.srec e.past) (valueAt n k) = _
      have q' : valueAt n k < e.past + 1 := q
      by_cases c : valueAt n k = e.past
      · rw [c, upd_same, ← c]; exact g2
      · rw [upd_other _ _ c]; exact f2 (by omega)
  · intro q i hi hi2
    show upd e.dw e.past (V.rw e.srec e.past) i = _
    have hi' : i < e.past + 1 := hi
    by_cases c : i = e.past
    · rw [c, upd_same, a.cur q]
    · rw [upd_other _ _ c]; exact d2 q i (by omega) hi2
theorem own5s (hn : 0 < n) (h : Thr P n cap V t e x) (hG : Glob P n V) (hp : x.part = 5) (hw : ¬ e.past < wds n) : x.left = 1 ∧ Thr P n cap V t (ETh.pass { e with now := (V.rst e.srec).map Prod.fst, frm := (V.rst e.srec).map Prod.fst } (wds n + 1) 6) (RTh.enter n { x with left := 0 } 6) := by
  have b := h.base (by omega)
  have a := h.att (by omega) (by omega)
  obtain ⟨l1, l2⟩ := h.p3 (by omega) (by omega)
  have l3 : x.len n x.part = wds n + 1 := by rw [hp]; simp [RTh.len]
  refine ⟨by omega, ?_⟩
  have hpast : e.past = wds n := by omega
  have htw := tw_pos hn
  have e1 : ETh.pass { e with now := (V.rst e.srec).map Prod.fst, frm := (V.rst e.srec).map Prod.fst } (wds n + 1) 6 = { e with now := (V.rst e.srec).map Prod.fst, frm := (V.rst e.srec).map Prod.fst, phase := 6, past := 0 } := by unfold ETh.pass; rw [if_pos (by dsimp only; omega)]; rfl
  have e2 : RTh.enter n { x with left := 0 } 6 = { x with part := 6, left := tw n } := by
    have : tw n ≠ 0 := by omega
    simp [RTh.enter, RTh.len, this]
  rw [e1, e2]
  obtain ⟨d1, d2⟩ := h.d5 hp
  rw [hpast] at d1 d2
  refine Thr.mk67 (b.same rfl rfl rfl rfl rfl rfl rfl rfl rfl rfl rfl rfl) (a.same rfl rfl rfl rfl rfl) ⟨d1, by simpa using a.some, by simpa using a.some⟩ (.inl ⟨rfl, fun w hw => absurd hw (Nat.not_lt_zero _), fun k _ hk => absurd hk (Nat.not_lt_zero _)⟩) rfl ⟨?_, htw⟩ ?_
  · show 0 + tw n = _
    simp [RTh.len]
  · intro q
    obtain ⟨f, hf⟩ := hG.curS
    have : (V.rst e.srec).map Prod.fst = some ⟨(V.rp P).st, num V.bs⟩ := by rw [a.cur q, hf]; rfl
    exact ⟨fun i hi => d2 q i hi hi, this, this⟩
theorem own6 (h : Thr P n cap V t e x) (hG : Glob P n V) (hp : x.part = 6) (fd : Nat → Nat) (hfd : fd = fun k => if k / 16 = tw n - (x.left - 1) - 1 ∧ k < n then V.flips k else x.flipped k) :
    (1 < x.left → Thr P n cap V t (ETh.pass { e with tg := upd e.tg e.past (V.togs e.past) } (tw n) 7) { x with left := x.left - 1, flipped := fd }) ∧ (x.left = 1 → Thr P n cap V t (ETh.pass { e with tg := upd e.tg e.past (V.togs e.past) } (tw n) 7) (RTh.enter n { x with left := 0, flipped := fd } 7)) := by
  have b := h.base (by omega)
  have a := h.att (by omega) (by omega)
  obtain ⟨l1, l2⟩ := h.p3 (by omega) (by omega)
  have l3 : x.len n x.part = tw n := by rw [hp]; simp [RTh.len]
  have hpast : tw n - (x.left - 1) - 1 = e.past := by omega
  rw [hpast] at hfd
  obtain ⟨c1, c2, c3⟩ := h.d6 (by omega) (by omega)
  obtain ⟨s1, s2⟩ := h.t6 hp
  have hsc : Scanned n V t e.stamp (e.past + 1) (upd e.tg e.past (V.togs e.past)) fd := by
    refine ⟨fun w hw => ?_, fun k hk hkc => ?_⟩
    · by_cases c : w = e.past
      · subst c
        rw [upd_same, hG.togs _ (by omega)]
        apply bits_congr
        intro k hk1 hk2
        rw [hfd]
        simp [hk1, hk2]
      · rw [upd_other _ _ c, s1 w (by omega)]
        apply bits_congr
        intro k hk1 hk2
        rw [hfd]
        have : ¬ (k / 16 = e.past ∧ k < n) := by omega
        simp only [this, if_false]
    · rw [hfd]
      by_cases c : k / 16 = e.past
      · simp only [c, hk, and_self, if_true]
        have := cnt_take_le V.bs e.stamp k
        have h2 := (hG.fl k hk).1
        exact ⟨by show cnt (V.bs.take e.stamp) k ≤ _; omega, Nat.le_refl _, fun _ => trivial⟩
      · have : ¬ (k / 16 = e.past ∧ k < n) := by omega
        simp only [this, if_false]
        exact s2 k hk (by omega)
  have hd := h.d7 (.inl hp)
  constructor
  · intro hl
    have e1 : ETh.pass { e with tg := upd e.tg e.past (V.togs e.past) } (tw n) 7 = { e with tg := upd e.tg e.past (V.togs e.past), past := e.past + 1 } := by unfold ETh.pass; rw [if_neg (by dsimp only; omega)]
    rw [e1]
    refine Thr.mk67 (b.same rfl rfl rfl rfl rfl rfl rfl rfl rfl rfl rfl rfl) (a.same rfl rfl rfl rfl rfl) ⟨c1, c2, c3⟩ (.inl ⟨hp, hsc⟩) (h.p2 (by omega)) ⟨?_, by show 0 < x.left - 1; omega⟩ hd
    show e.past + 1 + (x.left - 1) = RTh.len n { x with left := x.left - 1, flipped := fd } x.part
    have : RTh.len n { x with left := x.left - 1, flipped := fd } x.part = x.len n x.part := by rw [hp]; rfl
    omega
  · intro hl
    have e1 : ETh.pass { e with tg := upd e.tg e.past (V.togs e.past) } (tw n) 7 = { e with tg := upd e.tg e.past (V.togs e.past), phase := 7, past := 0 } := by unfold ETh.pass; rw [if_pos (by dsimp only; omega)]; rfl
    have e2 : RTh.enter n { x with left := 0, flipped := fd } 7 = { x with part := 7, left := 1, flipped := fd } := by simp [RTh.enter, RTh.len]
    rw [e1, e2]
    rw [show e.past + 1 = tw n by omega] at hsc
    exact Thr.mk67 (b.same rfl rfl rfl rfl rfl rfl rfl rfl rfl rfl rfl rfl) (a.same rfl rfl rfl rfl rfl) ⟨c1, c2, c3⟩ (.inr ⟨rfl, hsc⟩) rfl ⟨rfl, (by intros; (try dsimp only at *); omega)⟩ hd
end
end Go.Proofs.YtefjhnhdagolhaaGreat.M
namespace Go.Proofs.YtefjhnhdagolhaaGreat.M
section
variable {σ : Type} {P : Plain σ} {n cap : Nat} {V : View σ} {t : Nat} {e : ETh σ} {x : RTh}
theorem waiting_eq (h : Thr P n cap V t e x) (hG : Glob P n V) (hp : x.part = 7) (hs : e.stamp = V.N) :
    e.waiting n = (List.range n).filter (fun k => decide ((x.flipped k + cnt V.bs k) % 2 = 1)) ∧ e.waiting n = (List.range n).filter (fun k => decide (x.flipped k = V.at e.stamp k + 1)) ∧ ∀ k, k < n → x.flipped k ≤ V.at e.stamp k + 1 := by
  obtain ⟨s1, s2⟩ := h.t7 (by omega) (by omega)
  obtain ⟨d1, -, -⟩ := h.d7 (.inr hp) hs
  have key : ∀ k, k < n → cnt V.bs k ≤ x.flipped k ∧ x.flipped k ≤ cnt V.bs k + 1 := fun k hk => by
    obtain ⟨a1, a2, -⟩ := s2 k hk (lt_tw hk)
    rw [at_now V hs] at a1
    have := (hG.fl k hk).2
    omega
  have w1 : ∀ k, k < n → hasBit e.tg k = decide (x.flipped k % 2 = 1) := fun k hk => hasBit_bits n _ _ k hk (s1 _ (lt_tw hk))
  have w2 : ∀ k, k < n → hasBit e.dw k = decide (cnt V.bs k % 2 = 1) := fun k hk => hasBit_bits n _ _ k hk (by
    have := lt_tw hk
    rw [d1 _ (by unfold wds; omega), hG.curW _ this])
  refine ⟨?_, ?_, fun k hk => by rw [at_now V hs]; exact (key k hk).2⟩
  · unfold ETh.waiting
    apply List.filter_congr
    intro k hk
    have hk := List.mem_range.1 hk
    rw [w1 k hk, w2 k hk]
    have := key k hk
    by_cases q : x.flipped k = cnt V.bs k
    · rw [q]
      have : ¬ (cnt V.bs k + cnt V.bs k) % 2 = 1 := by omega
      simp [this]
    · rw [show x.flipped k = cnt V.bs k + 1 by omega]
      have : (cnt V.bs k + 1 + cnt V.bs k) % 2 = 1 := by omega
      rw [this]
      by_cases r : cnt V.bs k % 2 = 1
      · have : ¬ (cnt V.bs k + 1) % 2 = 1 := by omega
        simp [r, this]
      · have : (cnt V.bs k + 1) % 2 = 1 := by omega
        simp [r, this]
  · unfold ETh.waiting
    apply List.filter_congr
    intro k hk
    have hk := List.mem_range.1 hk
    rw [w1 k hk, w2 k hk, at_now V hs]
    have := key k hk
    by_cases q : x.flipped k = cnt V.bs k
    · rw [q]; simp
    · rw [show x.flipped k = cnt V.bs k + 1 by omega]
      by_cases r : cnt V.bs k % 2 = 1
      · have : ¬ (cnt V.bs k + 1) % 2 = 1 := by omega
        simp [r, this]
      · have : (cnt V.bs k + 1) % 2 = 1 := by omega
        simp [r, this]
theorem own7 (ht : t < n) (h : Thr P n cap V t e x) (hG : Glob P n V) (hp : x.part = 7) :
    x.left = 1 ∧ (e.stamp ≠ V.N → Thr P n cap V t (e.fail cap) (RTh.fail n cap { x with left := 0 })) ∧
    (e.stamp = V.N → ∀ pd, pd = (List.range n).filter (fun k => decide ((x.flipped k + cnt V.bs k) % 2 = 1)) → e.waiting n = pd ∧ Thr P n cap V t (ETh.enter { e with pend := pd } (if t ∈ pd then 8 else 11)) (RTh.enter n { x with left := 0, pend := pd } (if t ∈ pd then 8 else 11))) := by
  have b := h.base (by omega)
  have a := h.att (by omega) (by omega)
  obtain ⟨l1, l2⟩ := h.p3 (by omega) (by omega)
  have l3 : x.len n x.part = 1 := by rw [hp]; simp [RTh.len]
  refine ⟨by omega, fun hs => ?_, fun hs pd hpd => ?_⟩
  · exact Thr.failed (x := { x with left := 0 }) (b.same rfl rfl rfl rfl rfl rfl rfl rfl rfl rfl rfl rfl) (a.same rfl rfl rfl rfl rfl) hG ht hs
  · obtain ⟨q1, q2, q3⟩ := waiting_eq h hG hp hs
    rw [← hpd] at q1
    rw [q1] at q2
    refine ⟨q1, ?_⟩
    obtain ⟨c1, c2, c3⟩ := h.d6 (by omega) (by omega)
    obtain ⟨d1, d2, d3⟩ := h.d7 (.inr hp) hs
    have sc := h.t7 (by omega) (by omega)
    by_cases hm : t ∈ pd
    · rw [if_pos hm]
      have hlen : pd.length ≠ 0 := by
        intro q
        rw [List.length_eq_zero_iff.1 q] at hm
        simp at hm
      have e2 : RTh.enter n { x with left := 0, pend := pd } 8 = { x with part := 8, left := 3 * pd.length, pend := pd } := by
        have : ¬ 3 * pd.length = 0 := by omega
        simp [RTh.enter, RTh.len, this]
      rw [e2]
      refine Thr.mk8 (b.same rfl rfl rfl rfl rfl rfl rfl rfl rfl rfl rfl rfl) (a.same rfl rfl rfl rfl rfl) ⟨c1, c2, c3⟩ sc ⟨rfl, q2, hm, q3⟩ ⟨(by intros; (try dsimp only at *); omega), (by intros; (try dsimp only at *); omega)⟩ rfl ⟨?_, by show 0 < 3 * pd.length; omega⟩ ?_ (by intros; (try dsimp only at *); omega) (by intros; (try dsimp only at *); omega) (by intros; (try dsimp only at *); omega)
      · show 0 + 3 * pd.length = _
        simp [RTh.len]
      · intro _ _
        have hr : (V.rp P).run P V.op (pd.take (0 / 3)) = V.rp P := rfl
        show e.frm = _ ∧ e.now = some ⟨((V.rp P).run P V.op (pd.take (0 / 3))).st, num V.bs⟩ ∧ HasAns n ((V.rp P).run P V.op (pd.take (0 / 3))) e.dw ∧ ∀ q, q < 0 % 3 → _
        rw [hr]
        refine ⟨d3, d2, fun k hk => ?_, fun q hq => absurd hq (Nat.not_lt_zero _)⟩
        obtain ⟨g1, g2⟩ := hG.curA k hk
        have i1 : statusAt n k < wds n := by unfold statusAt wds; omega
        have i2 : valueAt n k < wds n := by unfold valueAt wds; omega
        exact ⟨(d1 _ i1).trans g1, (d1 _ i2).trans g2⟩
    · rw [if_neg hm]
      have e2 : RTh.enter n { x with left := 0, pend := pd } 11 = { x with part := 11, left := 3, pend := pd } := by simp [RTh.enter, RTh.len]
      rw [e2]
      refine Thr.mk11 (b.same rfl rfl rfl rfl rfl rfl rfl rfl rfl rfl rfl rfl) rfl ⟨(by intros; (try dsimp only at *); omega), (by intros; (try dsimp only at *); omega), rfl⟩ ?_ (by intros; (try dsimp only at *); omega) (by intros; (try dsimp only at *); omega)
      have o1 := (sc.2 t ht (lt_tw ht)).2.2 (.inl rfl)
      have o2 := hG.fl t ht
      have o3 : x.flipped t ≠ V.at e.stamp t + 1 := fun q => hm (by rw [q2, List.mem_filter]; exact ⟨List.mem_range.2 ht, decide_eq_true q⟩)
      rw [at_now V hs] at o3
      omega
theorem own11 (ht : t < n) (h : Thr P n cap V t e x) (hG : Glob P n V) (hp : x.part = 11) :
    (x.left = 3 → Thr P n cap V t (ETh.enter { e with found := V.prec } 12) { x with left := x.left - 1 }) ∧
    (x.left = 2 → Thr P n cap V t (ETh.enter { e with sta := V.rw e.found (statusAt n t) } 13) { x with left := x.left - 1 }) ∧
    (x.left = 1 → Thr P n cap V t (ETh.enter { e with val := V.rw e.found (valueAt n t), ended := true } 0) { x with left := 0, part := 0, ended := x.ended + 1 }) := by
  have b := h.base (by omega)
  have hc := h.c11 hp
  refine ⟨fun hl => ?_, fun hl => ?_, fun hl => ?_⟩
  · refine Thr.mk11 (b.same rfl rfl rfl rfl rfl rfl rfl rfl rfl rfl rfl rfl) hp ⟨(by intros; (try dsimp only at *); omega), (by intros; (try dsimp only at *); omega), by show 12 = 14 - (x.left - 1); omega⟩ hc (fun q => absurd (show x.left - 1 = 1 from q) (by omega)) (fun _ => ?_)
    show V.at (V.pb V.prec) t = _
    rw [hG.pbc]
    exact at_now V rfl t
  · obtain ⟨g1, g2⟩ := hG.recs e.found t ht ⟨hc.symm, h.fd hp (by omega)⟩
    exact Thr.mk11 (b.same rfl rfl rfl rfl rfl rfl rfl rfl rfl rfl rfl rfl) hp ⟨(by intros; (try dsimp only at *); omega), (by intros; (try dsimp only at *); omega), by show 13 = 14 - (x.left - 1); omega⟩ hc (fun _ => g1) (fun _ => h.fd hp (by omega))
  · obtain ⟨g1, g2⟩ := hG.recs e.found t ht ⟨hc.symm, h.fd hp (by omega)⟩
    have hsta := h.a1 hp hl
    exact { xo := b.xo, xf := b.xf, bk := b.bk, bc := b.bc, tog := b.tog, sp := b.sp, spc := b.spc, p1 := (by intros; (try dsimp only at *); omega), p2 := fun _ => rfl, en := by simp [ETh.enter], c0 := fun _ => ⟨b.c3.1, b.c3.2, hc⟩, a0 := fun _ _ => ⟨hsta, g2⟩, ag := (by intros; (try dsimp only at *); omega), eop := (by intros; (try dsimp only at *); omega), c3 := (by intros; (try dsimp only at *); omega), an2 := (by intros; (try dsimp only at *); omega), tr := (by intros; (try dsimp only at *); omega), tn := (by intros; (try dsimp only at *); omega), p3 := (by intros; (try dsimp only at *); omega), p4 := (by intros; (try dsimp only at *); omega), c1 := (by intros; (try dsimp only at *); omega), t0 := (by intros; (try dsimp only at *); omega), c11 := (by intros; (try dsimp only at *); omega), an1 := (by intros; (try dsimp only at *); omega), a1 := (by intros; (try dsimp only at *); omega), fd := (by intros; (try dsimp only at *); omega), s1 := (by intros; (try dsimp only at *); omega), d5 := (by intros; (try dsimp only at *); omega), d6 := (by intros; (try dsimp only at *); omega), d7 := (by intros; (try dsimp only at *); omega), t6 := (by intros; (try dsimp only at *); omega), t7 := (by intros; (try dsimp only at *); omega), h8 := (by intros; (try dsimp only at *); omega), h8n := (by intros; (try dsimp only at *); omega), h9 := (by intros; (try dsimp only at *); omega), w9 := (by intros; (try dsimp only at *); omega), w10 := (by intros; (try dsimp only at *); omega) }
end
end Go.Proofs.YtefjhnhdagolhaaGreat.M
