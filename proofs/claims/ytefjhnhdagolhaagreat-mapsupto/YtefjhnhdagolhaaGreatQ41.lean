import Derived.Test.YtefjhnhdagolhaaGreatQ33
import Derived.Test.YtefjhnhdagolhaaGreatQ36
import Derived.Test.YtefjhnhdagolhaaGreatQ40
namespace Go.Proofs.YtefjhnhdagolhaaGreat.tree
open Go.RowKit
open M (upd upd_same upd_other Ver ETh ESt RSt RTh wds statusAt valueAt)
section
variable {σ : Type} {R : SR σ} {P : M.Plain σ}
theorem RE.new2 {w0 w : World} {x : Nat} {xl : List Value} (hx : Row w x 74 xl) {n cap : Nat} {oT : TypeId} {ov : Value} {b : Nat} (h : EngNew w0 n (cap : Int) oT ov b w) (hn : 1 ≤ n) (h64 : n ≤ 64) (hc : cap ≤ 64) {G : Nat → Prop} (hGl : ∀ k, G k → k < w0.heap.size) (hz : ∀ I : Nat → Prop, (∀ k, G k → I k) → R.rep I w P.first [.pointer none]) :
    ∃ L : Lt, L.n = n ∧ L.cap = cap ∧ L.oT = oT ∧ L.ov = ov ∧ L.bE = b ∧ RE R L (fun k => ((w0.heap.size ≤ k ∧ k < w.heap.size) ∧ k ≠ x) ∨ G k) (M.E0 P ⟨P.first, []⟩) w := by
  obtain ⟨W1, bS, bTg, bAn, bP, bW, bB, bE, v, gD, gG, rfl, h2, h3, h4⟩ := h
  obtain ⟨hE, hO, hG, hD, hB⟩ := h4
  have hz0 := h3.size
  have hz1 := hB.size
  obtain ⟨hl, ⟨rfl, hn0⟩ | ⟨g, gc, cur, rfl, hgb, hg, hnc, hcm, hcs, htk⟩⟩ := hO
  · omega
  · have lS := h2.1.lt
    have h2' := h2.later hB
    obtain ⟨a1, a2, a3, a4, a5, a6, a7, a8, z1, z2, z3, z4, z5, z6, z7, z8, z9, z10⟩ := h2'
    have lB : bB < W1.heap.size := h2.2.2.2.2.2.2.1.lt
    have lE : bE < W1.heap.size := h2.2.2.2.2.2.2.2.1.lt
    have lg : g < w.heap.size := by have := Array.getElem?_eq_some_iff.mp hg; exact this.1
    obtain ⟨-, y1, y2⟩ := a5 0 (by omega)
    let L : Lt := { n := n, cap := cap, oT := oT, ov := ov, bE := W1.heap.size, bS := bS, bTg := bTg, bAn := bAn, bP := bP, bW := bW, g := g, gc := gc, gD := gD, gG := gG }
    have hown : ∀ k, L.own k → w0.heap.size ≤ k ∧ k < w.heap.size ∧ k ≠ W1.heap.size ∧ k ≠ bB ∧ k ≠ bE := by
      rintro k (q | q | q | q | ⟨r, hr, q⟩ | q | ⟨t, ht, q | q⟩)
      · have q : k = bS := q; omega
      · have q : k = bTg := q; omega
      · have q : k = bAn := q; omega
      · have q : k = bP := q; omega
      · have := (a5 r hr).2
        have q : k = bW r := q; omega
      · have q : k = g := q; omega
      · obtain ⟨r1, r2, r3, r4, -⟩ := hG t ht
        have := r1.lt
        have q : k = gD t := q; omega
      · obtain ⟨r1, r2, r3, r4, -⟩ := hG t ht
        have := r2.lt
        have q : k = gG t := q; omega
    have hownx : ∀ k, L.own k → k ≠ x := by
      rintro k (q | q | q | q | ⟨r, hr, q⟩ | q | ⟨t, ht, q | q⟩)
      · have q : k = bS := q; subst q; exact Row.apart a1 hx (by decide)
      · have q : k = bTg := q; subst q; exact Row.apart a2 hx (by decide)
      · have q : k = bAn := q; subst q; exact Row.apart a3 hx (by decide)
      · have q : k = bP := q; subst q; exact Row.apart a4 hx (by decide)
      · have q : k = bW r := q; subst q; exact Row.apart (a5 r hr).1 hx (by decide)
      · have q : k = g := q; subst q; exact Row.apart (show Row w k _ cur.toList by simpa [Row] using hg) hx (by decide)
      · have q : k = gD t := q; subst q; exact Row.apart (hG t ht).1 hx (by decide)
      · have q : k = gG t := q; subst q; exact Row.apart (hG t ht).2.1 hx (by decide)
    have iB : (((w0.heap.size ≤ bB ∧ bB < w.heap.size) ∧ bB ≠ x) ∨ G bB) ∧ ¬ L.own bB := ⟨.inl ⟨by omega, Row.apart a7 hx (by decide)⟩, fun c => (hown _ c).2.2.2.1 rfl⟩
    have iE : (((w0.heap.size ≤ bE ∧ bE < w.heap.size) ∧ bE ≠ x) ∨ G bE) ∧ ¬ L.own bE := ⟨.inl ⟨by omega, Row.apart a8 hx (by decide)⟩, fun c => (hown _ c).2.2.2.2 rfl⟩
    have a1' : Row w bS 336 [.int .i64 (n : Int), .iface oT ov, .slice (some ⟨bTg, 0, none⟩) (tw n) (tw n), .slice (some ⟨bAn, 0, none⟩) n n, .slice (some ⟨bP, 0, none⟩) (2 * n + 1) (2 * n + 1), .int .i64 (((0 : Nat) : Int) * 129 + ((0 : Nat) : Int))] := by simpa using a1
    have a8' : Row w bE 269 (([.pointer none] ++ [.pointer (some ⟨bB, 0, none⟩)]) ++ ([.pointer none] ++ [.pointer (some ⟨bB, 0, none⟩)])) := by simpa [edNew] using a8
    have hV : VRep R (fun k => (((w0.heap.size ≤ k ∧ k < w.heap.size) ∧ k ≠ x) ∨ G k) ∧ ¬ L.own k) w (⟨P.first, []⟩ : Ver σ) ([.pointer none] ++ [.pointer (some ⟨bB, 0, none⟩)]) := ⟨[.pointer none], bB, rfl, hz _ (fun k hk => ⟨.inr hk, fun c => by have := (hown k c).1; have := hGl k hk; omega⟩), iB, a7⟩
    refine ⟨L, rfl, rfl, rfl, rfl, rfl, { ok := ?ok, eng := hE, enS := ⟨.inl ⟨⟨hz0, hE.lt⟩, Row.apart hE hx (by decide)⟩, fun c => (hown _ c).2.2.1 rfl⟩, sh := a1', tg := zeros_fn a2, an := zeros_fn a3, po := ⟨_, pool_fn a4, ?ed⟩, rw := fun r hr => zeros_fn (a5 r hr).1, th := ⟨_, cur_fn hg hcs, ?th⟩, gd := fun t ht => zeros_fn (hG t ht).1, gg := fun t ht => zeros_fn (hG t ht).2.1, ow := fun k hk => .inl ⟨⟨(hown k hk).1, (hown k hk).2.1⟩, hownx k hk⟩, lt := ?lt }⟩
    case lt =>
      rintro k (hk | hk)
      · exact hk.1.2
      · have := hGl k hk; omega
    case ok =>
      have hlt : ∀ r s, r < 2 * n + 1 → s < 2 * n + 1 → bW r = bW s → r = s := by
        intro r s hr hs q
        rcases Nat.lt_trichotomy r s with c | c | c
        · have := a6 r s c hs; omega
        · exact c
        · have := a6 s r c hr; omega
      refine { n1 := hn, n64 := h64, c64 := hc, gn := hnc, tw := fun r hr => ?_, ww := hlt, dg := fun t u ht hu => ?_, dd := fun t u ht hu q => ?_, gg := fun t u ht hu q => ?_ }
      · have := (a5 r hr).2.1
        show bTg ≠ bW r
        omega
      · show gD t ≠ gG u
        rcases Nat.lt_trichotomy t u with c | c | c
        · exact (hD t u c hu).2.1
        · subst c; exact (hG t ht).2.2.2.2.2.2
        · exact Ne.symm (hD u t c ht).2.2.1
      · rcases Nat.lt_trichotomy t u with c | c | c
        · exact absurd q (hD t u c hu).1
        · exact c
        · exact absurd q.symm (hD u t c ht).1
      · rcases Nat.lt_trichotomy t u with c | c | c
        · exact absurd q (hD t u c hu).2.2.2
        · exact c
        · exact absurd q.symm (hD u t c ht).2.2.2
    case ed =>
      intro r hr v' f' hq
      by_cases c : r = 0
      · subst c
        simp only [M.E0, if_true, Option.some.injEq, Prod.mk.injEq] at hq
        obtain ⟨rfl, rfl⟩ := hq
        exact ⟨bE, [.pointer none] ++ [.pointer (some ⟨bB, 0, none⟩)], [.pointer none] ++ [.pointer (some ⟨bB, 0, none⟩)], by simp, iE, a8', hV, hV⟩
      · simp [M.E0, c] at hq
    case th =>
      intro t ht
      refine ⟨[.pointer none] ++ [.pointer none], [.pointer none] ++ [.pointer none], .slice none 0 0, ?_, ⟨rfl, fun u hu => nomatch hu⟩, ⟨rfl, fun u hu => nomatch hu⟩, .inl ⟨rfl, rfl⟩⟩
      intro j v' hv
      have hj : j < 28 := by
        have := (List.getElem?_eq_some_iff.mp hv).1
        simpa [thCells] using this
      rw [thNew_cells L t] at hv
      show (cur.toList[t * 28 + j]?).getD (.int .i64 0) = v'
      rw [← thAll_get bS n (cap : Int) gD gG n t j ht hj, ← htk, List.getElem?_take] at hv
      split at hv
      · rw [hv]; rfl
      · cases hv
theorem Both.new2 {w0 w : World} {x : Nat} {xl : List Value} (hx : Row w x 74 xl) {n cap : Nat} {oT : TypeId} {ov : Value} {b : Nat} (h : EngNew w0 n (cap : Int) oT ov b w) (hn : 1 ≤ n) (h64 : n ≤ 64) (hc : cap ≤ 64) {G : Nat → Prop} (hGl : ∀ k, G k → k < w0.heap.size) (hz : ∀ I : Nat → Prop, (∀ k, G k → I k) → R.rep I w P.first [.pointer none]) :
    ∃ L : Lt, L.n = n ∧ L.cap = cap ∧ L.oT = oT ∧ L.ov = ov ∧ L.bE = b ∧ Both R P L (fun k => ((w0.heap.size ≤ k ∧ k < w.heap.size) ∧ k ≠ x) ∨ G k) (M.E0 P ⟨P.first, []⟩) M.Y0 w := by
  obtain ⟨L, e1, e2, e3, e4, e5, r⟩ := RE.new2 (P := P) hx h hn h64 hc hGl hz
  exact ⟨L, e1, e2, e3, e4, e5, r, M.inv_new P L.n L.cap _, M.bnd_new P L.n _, M.szs_new _ P L.n _⟩
end
end Go.Proofs.YtefjhnhdagolhaaGreat.tree
namespace Go.Proofs.YtefjhnhdagolhaaGreat.tree
open Go.RowKit
open M (upd upd_same upd_other Ver ETh ESt RSt RTh wds statusAt valueAt marks tagged num YI)
section
variable {σ : Type} {P : M.Plain σ} {tell : σ → List Int} {sz : σ → Nat} {HM : World → Value → σ → Prop}
theorem playable {kind : Int} {n cap : Nat} {st co : Int} {nx ou : List Int} {vn vo : Value} {Mk : World → Nat → World → Prop} {oT : TypeId} {fA fT : Nat}
    (hMk : ∀ w b w', Mk w b w' → ∃ (w1 : World) (G : Nat → Prop) (R : SR σ) (ov rv rt : Value), Below w.heap.size w w1 ∧ ObjNew w1 n (cap : Int) oT ov b w' ∧ (∀ k, G k → w.heap.size ≤ k ∧ k < w1.heap.size) ∧ (∀ I : Nat → Prop, (∀ k, G k → I k) → R.rep I w' P.first [.pointer none]) ∧ (∀ L : Lt, L.oT = oT → L.ov = ov → ApOk R P L fA rv) ∧ ∀ L : Lt, L.oT = oT → L.ov = ov → TeOk R L tell fT rt)
    (hD : ∀ D : DL, D.kind = kind → D.st = st → D.co = co → D.nx = nx → D.ou = ou → ((kind ≠ 5 ∧ D.vn = vn ∧ D.vo = vo) ∨ (kind = 5 ∧ ∃ g1 g2, D.vn = .slice (some ⟨g1, 0, none⟩) nx.length nx.length ∧ D.vo = .slice (some ⟨g2, 0, none⟩) ou.length ou.length)) → DS P tell sz HM AuT D) (hF : ∀ D : DL, D.n ≤ 64 → TellFits P tell D) (hn : 1 ≤ n) (h64 : n ≤ 64) (hc : cap ≤ 64) : Playable kind n (cap : Int) st co nx ou vn vo Mk := by
  intro w e w' hM
  obtain ⟨base, bX, bY, tE, bN, w01, w1, w03, w4, wr, rfl, hRef, hb01, hMd, hz1, hbase, -, hK, hz4, hb1, hrL, hb', hbw⟩ := hM
  obtain ⟨wg, G, R, ov, rv, rt, hbg, ⟨bN', hr', hE, hge⟩, hG, hz, hA, hT⟩ := hMk _ _ _ hMd
  obtain ⟨L, e1, e2, e3, e4, rfl, hB⟩ := Both.new2 (P := P) hr' hE hn h64 hc (fun k hk => (hG k hk).2) hz
  obtain ⟨-, -, -, -, -, -, hb2⟩ := hRef.reads hn
  obtain ⟨D, SD, rfl, d2, d3, d4, d5, d6, d7, d8, dv, hSD, hDW⟩ := DW.new P hRef hn h64 hc
  have xo := xok (hA L e3 e4) (hT L e3 e4) D (d2.trans e1.symm) (d3.trans e2.symm)
  have ds : DS P tell sz HM AuT D := hD D d4 d5 d6 d7 d8 dv
  have z1 := hb01.size
  have z2 := hb2.size
  have z3 := hbg.size
  have z5 := hE.below.1.size
  have hS : ∀ k, ((wg.heap.size ≤ k ∧ k < w4.heap.size) ∧ k ≠ bX) ∨ G k → w03.heap.size ≤ k ∧ k < w4.heap.size ∧ k ≠ bX := by
    rintro k (c | c)
    · exact ⟨by omega, c.1.2, c.2⟩
    · have := hG k c
      exact ⟨by omega, by omega, by omega⟩
  have hX := hB.stay (w1 := wr) (S' := fun k => ((wg.heap.size ≤ k ∧ k < w4.heap.size) ∧ k ≠ bX) ∨ G k) (fun k hk => hK k (by have := hS k hk; omega) (hS k hk).2.1) (fun _ q => q) (fun k hk => by have := hS k hk; omega)
  have hbb : base ≤ bX := by omega
  have law := Law.new (A := ⟨wr.heap.size, bX, 195, L.bE⟩) (B := w.heap.size) xo hDW (fun k hk => by have := hSD k hk; omega) ⟨_, hX⟩ (fun k hk => by have := hS k hk; exact ⟨by omega, by omega, this.2.2⟩) (by show _ ≤ bX; omega) (by omega) hb1 hb' (hK.row hr' hbb) rfl hrL
  exact ⟨_, _, rfl, goer (A := ⟨wr.heap.size, bX, 195, L.bE⟩) xo ds (hF D (by omega)) w, _, _, law, Lim.new D, fun q hq => hq.1, Below.next hbw hb' hbw.size⟩
end
end Go.Proofs.YtefjhnhdagolhaaGreat.tree
