import Derived.Test.YtefjhnhdagolhaaGreatQ11
import Derived.Test.YtefjhnhdagolhaaGreatQ02
import Derived.Test.YtefjhnhdagolhaaGreatQ03
import Derived.Test.YtefjhnhdagolhaaGreatQ07
import Derived.Test.YtefjhnhdagolhaaGreatQ00
import Derived.Test.YtefjhnhdagolhaaGreatProg
import Derived.Test.YtefjhnhdagolhaaGreatQ06
import Derived.Test.YtefjhnhdagolhaaGreatQ12
import Derived.Deep.DeepCutAuto
namespace Go.Proofs.YtefjhnhdagolhaaGreat
open Go.RowKit
attribute [local go_sem ↓] Go.wp_at_zero Go.wp_at_succ
theorem table_len {st co : Int} {nx ou : List Int} (h : tableOk st co nx ou = true) : 0 < nx.length ∧ 0 < ou.length := by
  simp only [tableOk, Bool.and_eq_true, decide_eq_true_eq] at h
  obtain ⟨⟨⟨⟨⟨⟨a, b⟩, c⟩, d⟩, e⟩, f⟩, -⟩ := h
  have : 0 < st * co := Int.mul_pos (by omega) (by omega)
  omega
theorem Row.apart {w : World} {g g' : Nat} {t t' : TypeId} {xs xs' : List Value} (h : Row w g t xs) (h' : Row w g' t' xs') (ne : t ≠ t') : g ≠ g' := by
  rintro rfl
  have e := (show w.heap[g]? = _ from h).symm.trans (show w.heap[g]? = _ from h')
  simp at e
  exact ne e.2
end Go.Proofs.YtefjhnhdagolhaaGreat
namespace Go.Proofs.YtefjhnhdagolhaaGreat
open Go.RowKit
attribute [local go_sem ↓] Go.wp_at_zero Go.wp_at_succ
theorem sl_own {w : World} {base : Nat} {e : TypeId} {v : Value} {n : Nat} {xs : List Value} (h : w.ownsRow base e 1 v n xs) : Sl w v xs := by
  have hl : xs.length = n := by simpa using h.1
  rcases h.2 with ⟨rfl, rfl⟩ | ⟨g, cap, cur, rfl, -, hg, hc, hm, hcs, htk⟩
  · obtain rfl : xs = [] := List.eq_nil_of_length_eq_zero hl
    exact Sl.nil w
  · refine ⟨some ⟨g, 0, none⟩, cap, by rw [hl], by rw [hl]; exact hc, hm, .inr ⟨g, 0, rfl, fun j x hj => ?_⟩⟩
    have := h.cells (g := g) rfl j x hj
    rw [show (⟨g, 0, none⟩ : Addr).add j = ⟨g, j, none⟩ by by_cases q : j = 0 <;> simp [Addr.add, q]] at this
    simpa using this
end Go.Proofs.YtefjhnhdagolhaaGreat
namespace Go.Proofs.YtefjhnhdagolhaaGreat
open Go.RowKit
open M (upd upd_same upd_other RSt RTh cnt marks tagged num YI)
abbrev inR (n : Nat) (x : Int) : Prop := 0 ≤ x ∧ x < n
def bndJ (n cap : Nat) : Int := 4 + 2 * ((cap : Int) + 3 + 2 * (((n : Int) + 15) / 16 + 2 * (n : Int) + 1) + ((n : Int) + 15) / 16 + 3 * (n : Int)) + 3
def beE (n : Nat) (Y : RSt) (x : Int) : Int := if inR n x then (if (Y.th x.toNat).part = 0 then 0 else 4) else 3
def beY (n : Nat) (Y : RSt) (x : Int) (o : M.Op) : RSt := if inR n x then (if (Y.th x.toNat).part = 0 then M.rbegin Y x.toNat o else Y) else Y
def stA (n cap : Nat) (Y : RSt) (x : Int) : Int := if inR n x then (if (Y.th x.toNat).part = 0 then 0 else endW (M.rstep n cap Y x.toNat).2) else 0
def stE (n : Nat) (Y : RSt) (x : Int) : Int := if inR n x then (if (Y.th x.toNat).part = 0 then 5 else 0) else 3
def stY (n cap : Nat) (Y : RSt) (x : Int) : RSt := if inR n x then (if (Y.th x.toNat).part = 0 then Y else (M.rstep n cap Y x.toNat).1) else Y
section
variable {σ : Type}
def anT (P : M.Plain σ) (n : Nat) (Y : RSt) (x : Int) : Int × Int × Int := if inR n x then (if (Y.th x.toNat).part ≠ 0 then (0, 0, 4) else if (Y.th x.toNat).ended = 0 then (0, 0, 5) else ((ansD P Y x.toNat).s, (ansD P Y x.toNat).v, 0)) else (0, 0, 3)
def doT (P : M.Plain σ) (n cap : Nat) (Y : RSt) (x : Int) (o : M.Op) : Int × Int × Int := if inR n x then (if (Y.th x.toNat).part ≠ 0 then (0, 0, 4) else ((ansD P (M.fin n cap x.toNat (M.rbegin Y x.toNat o)) x.toNat).s, (ansD P (M.fin n cap x.toNat (M.rbegin Y x.toNat o)) x.toNat).v, 0)) else (0, 0, 3)
def doZ (n cap : Nat) (Y : RSt) (x : Int) (o : M.Op) : RSt := if inR n x then doY n cap Y x.toNat o else Y
def tri (a : Int × Int × Int) : Value := .tuple #[.agg #[.int .i64 a.1, .int .i64 a.2.1], .int .i64 a.2.2]
structure XGo (X : (Nat → Prop) → RSt → World → Prop) (S : Nat → Prop) (w : World) (Y' : RSt) (w' : World) : Prop where
  x : X (Grow S w w') Y' w'
  fr : Fr S w w'
structure XOk (P : M.Plain σ) (tell : σ → List Int) (D : DL) (tE : TypeId) (bN : Nat) (X : (Nat → Prop) → RSt → World → Prop) (fBe fSt fAn fDo fOr fTe fBo : Nat) : Prop where
  mBe : ∀ W, (method 553 tE (.pointer (some ⟨bN, 0, none⟩)) "Begin").run Tryz.prog W = .ok (fBe, .pointer (some ⟨bN, 0, none⟩)) W
  mSt : ∀ W, (method 553 tE (.pointer (some ⟨bN, 0, none⟩)) "Step").run Tryz.prog W = .ok (fSt, .pointer (some ⟨bN, 0, none⟩)) W
  mAn : ∀ W, (method 553 tE (.pointer (some ⟨bN, 0, none⟩)) "Answer").run Tryz.prog W = .ok (fAn, .pointer (some ⟨bN, 0, none⟩)) W
  mDo : ∀ W, (method 553 tE (.pointer (some ⟨bN, 0, none⟩)) "Do").run Tryz.prog W = .ok (fDo, .pointer (some ⟨bN, 0, none⟩)) W
  mOr : ∀ W, (method 553 tE (.pointer (some ⟨bN, 0, none⟩)) "Order").run Tryz.prog W = .ok (fOr, .pointer (some ⟨bN, 0, none⟩)) W
  mTe : ∀ W, (method 553 tE (.pointer (some ⟨bN, 0, none⟩)) "State").run Tryz.prog W = .ok (fTe, .pointer (some ⟨bN, 0, none⟩)) W
  mBo : ∀ W, (method 553 tE (.pointer (some ⟨bN, 0, none⟩)) "Bound").run Tryz.prog W = .ok (fBo, .pointer (some ⟨bN, 0, none⟩)) W
  cBe : ∀ (a b : Value) (W : World), (callFunc fBe #[.pointer (some ⟨bN, 0, none⟩), a, b]).run Tryz.prog W = .ok (.enter fBe #[.pointer (some ⟨bN, 0, none⟩), a, b]) W
  cSt : ∀ (a : Value) (W : World), (callFunc fSt #[.pointer (some ⟨bN, 0, none⟩), a]).run Tryz.prog W = .ok (.enter fSt #[.pointer (some ⟨bN, 0, none⟩), a]) W
  cAn : ∀ (a : Value) (W : World), (callFunc fAn #[.pointer (some ⟨bN, 0, none⟩), a]).run Tryz.prog W = .ok (.enter fAn #[.pointer (some ⟨bN, 0, none⟩), a]) W
  cDo : ∀ (a b : Value) (W : World), (callFunc fDo #[.pointer (some ⟨bN, 0, none⟩), a, b]).run Tryz.prog W = .ok (.enter fDo #[.pointer (some ⟨bN, 0, none⟩), a, b]) W
  cOr : ∀ W, (callFunc fOr #[.pointer (some ⟨bN, 0, none⟩)]).run Tryz.prog W = .ok (.enter fOr #[.pointer (some ⟨bN, 0, none⟩)]) W
  cTe : ∀ W, (callFunc fTe #[.pointer (some ⟨bN, 0, none⟩)]).run Tryz.prog W = .ok (.enter fTe #[.pointer (some ⟨bN, 0, none⟩)]) W
  cBo : ∀ W, (callFunc fBo #[.pointer (some ⟨bN, 0, none⟩)]).run Tryz.prog W = .ok (.enter fBo #[.pointer (some ⟨bN, 0, none⟩)]) W
  lt : ∀ S Y w, X S Y w → ∀ k, S k → k < w.heap.size
  stay : ∀ S S' Y w w', X S Y w → (∀ k, S k → w'.heap[k]? = w.heap[k]?) → (∀ k, S k → S' k) → (∀ k, S' k → k < w'.heap.size) → X S' Y w'
  be : ∀ S Y w x (o : M.Op), X S Y w → Calls Tryz.prog fBe #[.pointer (some ⟨bN, 0, none⟩), .int .i64 x, .agg #[.int .i64 o.c, .int .i64 o.a, .int .i64 o.b]] w fun e w' => e = .returned (.int .i64 (beE D.n Y x)) ∧ XGo X S w (beY D.n Y x o) w'
  st : ∀ S Y w x, X S Y w → Lim D 1000000000 Y → Calls Tryz.prog fSt #[.pointer (some ⟨bN, 0, none⟩), .int .i64 x] w fun e w' => e = .returned (.tuple #[.int .i64 (stA D.n D.cap Y x), .int .i64 (stE D.n Y x)]) ∧ XGo X S w (stY D.n D.cap Y x) w'
  an : ∀ S Y w x, X S Y w → Calls Tryz.prog fAn #[.pointer (some ⟨bN, 0, none⟩), .int .i64 x] w fun e w' => e = .returned (tri (anT P D.n Y x)) ∧ Below w.heap.size w w'
  dd : ∀ S Y w x (o : M.Op) K, X S Y w → Lim D K Y → K + 6000 ≤ 1000000000 → Calls Tryz.prog fDo #[.pointer (some ⟨bN, 0, none⟩), .int .i64 x, .agg #[.int .i64 o.c, .int .i64 o.a, .int .i64 o.b]] w fun e w' => e = .returned (tri (doT P D.n D.cap Y x o)) ∧ XGo X S w (doZ D.n D.cap Y x o) w'
  or : ∀ S Y w, X S Y w → Lim D 1000000000 Y → Calls Tryz.prog fOr #[.pointer (some ⟨bN, 0, none⟩)] w fun e w' => ∃ v, e = .returned v ∧ w'.ownsRow w.heap.size 81 3 v Y.order.length (markcs Y.order) ∧ Below w.heap.size w w'
  te : ∀ S Y w, X S Y w → Lim D 1000000000 Y → Calls Tryz.prog fTe #[.pointer (some ⟨bN, 0, none⟩)] w fun e w' => ∃ v, e = .returned v ∧ w'.ownsRow w.heap.size 3 1 v (tell (rpAt P Y Y.order.length).st).length (ints (tell (rpAt P Y Y.order.length).st)) ∧ Below w.heap.size w w'
  bo : ∀ S Y w, X S Y w → Calls Tryz.prog fBo #[.pointer (some ⟨bN, 0, none⟩)] w fun e w' => e = .returned (.int .i64 (bndJ D.n D.cap)) ∧ Below w.heap.size w w'
end
end Go.Proofs.YtefjhnhdagolhaaGreat
namespace Go.Proofs.YtefjhnhdagolhaaGreat
open Go.RowKit
open M (upd upd_same upd_other RSt RTh cnt marks tagged num YI)
attribute [local go_sem ↓] Go.wp_at_zero Go.wp_at_succ
section
variable {σ : Type} {L : DL} {P : M.Plain σ} {tell : σ → List Int} {sz : σ → Nat} {HM : World → Value → σ → Prop} {S : Nat → Prop} {Y : RSt} {w : World} {K : Nat}
theorem nat_of {n : Nat} {x : Int} (h : inR n x) : ∃ t : Nat, x = t ∧ t < n ∧ x.toNat = t := ⟨x.toNat, by have := h.1; omega, by have := h.1; have := h.2; omega, rfl⟩
theorem ansW_tri (P : M.Plain σ) (Y : RSt) (t : Nat) : ansW P Y t = tri (if (Y.th t).part ≠ 0 then (0, 0, 4) else if (Y.th t).ended = 0 then (0, 0, 5) else ((ansD P Y t).s, (ansD P Y t).v, 0)) := by
  unfold ansW tri
  split
  · rfl
  · split <;> rfl
theorem doW_tri (P : M.Plain σ) (n cap : Nat) (Y : RSt) (t : Nat) (o : M.Op) : doW P n cap Y t o = tri (if (Y.th t).part ≠ 0 then (0, 0, 4) else ((ansD P (M.fin n cap t (M.rbegin Y t o)) t).s, (ansD P (M.fin n cap t (M.rbegin Y t o)) t).v, 0)) := by
  unfold doW tri
  split <;> rfl
end
end Go.Proofs.YtefjhnhdagolhaaGreat
namespace Go.Proofs.YtefjhnhdagolhaaGreat
open Go.RowKit
open M (upd upd_same upd_other RSt RTh cnt marks tagged num YI)
structure LL where
  bL : Nat
  bX : Nat
  tE : TypeId
  bN : Nat
section
variable {σ : Type}
variable {P : M.Plain σ} {tell : σ → List Int} {sz : σ → Nat} {HM : World → Value → σ → Prop} {D : DL} {X : (Nat → Prop) → RSt → World → Prop} {A : LL} {SX SD T : Nat → Prop} {lab : Nat → Nat} {ms is : Value} {es1 es2 : List (Value × Nat)} {YX YD Y' : RSt} {w w1 : World} {fBe fSt fAn fDo fOr fTe fBo : Nat}
end
end Go.Proofs.YtefjhnhdagolhaaGreat
namespace Go.Proofs.YtefjhnhdagolhaaGreat
open Go.RowKit
open M (upd upd_same upd_other RSt RTh cnt marks tagged num YI)
attribute [local go_sem ↓] Go.wp_at_zero Go.wp_at_succ
def pk (c n : Int) : Int := if c < 0 then (-(c + 1)) % n else c % n
theorem pk_range (c n : Int) (h : 0 < n) : 0 ≤ pk c n ∧ pk c n < n := by
  unfold pk
  split
  · exact ⟨Int.emod_nonneg _ (by omega), Int.emod_lt_of_pos _ h⟩
  · exact ⟨Int.emod_nonneg _ (by omega), Int.emod_lt_of_pos _ h⟩
set_option maxHeartbeats 800000 in
theorem pick_any (c n : Int) (w : World) (hn : 0 < n) (hn2 : n ≤ 1000) (h0 : -9223372036854775808 ≤ c) (h1 : c ≤ 9223372036854775807) :
    Calls Tryz.prog 45 #[.int .i64 c, .int .i64 n] w fun e w' => e = .returned (.int .i64 (pk c n)) ∧ w' = w := by
  have hn0 : ¬ n = 0 := by omega
  have hnm : ¬ n = -1 := by omega
  by_cases hc : c < 0
  · have e1 : pk c n = (-(c + 1)).tmod n := by unfold pk; rw [if_pos hc, Int.tmod_eq_emod_of_nonneg (by omega)]
    have hr := pk_range c n hn
    have HE := hide (show -((c + 1).tmod n) = pk c n by rw [e1, Int.neg_tmod])
    have hw1 : IntKind.i64.wrap (c + 1) = c + 1 := wrapi _ (by omega) (by omega)
    have hw2 : IntKind.i64.wrap (-(c + 1)) = -(c + 1) := wrapi _ (by omega) (by omega)
    rw [e1] at hr
    have hw3 : IntKind.i64.wrap ((-(c + 1)).tmod n) = (-(c + 1)).tmod n := wrapi _ (by omega) (by omega)
    clear e1
    go_enter Tryz.func45, Tryz.ntmps45
    go_wp2
    go_ret
    exact ⟨ret_int (by exact HE.out), rfl⟩
  · have e1 : pk c n = c.tmod n := by unfold pk; rw [if_neg hc, Int.tmod_eq_emod_of_nonneg (by omega)]
    have hr := pk_range c n hn
    rw [e1] at hr
    have HE := hide (show c % n = pk c n by unfold pk; rw [if_neg hc])
    have hw3 : IntKind.i64.wrap (c.tmod n) = c.tmod n := wrapi _ (by omega) (by omega)
    clear e1
    go_enter Tryz.func45, Tryz.ntmps45
    go_wp2
    go_ret
    exact ⟨ret_int (by exact HE.out), rfl⟩
section
variable {σ : Type} {P : M.Plain σ} {tell : σ → List Int} {sz : σ → Nat} {HM : World → Value → σ → Prop} {D : DL} {X : (Nat → Prop) → RSt → World → Prop} {A : LL} {Y : RSt} {w : World} {fBe fSt fAn fDo fOr fTe fBo Z K : Nat} {U : Nat → Prop}
end
end Go.Proofs.YtefjhnhdagolhaaGreat
namespace Go.Proofs.YtefjhnhdagolhaaGreat
open Go.RowKit
open M (upd upd_same upd_other RSt RTh cnt marks tagged num YI)
attribute [local go_sem ↓] Go.wp_at_zero Go.wp_at_succ
section
variable {σ : Type} {P : M.Plain σ} {tell : σ → List Int} {sz : σ → Nat} {HM : World → Value → σ → Prop} {D : DL} {X : (Nat → Prop) → RSt → World → Prop} {A : LL} {Y : RSt} {w : World} {fBe fSt fAn fDo fOr fTe fBo Z K : Nat} {U : Nat → Prop}
variable {SX SD T : Nat → Prop} {lab : Nat → Nat} {ms is : Value} {es1 es2 : List (Value × Nat)} {V W : World} {l0 v l : Value} {n : Nat} {ss : List Value}
theorem owns_sl {w : World} {base : Nat} {v : Value} {xs : List Int} (h : w.ownsRow base 3 1 v xs.length (ints xs)) : Sl w v (ints xs) := by
  rcases h.2 with ⟨rfl, e⟩ | ⟨g, cap, cur, rfl, h3, h4, h5, h6, h7, h8⟩
  · have : xs = [] := List.eq_nil_of_length_eq_zero e
    subst this
    exact Sl.nil w
  · refine ⟨some ⟨g, 0, none⟩, cap, by rw [length_ints], by rw [length_ints]; exact h5, h6, .inr ⟨g, 0, rfl, fun j x hj => ?_⟩⟩
    have := h.cells (g := g) rfl j x hj
    rwa [addr_add] at this
end
end Go.Proofs.YtefjhnhdagolhaaGreat
namespace Go.Proofs.YtefjhnhdagolhaaGreat
open Go.RowKit
open M (upd upd_same upd_other RSt RTh cnt marks tagged num YI)
attribute [local go_sem ↓] Go.wp_at_zero Go.wp_at_succ
section
variable {σ : Type} {P : M.Plain σ} {tell : σ → List Int} {sz : σ → Nat} {HM : World → Value → σ → Prop} {D : DL} {X : (Nat → Prop) → RSt → World → Prop} {A : LL} {Y : RSt} {w : World} {fBe fSt fAn fDo fOr fTe fBo Z K : Nat} {U : Nat → Prop}
theorem setCells_other {b : Nat} : ∀ (vs : List Value) (o : Nat) (W : World) (k : Nat), k ≠ b → (W.setCells b o vs).heap[k]? = W.heap[k]?
  | [], _, _, _, _ => rfl
  | v :: vs, o, W, k, hk => by
    show ((W.setCell ⟨b, o, none⟩ v).setCells b (o + 1) vs).heap[k]? = _
    rw [setCells_other vs (o + 1) _ k hk, Below.heap_setCell _ _ _ k hk]
end
end Go.Proofs.YtefjhnhdagolhaaGreat
namespace Go.Proofs.YtefjhnhdagolhaaGreat
open Go.RowKit
open M (upd upd_same upd_other RSt RTh cnt marks tagged num YI)
attribute [local go_sem ↓] Go.wp_at_zero Go.wp_at_succ
def I64 (x : Int) : Prop := -9223372036854775808 ≤ x ∧ x ≤ 9223372036854775807
structure ActV where
  k : Int
  t : Int
  n : Int
  c : Int
  a : Int
  b : Int
def ActV.val (x : ActV) : Value := .agg #[.int .i64 x.k, .int .i64 x.t, .int .i64 x.n, .int .i64 x.c, .int .i64 x.a, .int .i64 x.b]
section
variable {σ : Type} {P : M.Plain σ} {tell : σ → List Int} {sz : σ → Nat} {HM : World → Value → σ → Prop} {D : DL} {X : (Nat → Prop) → RSt → World → Prop} {A : LL} {Y : RSt} {w : World} {fBe fSt fAn fDo fOr fTe fBo Z K : Nat} {U : Nat → Prop}
end
end Go.Proofs.YtefjhnhdagolhaaGreat
namespace Go.Proofs.YtefjhnhdagolhaaGreat
open Go.RowKit
open M (upd upd_same upd_other RSt RTh cnt marks tagged num YI)
theorem Lim.new (D : DL) : Lim D 0 M.Y0 := ⟨fun _ _ => Nat.le_refl _, Nat.le_refl _⟩
end Go.Proofs.YtefjhnhdagolhaaGreat
namespace Go.Proofs.YtefjhnhdagolhaaGreat
open Go.RowKit
open M (upd upd_same upd_other RSt RTh cnt marks tagged num YI)
attribute [local go_sem ↓] Go.wp_at_zero Go.wp_at_succ
def Scr (w : World) (v : Value) (l : List ActV) : Prop :=
  ∃ a c, v = .slice a l.length c ∧ (0 < l.length → ∃ g off, a = some ⟨g, off, none⟩ ∧ ∀ (i : Nat) (x : ActV), l[i]? = some x →
    w.cell? ⟨g, off + i * 6, none⟩ = some (.int .i64 x.k) ∧ w.cell? ⟨g, off + i * 6 + 1, none⟩ = some (.int .i64 x.t) ∧ w.cell? ⟨g, off + i * 6 + 2, none⟩ = some (.int .i64 x.n) ∧ w.cell? ⟨g, off + i * 6 + 3, none⟩ = some (.int .i64 x.c) ∧ w.cell? ⟨g, off + i * 6 + 4, none⟩ = some (.int .i64 x.a) ∧ w.cell? ⟨g, off + i * 6 + 5, none⟩ = some (.int .i64 x.b))
theorem Scr.below {w w' : World} {v : Value} {l : List ActV} (h : Scr w v l) (hb : Below w.heap.size w w') : Scr w' v l := by
  obtain ⟨a, c, e, h⟩ := h
  refine ⟨a, c, e, fun h0 => ?_⟩
  obtain ⟨g, off, e2, h⟩ := h h0
  refine ⟨g, off, e2, fun i x hx => ?_⟩
  obtain ⟨c0, c1, c2, c3, c4, c5⟩ := h i x hx
  exact ⟨cell_later hb c0, cell_later hb c1, cell_later hb c2, cell_later hb c3, cell_later hb c4, cell_later hb c5⟩
section
variable {σ : Type} {P : M.Plain σ} {tell : σ → List Int} {sz : σ → Nat} {HM : World → Value → σ → Prop} {D : DL} {X : (Nat → Prop) → RSt → World → Prop} {A : LL} {Y : RSt} {w w0 : World} {fBe fSt fAn fDo fOr fTe fBo Z K : Nat} {U : Nat → Prop}
end
end Go.Proofs.YtefjhnhdagolhaaGreat
