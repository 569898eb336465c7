import Derived.Test.YtefjhnhdagolhaaGreatQ02
import Derived.Test.YtefjhnhdagolhaaGreatQ01
import Derived.Test.YtefjhnhdagolhaaGreatQ03
import Derived.Test.YtefjhnhdagolhaaGreatQ11
import Derived.Test.YtefjhnhdagolhaaGreatQ10
namespace Go.Proofs.YtefjhnhdagolhaaGreat
open Go.RowKit
open M (upd upd_same upd_other RSt RTh)
def Grow (S : Nat → Prop) (w w' : World) : Nat → Prop := fun k => S k ∨ (w.heap.size ≤ k ∧ k < w'.heap.size)
theorem owns_block {w w' : World} {base : Nat} {e : TypeId} {size : Nat} {v : Value} {n : Nat} {xs : List Value} (h : w.ownsRow base e size v n xs) (hb : ∀ k, v.ownBlock = some k → w'.heap[k]? = w.heap[k]?) : w'.ownsRow base e size v n xs := by
  refine ⟨h.1, ?_⟩
  rcases h.2 with h2 | ⟨g, cap, cur, rfl, h3, h4, h5⟩
  · exact .inl h2
  · exact .inr ⟨g, cap, cur, rfl, h3, by rw [hb g rfl]; exact h4, h5⟩
structure DL where
  b : Nat
  n : Nat
  cap : Nat
  g : Nat
  gc : Nat
  bT : Nat → Nat
  bF : Nat → Nat
  kind : Int
  st : Int
  co : Int
  vn : Value
  vo : Value
  nx : List Int
  ou : List Int
def dth (x : RTh) (bF n : Nat) (vo vp : Value) : List Value :=
  [vo, .int .i64 (x.ended : Int), .int .i64 (x.flips : Int), .int .i64 (x.part : Int), .int .i64 (x.left : Int), .int .i64 (x.backoff : Int), .int .i64 (x.tries : Int), .int .i64 (x.stamp : Int), .slice (some ⟨bF, 0, none⟩) n n, vp]
section
variable {L : DL} {S S' : Nat → Prop} {Y : RSt} {w w' : World} {lab lab' : Nat → Nat} {vo vp : Nat → Value} {vb : Value} {bv : Nat → Value} {t : Nat}
theorem ptr_block {b o : Nat} {v : Value} (h : w.cell? ⟨b, o, none⟩ = some v) (e : w'.heap[b]? = w.heap[b]?) : w'.cell? ⟨b, o, none⟩ = some v := by rw [World.cell?_of_block (w := w) e]; exact h
end
section
variable {L : DL} {S S' : Nat → Prop} {Y Y' Y'' : RSt} {w w' w1 w2 : World}
theorem Fr.grow {own own' : Nat → Prop} (h : Fr own w w1) (h' : Fr own' w1 w2) (hs : ∀ k, own' k → own k ∨ w.heap.size ≤ k) : Fr own w w2 :=
  ⟨h'.os.trans h.os, h'.tape.trans h.tape, h'.output.trans h.output, Nat.le_trans h.size h'.size, fun k hk ho => (h'.block k (Nat.lt_of_lt_of_le hk h.size) (fun c => by rcases hs k c with q | q; exact ho q; omega)).trans (h.block k hk ho)⟩
end
end Go.Proofs.YtefjhnhdagolhaaGreat
namespace Go.Proofs.YtefjhnhdagolhaaGreat
open Go.RowKit
open M (upd upd_same upd_other RSt RTh)
attribute [local go_sem ↓] Go.wp_at_zero Go.wp_at_succ
section
variable {L : DL} {S : Nat → Prop} {Y : RSt} {w : World} {lab : Nat → Nat} {vo vp : Nat → Value} {vb : Value} {bv : Nat → Value} {t : Nat}
theorem Fr.here {own : Nat → Prop} {w w' : World} (h : Fr own w w') {b : Nat} (hb : own b) (o : Nat) (v : Value) : Fr own w (w'.setCell ⟨b, o, none⟩ v) := h.trans (Fr.set w' hb v)
end
end Go.Proofs.YtefjhnhdagolhaaGreat
namespace Go.Proofs.YtefjhnhdagolhaaGreat
open Go.RowKit
open M (upd upd_same upd_other RSt RTh cnt)
attribute [local go_sem ↓] Go.wp_at_zero Go.wp_at_succ
theorem owns_at {w : World} {base : Nat} {e : TypeId} {v : Value} {n : Nat} {xs : List Value} (h : w.ownsRow base e 1 v n xs) {i : Nat} {u : Value} (hi : xs[i]? = some u) : ∃ g c, v = .slice (some ⟨g, 0, none⟩) n c ∧ w.cell? ⟨g, i, none⟩ = some u := by
  have hl : i < xs.length := by
    rcases Nat.lt_or_ge i xs.length with q | q
    · exact q
    · rw [List.getElem?_eq_none q] at hi; cases hi
  rcases h.2 with ⟨-, e⟩ | ⟨g, cap, cur, rfl, h3, h4, h5⟩
  · have := h.1; omega
  · refine ⟨g, cap, rfl, ?_⟩
    have := h.cells (g := g) rfl i u hi
    rwa [addr_add, Nat.zero_add] at this
theorem owns_form {w : World} {base : Nat} {e : TypeId} {size : Nat} {v : Value} {n : Nat} {xs : List Value} (h : w.ownsRow base e size v n xs) : (∃ a c, v = .slice a n c) ∧ n ≤ maxLen := by
  rcases h.2 with ⟨rfl, rfl⟩ | ⟨g, cap, cur, rfl, h3, h4, h5, h6, -⟩
  · exact ⟨⟨none, 0, rfl⟩, Nat.zero_le _⟩
  · exact ⟨⟨_, _, rfl⟩, Nat.le_trans h5 h6⟩
section
variable {L : DL} {S : Nat → Prop} {Y : RSt} {w : World} {lab : Nat → Nat} {vo vp : Nat → Value} {vb : Value} {bv : Nat → Value} {t : Nat}
end
end Go.Proofs.YtefjhnhdagolhaaGreat
namespace Go.Proofs.YtefjhnhdagolhaaGreat
open Go.RowKit
open M (upd upd_same upd_other RSt RTh cnt)
attribute [local go_sem ↓] Go.wp_at_zero Go.wp_at_succ
section
variable {L : DL} {S : Nat → Prop} {Y : RSt} {w : World} {lab : Nat → Nat} {vo vp : Nat → Value} {vb : Value} {bv : Nat → Value} {t : Nat}
theorem keepG9 {w w4 : World} {row : Option Nat} {E N i j : Nat} {q : Value} (hg : w.grownBy w4 row) (h : w.cell? ⟨N, i, none⟩ = some q ∧ w.there E j 1) (hE : some E ≠ row) (hN : some N ≠ row) :
    w4.cell? ⟨N, i, none⟩ = some q ∧ w4.there E j 1 := by
  refine ⟨hg.cell h.1 hN, fun k hk => ?_⟩
  obtain ⟨h1, h2⟩ := h.2 k hk
  obtain ⟨u, hu⟩ := Option.isSome_iff_exists.1 h1
  have hlt := World.block_lt_of_cell? w _ hu
  rw [hg.cell_far ⟨E, j + k, none⟩ hlt hE, hg.frozen_far ⟨E, j + k, none⟩ hlt hE]
  exact ⟨h1, h2⟩
end
end Go.Proofs.YtefjhnhdagolhaaGreat
namespace Go.Proofs.YtefjhnhdagolhaaGreat
open Go.RowKit
open M (upd upd_same upd_other RSt RTh cnt)
attribute [local go_sem ↓] Go.wp_at_zero Go.wp_at_succ
section
variable {L : DL} {S : Nat → Prop} {Y : RSt} {w : World} {lab : Nat → Nat} {vo vp : Nat → Value} {vb : Value} {bv : Nat → Value} {t : Nat}
def endW (b : Bool) : Int := if b = true then 2 else 1
end
end Go.Proofs.YtefjhnhdagolhaaGreat
namespace Go.Proofs.YtefjhnhdagolhaaGreat
open Go.RowKit
open M (upd upd_same upd_other RSt RTh cnt marks tagged num)
attribute [local go_sem ↓] Go.wp_at_zero Go.wp_at_succ
theorem info_mark3 : (Tryz.prog.info? 81).map (fun i => (i.zero, i.size, i.bytes)) = some (some (.agg #[.int .i64 0, .int .i64 0, .int .i64 0]), 3, 24) := by kernel_rfl
def markcs (l : List M.Mark) : List Value := l.flatMap fun m => [.int .i64 (m.b : Int), .int .i64 (m.t : Int), .int .i64 (m.s : Int)]
theorem markcs_append (l m : List M.Mark) : markcs (l ++ m) = markcs l ++ markcs m := by simp [markcs]
theorem markcs_cons (a : M.Mark) (l : List M.Mark) : markcs (a :: l) = .int .i64 (a.b : Int) :: .int .i64 (a.t : Int) :: .int .i64 (a.s : Int) :: markcs l := by simp [markcs]
theorem markcs_get (l : List M.Mark) (i : Nat) (hi : i < l.length) : (markcs l)[i * 3]? = some (.int .i64 ((l[i]).b : Int)) ∧ (markcs l)[i * 3 + 1]? = some (.int .i64 ((l[i]).t : Int)) ∧ (markcs l)[i * 3 + 2]? = some (.int .i64 ((l[i]).s : Int)) := by
  induction l generalizing i with
  | nil => exact absurd hi (Nat.not_lt_zero _)
  | cons a l ih =>
    cases i with
    | zero => exact ⟨rfl, rfl, rfl⟩
    | succ i =>
      have := ih i (by simpa using hi)
      rw [markcs_cons, show (i + 1) * 3 = i * 3 + 1 + 1 + 1 by omega, show i * 3 + 1 + 1 + 1 + 1 = i * 3 + 1 + 1 + 1 + 1 from rfl, show i * 3 + 1 + 1 + 1 + 2 = i * 3 + 2 + 1 + 1 + 1 by omega]
      simp only [List.getElem?_cons_succ, List.getElem_cons_succ]
      exact this
section
variable {L : DL} {S : Nat → Prop} {Y : RSt} {w : World} {lab : Nat → Nat} {vo vp : Nat → Value} {vb : Value} {bv : Nat → Value} {t : Nat}
theorem owns_get {w : World} {base : Nat} {e : TypeId} {size : Nat} {v : Value} {n : Nat} {xs : List Value} (h : w.ownsRow base e size v n xs) {i : Nat} {u : Value} (hi : xs[i]? = some u) : ∃ g c, v = .slice (some ⟨g, 0, none⟩) n c ∧ w.cell? ⟨g, i, none⟩ = some u := by
  have hl : i < xs.length := by
    rcases Nat.lt_or_ge i xs.length with q | q
    · exact q
    · rw [List.getElem?_eq_none q] at hi; cases hi
  rcases h.2 with ⟨-, e⟩ | ⟨g, cap, cur, rfl, h3, h4, h5⟩
  · have := h.1; rw [e] at this; omega
  · refine ⟨g, cap, rfl, ?_⟩
    have := h.cells (g := g) rfl i u hi
    rwa [addr_add, Nat.zero_add] at this
end
end Go.Proofs.YtefjhnhdagolhaaGreat
namespace Go.Proofs.YtefjhnhdagolhaaGreat
open Go.RowKit
open M (upd upd_same upd_other RSt RTh cnt marks tagged num)
attribute [local go_sem ↓] Go.wp_at_zero Go.wp_at_succ
theorem order_len (Y : RSt) : Y.order.length = Y.bs.flatten.length := by
  unfold M.RSt.order
  rw [M.marks_len]
  have := congrArg List.length Y.all_snd
  simpa using this
section
variable {σ : Type}
def rpAt (P : M.Plain σ) (Y : RSt) (u : Nat) : M.Rp σ := (M.Rp.new P).run P (fun k i => ((Y.th k).ops).getD i ⟨0, 0, 0⟩) (Y.bs.flatten.take u)
theorem rpAt_succ (P : M.Plain σ) (Y : RSt) (u : Nat) (hu : u < Y.bs.flatten.length) : rpAt P Y (u + 1) = (rpAt P Y u).next P (fun k i => ((Y.th k).ops).getD i ⟨0, 0, 0⟩) Y.bs.flatten[u] := by
  unfold rpAt
  rw [List.take_succ_eq_append_getElem hu, M.run_snoc]
theorem rpAt_c (P : M.Plain σ) (Y : RSt) (u k : Nat) : (rpAt P Y u).c k = (Y.bs.flatten.take u).count k := by
  unfold rpAt
  rw [M.run_c]
  simp [M.Rp.new]
theorem rpAt_all (P : M.Plain σ) (Y : RSt) : rpAt P Y Y.bs.flatten.length = M.replay P (fun k i => ((Y.th k).ops).getD i ⟨0, 0, 0⟩) Y.bs := by
  unfold rpAt M.replay
  rw [List.take_length]
end
section
variable {σ : Type} {L : DL} {P : M.Plain σ} {tell : σ → List Int} {sz : σ → Nat} {HM : World → Value → σ → Prop} {Au : Nat → World → Prop} {Y : RSt} {w w1 w2 : World} {b8 : Nat} {vl vh : Value} {s : σ} {an : M.Ans}
end
end Go.Proofs.YtefjhnhdagolhaaGreat
namespace Go.Proofs.YtefjhnhdagolhaaGreat
open Go.RowKit
open M (upd upd_same upd_other RSt RTh cnt marks tagged num YI)
attribute [local go_sem ↓] Go.wp_at_zero Go.wp_at_succ
def Lim (L : DL) (K : Nat) (Y : RSt) : Prop := (∀ t, t < L.n → (Y.th t).ops.length ≤ K) ∧ Y.bs.length ≤ K
section
variable {σ : Type} {L : DL} {P : M.Plain σ} {tell : σ → List Int} {sz : σ → Nat} {HM : World → Value → σ → Prop} {Au : Nat → World → Prop} {S : Nat → Prop} {Y Y' Y'' : RSt} {w w1 w2 : World} {t K : Nat}
def ansD (P : M.Plain σ) (Y : RSt) (t : Nat) : M.Ans := (M.replay P (fun k i => ((Y.th k).ops).getD i ⟨0, 0, 0⟩) Y.bs).an t
def ansW (P : M.Plain σ) (Y : RSt) (t : Nat) : Value := if (Y.th t).part ≠ 0 then .tuple #[.agg #[.int .i64 0, .int .i64 0], .int .i64 4] else if (Y.th t).ended = 0 then .tuple #[.agg #[.int .i64 0, .int .i64 0], .int .i64 5] else .tuple #[.agg #[.int .i64 (ansD P Y t).s, .int .i64 (ansD P Y t).v], .int .i64 0]
end
end Go.Proofs.YtefjhnhdagolhaaGreat
namespace Go.Proofs.YtefjhnhdagolhaaGreat
open Go.RowKit
open M (upd upd_same upd_other RSt RTh cnt marks tagged num YI)
attribute [local go_sem ↓] Go.wp_at_zero Go.wp_at_succ
theorem Lim.mono {L : DL} {K K' : Nat} {Y : RSt} (h : Lim L K Y) (hk : K ≤ K') : Lim L K' Y := ⟨fun t ht => Nat.le_trans (h.1 t ht) hk, Nat.le_trans h.2 hk⟩
theorem Lim.step {L : DL} {K : Nat} {Y : RSt} (h : Lim L K Y) (t : Nat) : Lim L (K + 1) (M.rstep L.n L.cap Y t).1 :=
  ⟨fun k hk => by rw [M.rstep_ops]; exact Nat.le_succ_of_le (h.1 k hk), Nat.le_trans (M.rstep_bs _ _ _ _).1 (Nat.succ_le_succ h.2)⟩
theorem Lim.begin {L : DL} {K : Nat} {Y : RSt} (h : Lim L K Y) (t : Nat) (o : M.Op) : Lim L (K + 1) (M.rbegin Y t o) := by
  refine ⟨fun k hk => ?_, Nat.le_succ_of_le h.2⟩
  unfold M.rbegin M.RSt.set
  by_cases e : k = t
  · subst e
    simp only [upd_same, List.length_append, List.length_singleton]
    exact Nat.succ_le_succ (h.1 k hk)
  · simp only [upd_other _ _ e]
    exact Nat.le_succ_of_le (h.1 k hk)
structure Going {σ : Type} (P : M.Plain σ) (L : DL) (t K : Nat) (Y' : RSt) (g : Nat) (Y : RSt) : Prop where
  yi : YI P L.n L.cap Y
  fin : M.fin L.n L.cap t Y = Y'
  rank : (Y.th t).rank L.n L.cap ≤ g
  gl : g ≤ 5000
  lim : Lim L (K + (5000 - g)) Y
  ops : (Y.th t).ops ≠ []
theorem Going.step {σ : Type} {P : M.Plain σ} {L : DL} {t K g : Nat} {Y Y' : RSt} (h : Going P L t K Y' g Y) (hn : 0 < L.n) (ht : t < L.n) (hp : (Y.th t).part ≠ 0) : 0 < g ∧ Going P L t K Y' (g - 1) (M.rstep L.n L.cap Y t).1 := by
  have h1 := M.rank_step hn (h.yi.ok.th t ht) hp
  have h2 := h.rank
  have h3 := h.gl
  refine ⟨by omega, h.yi.step hn ht hp, (M.fin_step hn ht h.yi (by omega) hp).trans h.fin, by omega, by omega, (h.lim.step t).mono (by omega), by rw [M.rstep_ops]; exact h.ops⟩
theorem Going.end {σ : Type} {P : M.Plain σ} {L : DL} {t K g : Nat} {Y Y' : RSt} (h : Going P L t K Y' g Y) (hp : (Y.th t).part = 0) : Y = Y' := (M.fin_idle hp).symm.trans h.fin
theorem Going.begin {σ : Type} {P : M.Plain σ} {L : DL} {t K : Nat} {Y : RSt} (hy : YI P L.n L.cap Y) (h64 : L.n ≤ 64) (hc : L.cap ≤ 64) (ht : t < L.n) (hp : (Y.th t).part = 0) (hK : Lim L K Y) (o : M.Op) : Going P L t (K + 1) (M.fin L.n L.cap t (M.rbegin Y t o)) 5000 (M.rbegin Y t o) := by
  refine ⟨hy.begin ht hp o, rfl, ?_, Nat.le_refl _, (hK.begin t o).mono (by omega), ?_⟩
  · rw [M.rank_begin]; have := M.bound_le h64 hc; omega
  · unfold M.rbegin M.RSt.set
    simp [upd_same]
section
variable {σ : Type} {L : DL} {P : M.Plain σ} {tell : σ → List Int} {sz : σ → Nat} {HM : World → Value → σ → Prop} {Au : Nat → World → Prop} {S : Nat → Prop} {Y : RSt} {w : World} {t K : Nat}
def doW (P : M.Plain σ) (n cap : Nat) (Y : RSt) (t : Nat) (o : M.Op) : Value := if (Y.th t).part ≠ 0 then .tuple #[.agg #[.int .i64 0, .int .i64 0], .int .i64 4] else .tuple #[.agg #[.int .i64 (ansD P (M.fin n cap t (M.rbegin Y t o)) t).s, .int .i64 (ansD P (M.fin n cap t (M.rbegin Y t o)) t).v], .int .i64 0]
def doY (n cap : Nat) (Y : RSt) (t : Nat) (o : M.Op) : RSt := if (Y.th t).part ≠ 0 then Y else M.fin n cap t (M.rbegin Y t o)
end
end Go.Proofs.YtefjhnhdagolhaaGreat
