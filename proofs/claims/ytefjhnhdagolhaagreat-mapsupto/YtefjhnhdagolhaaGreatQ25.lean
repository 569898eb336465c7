import Derived.Test.YtefjhnhdagolhaaGreatQ17
import Derived.Test.YtefjhnhdagolhaaGreatQ13
import Derived.Test.YtefjhnhdagolhaaGreatQ24
namespace Go.Proofs.YtefjhnhdagolhaaGreat
open Go.RowKit
attribute [local go_sem ↓] Go.wp_at_zero Go.wp_at_succ
theorem sl_own {w : World} {base : Nat} {e : TypeId} {v : Value} {n : Nat} {xs : List Value} (h : w.ownsRow base e 1 v n xs) : Sl w v xs := by
  have hl : xs.length = n := by simpa using h.1
  rcases h.2 with ⟨rfl, rfl⟩ | ⟨g, cap, cur, rfl, -, hg, hc, hm, hcs, htk⟩
  · obtain rfl : xs = [] := List.eq_nil_of_length_eq_zero hl
    exact Sl.nil w
  · refine ⟨some ⟨g, 0, none⟩, cap, by rw [hl], by rw [hl]; exact hc, hm, .inr ⟨g, 0, rfl, fun j x hj => ?_⟩⟩
    have := h.cells (g := g) rfl j x hj
    rw [show (⟨g, 0, none⟩ : Addr).add j = ⟨g, j, none⟩ by by_cases q : j = 0 <;> simp [Addr.add, q]] at this
    simpa using this
end Go.Proofs.YtefjhnhdagolhaaGreat
namespace Go.Proofs.YtefjhnhdagolhaaGreat
open Go.RowKit
open M (upd upd_same upd_other RSt RTh cnt marks tagged num YI)
abbrev inR (n : Nat) (x : Int) : Prop := 0 ≤ x ∧ x < n
def bndJ (n cap : Nat) : Int := 4 + 2 * ((cap : Int) + 3 + 2 * (((n : Int) + 15) / 16 + 2 * (n : Int) + 1) + ((n : Int) + 15) / 16 + 3 * (n : Int)) + 3
def beE (n : Nat) (Y : RSt) (x : Int) : Int := if inR n x then (if (Y.th x.toNat).part = 0 then 0 else 4) else 3
def beY (n : Nat) (Y : RSt) (x : Int) (o : M.Op) : RSt := if inR n x then (if (Y.th x.toNat).part = 0 then M.rbegin Y x.toNat o else Y) else Y
def stA (n cap : Nat) (Y : RSt) (x : Int) : Int := if inR n x then (if (Y.th x.toNat).part = 0 then 0 else endW (M.rstep n cap Y x.toNat).2) else 0
def stE (n : Nat) (Y : RSt) (x : Int) : Int := if inR n x then (if (Y.th x.toNat).part = 0 then 5 else 0) else 3
def stY (n cap : Nat) (Y : RSt) (x : Int) : RSt := if inR n x then (if (Y.th x.toNat).part = 0 then Y else (M.rstep n cap Y x.toNat).1) else Y
section
variable {σ : Type}
def anT (P : M.Plain σ) (n : Nat) (Y : RSt) (x : Int) : Int × Int × Int := if inR n x then (if (Y.th x.toNat).part ≠ 0 then (0, 0, 4) else if (Y.th x.toNat).ended = 0 then (0, 0, 5) else ((ansD P Y x.toNat).s, (ansD P Y x.toNat).v, 0)) else (0, 0, 3)
def doT (P : M.Plain σ) (n cap : Nat) (Y : RSt) (x : Int) (o : M.Op) : Int × Int × Int := if inR n x then (if (Y.th x.toNat).part ≠ 0 then (0, 0, 4) else ((ansD P (M.fin n cap x.toNat (M.rbegin Y x.toNat o)) x.toNat).s, (ansD P (M.fin n cap x.toNat (M.rbegin Y x.toNat o)) x.toNat).v, 0)) else (0, 0, 3)
def doZ (n cap : Nat) (Y : RSt) (x : Int) (o : M.Op) : RSt := if inR n x then doY n cap Y x.toNat o else Y
def tri (a : Int × Int × Int) : Value := .tuple #[.agg #[.int .i64 a.1, .int .i64 a.2.1], .int .i64 a.2.2]
structure XGo (X : (Nat → Prop) → RSt → World → Prop) (S : Nat → Prop) (w : World) (Y' : RSt) (w' : World) : Prop where
  x : X (Grow S w w') Y' w'
  fr : Fr S w w'
structure XOk (P : M.Plain σ) (tell : σ → List Int) (D : DL) (tE : TypeId) (bN : Nat) (X : (Nat → Prop) → RSt → World → Prop) (fBe fSt fAn fDo fOr fTe fBo : Nat) : Prop where
  mBe : ∀ W, (method 553 tE (.pointer (some ⟨bN, 0, none⟩)) "Begin").run Tryz.prog W = .ok (fBe, .pointer (some ⟨bN, 0, none⟩)) W
  mSt : ∀ W, (method 553 tE (.pointer (some ⟨bN, 0, none⟩)) "Step").run Tryz.prog W = .ok (fSt, .pointer (some ⟨bN, 0, none⟩)) W
  mAn : ∀ W, (method 553 tE (.pointer (some ⟨bN, 0, none⟩)) "Answer").run Tryz.prog W = .ok (fAn, .pointer (some ⟨bN, 0, none⟩)) W
  mDo : ∀ W, (method 553 tE (.pointer (some ⟨bN, 0, none⟩)) "Do").run Tryz.prog W = .ok (fDo, .pointer (some ⟨bN, 0, none⟩)) W
  mOr : ∀ W, (method 553 tE (.pointer (some ⟨bN, 0, none⟩)) "Order").run Tryz.prog W = .ok (fOr, .pointer (some ⟨bN, 0, none⟩)) W
  mTe : ∀ W, (method 553 tE (.pointer (some ⟨bN, 0, none⟩)) "State").run Tryz.prog W = .ok (fTe, .pointer (some ⟨bN, 0, none⟩)) W
  mBo : ∀ W, (method 553 tE (.pointer (some ⟨bN, 0, none⟩)) "Bound").run Tryz.prog W = .ok (fBo, .pointer (some ⟨bN, 0, none⟩)) W
  cBe : ∀ (a b : Value) (W : World), (callFunc fBe #[.pointer (some ⟨bN, 0, none⟩), a, b]).run Tryz.prog W = .ok (.enter fBe #[.pointer (some ⟨bN, 0, none⟩), a, b]) W
  cSt : ∀ (a : Value) (W : World), (callFunc fSt #[.pointer (some ⟨bN, 0, none⟩), a]).run Tryz.prog W = .ok (.enter fSt #[.pointer (some ⟨bN, 0, none⟩), a]) W
  cAn : ∀ (a : Value) (W : World), (callFunc fAn #[.pointer (some ⟨bN, 0, none⟩), a]).run Tryz.prog W = .ok (.enter fAn #[.pointer (some ⟨bN, 0, none⟩), a]) W
  cDo : ∀ (a b : Value) (W : World), (callFunc fDo #[.pointer (some ⟨bN, 0, none⟩), a, b]).run Tryz.prog W = .ok (.enter fDo #[.pointer (some ⟨bN, 0, none⟩), a, b]) W
  cOr : ∀ W, (callFunc fOr #[.pointer (some ⟨bN, 0, none⟩)]).run Tryz.prog W = .ok (.enter fOr #[.pointer (some ⟨bN, 0, none⟩)]) W
  cTe : ∀ W, (callFunc fTe #[.pointer (some ⟨bN, 0, none⟩)]).run Tryz.prog W = .ok (.enter fTe #[.pointer (some ⟨bN, 0, none⟩)]) W
  cBo : ∀ W, (callFunc fBo #[.pointer (some ⟨bN, 0, none⟩)]).run Tryz.prog W = .ok (.enter fBo #[.pointer (some ⟨bN, 0, none⟩)]) W
  lt : ∀ S Y w, X S Y w → ∀ k, S k → k < w.heap.size
  stay : ∀ S S' Y w w', X S Y w → (∀ k, S k → w'.heap[k]? = w.heap[k]?) → (∀ k, S k → S' k) → (∀ k, S' k → k < w'.heap.size) → X S' Y w'
  be : ∀ S Y w x (o : M.Op), X S Y w → Calls Tryz.prog fBe #[.pointer (some ⟨bN, 0, none⟩), .int .i64 x, .agg #[.int .i64 o.c, .int .i64 o.a, .int .i64 o.b]] w fun e w' => e = .returned (.int .i64 (beE D.n Y x)) ∧ XGo X S w (beY D.n Y x o) w'
  st : ∀ S Y w x, X S Y w → Lim D 1000000000 Y → Calls Tryz.prog fSt #[.pointer (some ⟨bN, 0, none⟩), .int .i64 x] w fun e w' => e = .returned (.tuple #[.int .i64 (stA D.n D.cap Y x), .int .i64 (stE D.n Y x)]) ∧ XGo X S w (stY D.n D.cap Y x) w'
  an : ∀ S Y w x, X S Y w → Calls Tryz.prog fAn #[.pointer (some ⟨bN, 0, none⟩), .int .i64 x] w fun e w' => e = .returned (tri (anT P D.n Y x)) ∧ Below w.heap.size w w'
  dd : ∀ S Y w x (o : M.Op) K, X S Y w → Lim D K Y → K + 6000 ≤ 1000000000 → Calls Tryz.prog fDo #[.pointer (some ⟨bN, 0, none⟩), .int .i64 x, .agg #[.int .i64 o.c, .int .i64 o.a, .int .i64 o.b]] w fun e w' => e = .returned (tri (doT P D.n D.cap Y x o)) ∧ XGo X S w (doZ D.n D.cap Y x o) w'
  or : ∀ S Y w, X S Y w → Lim D 1000000000 Y → Calls Tryz.prog fOr #[.pointer (some ⟨bN, 0, none⟩)] w fun e w' => ∃ v, e = .returned v ∧ w'.ownsRow w.heap.size 81 3 v Y.order.length (markcs Y.order) ∧ Below w.heap.size w w'
  te : ∀ S Y w, X S Y w → Lim D 1000000000 Y → Calls Tryz.prog fTe #[.pointer (some ⟨bN, 0, none⟩)] w fun e w' => ∃ v, e = .returned v ∧ w'.ownsRow w.heap.size 3 1 v (tell (rpAt P Y Y.order.length).st).length (ints (tell (rpAt P Y Y.order.length).st)) ∧ Below w.heap.size w w'
  bo : ∀ S Y w, X S Y w → Calls Tryz.prog fBo #[.pointer (some ⟨bN, 0, none⟩)] w fun e w' => e = .returned (.int .i64 (bndJ D.n D.cap)) ∧ Below w.heap.size w w'
end
end Go.Proofs.YtefjhnhdagolhaaGreat
namespace Go.Proofs.YtefjhnhdagolhaaGreat
open Go.RowKit
open M (upd upd_same upd_other RSt RTh cnt marks tagged num YI)
attribute [local go_sem ↓] Go.wp_at_zero Go.wp_at_succ
abbrev AuT : Nat → World → Prop := fun _ _ => True
section
variable {σ : Type} {L : DL} {P : M.Plain σ} {tell : σ → List Int} {sz : σ → Nat} {HM : World → Value → σ → Prop} {S : Nat → Prop} {Y : RSt} {w : World} {K : Nat}
theorem nat_of {n : Nat} {x : Int} (h : inR n x) : ∃ t : Nat, x = t ∧ t < n ∧ x.toNat = t := ⟨x.toNat, by have := h.1; omega, by have := h.1; have := h.2; omega, rfl⟩
theorem Begin_x (ds : DS P tell sz HM AuT L) (h : DW P AuT L S Y w) (hK : Lim L 1000000000 Y) (x : Int) (o : M.Op) :
    Calls Tryz.prog 43 #[.pointer (some ⟨L.b, 0, none⟩), .int .i64 x, .agg #[.int .i64 o.c, .int .i64 o.a, .int .i64 o.b]] w fun e w' => e = .returned (.int .i64 (beE L.n Y x)) ∧ DGo P AuT L S w (beY L.n Y x o) w' := by
  unfold beE beY
  by_cases hx : inR L.n x
  · rw [if_pos hx, if_pos hx]
    obtain ⟨t, rfl, ht, e⟩ := nat_of hx
    rw [e]
    by_cases hp : (Y.th t).part = 0
    · rw [if_pos hp, if_pos hp]; exact (Begin_d ds h hK o).2.2 t ht hp
    · rw [if_neg hp, if_neg hp]; exact (Begin_d ds h hK o).2.1 t ht hp
  · rw [if_neg hx, if_neg hx]; exact (Begin_d ds h hK o).1 x hx
theorem Step_x (ds : DS P tell sz HM AuT L) (h : DW P AuT L S Y w) (hK : Lim L 1000000000 Y) (x : Int) :
    Calls Tryz.prog 53 #[.pointer (some ⟨L.b, 0, none⟩), .int .i64 x] w fun e w' => e = .returned (.tuple #[.int .i64 (stA L.n L.cap Y x), .int .i64 (stE L.n Y x)]) ∧ DGo P AuT L S w (stY L.n L.cap Y x) w' := by
  unfold stA stE stY
  by_cases hx : inR L.n x
  · rw [if_pos hx, if_pos hx, if_pos hx]
    obtain ⟨t, rfl, ht, e⟩ := nat_of hx
    rw [e]
    by_cases hp : (Y.th t).part = 0
    · rw [if_pos hp, if_pos hp, if_pos hp]; exact (Step_d ds h hK).2.1 t ht hp
    · rw [if_neg hp, if_neg hp, if_neg hp]; exact (Step_d ds h hK).2.2 t ht hp
  · rw [if_neg hx, if_neg hx, if_neg hx]; exact (Step_d ds h hK).1 x hx
theorem ansW_tri (P : M.Plain σ) (Y : RSt) (t : Nat) : ansW P Y t = tri (if (Y.th t).part ≠ 0 then (0, 0, 4) else if (Y.th t).ended = 0 then (0, 0, 5) else ((ansD P Y t).s, (ansD P Y t).v, 0)) := by
  unfold ansW tri
  split
  · rfl
  · split <;> rfl
theorem Answer_x (ds : DS P tell sz HM AuT L) (h : DW P AuT L S Y w) (hK : Lim L 1000000000 Y) (x : Int) :
    Calls Tryz.prog 54 #[.pointer (some ⟨L.b, 0, none⟩), .int .i64 x] w fun e w' => e = .returned (tri (anT P L.n Y x)) ∧ Below w.heap.size w w' := by
  unfold anT
  by_cases hx : inR L.n x
  · rw [if_pos hx]
    obtain ⟨t, rfl, ht, e⟩ := nat_of hx
    rw [e, ← ansW_tri]
    exact (Answer_d ds h hK).2 t ht
  · rw [if_neg hx]; exact (Answer_d ds h hK).1 x hx
theorem doW_tri (P : M.Plain σ) (n cap : Nat) (Y : RSt) (t : Nat) (o : M.Op) : doW P n cap Y t o = tri (if (Y.th t).part ≠ 0 then (0, 0, 4) else ((ansD P (M.fin n cap t (M.rbegin Y t o)) t).s, (ansD P (M.fin n cap t (M.rbegin Y t o)) t).v, 0)) := by
  unfold doW tri
  split <;> rfl
theorem Do_x (ds : DS P tell sz HM AuT L) (h : DW P AuT L S Y w) (hK : Lim L K Y) (hK9 : K + 6000 ≤ 1000000000) (x : Int) (o : M.Op) :
    Calls Tryz.prog 47 #[.pointer (some ⟨L.b, 0, none⟩), .int .i64 x, .agg #[.int .i64 o.c, .int .i64 o.a, .int .i64 o.b]] w fun e w' => e = .returned (tri (doT P L.n L.cap Y x o)) ∧ DGo P AuT L S w (doZ L.n L.cap Y x o) w' := by
  unfold doT doZ
  by_cases hx : inR L.n x
  · rw [if_pos hx, if_pos hx]
    obtain ⟨t, rfl, ht, e⟩ := nat_of hx
    rw [e, ← doW_tri]
    exact (Do_d ds h hK hK9 o).2 t ht
  · rw [if_neg hx, if_neg hx]; exact (Do_d ds h hK hK9 o).1 x hx
set_option maxHeartbeats 800000 in
theorem Bound_x (h : DW P AuT L S Y w) :
    Calls Tryz.prog 84 #[.pointer (some ⟨L.b, 0, none⟩)] w fun e w' => e = .returned (.int .i64 (bndJ L.n L.cap)) ∧ Below w.heap.size w w' := by
  obtain ⟨hn1, hn64, hc64⟩ := h.n
  obtain ⟨lab, vo, vp, vb, bv, q⟩ := h.doc
  have c1 : w.cell? ⟨L.b, 1, none⟩ = some (.int .i64 (L.n : Int)) := q.ocell rfl
  have c2 : w.cell? ⟨L.b, 2, none⟩ = some (.int .i64 (L.cap : Int)) := q.ocell rfl
  have HC := hide c1
  have HT := hide (show (M.tw L.n : Int) = ((L.n : Int) + 15) / 16 by unfold M.tw; omega)
  have htw : M.tw L.n ≤ 4 := by unfold M.tw; omega
  have HP := hide (docParts w c1 hn64)
  have HW := hide (docWords w c1 hn64)
  have hwd : (M.wds L.n + 1 : Nat) = M.tw L.n + 2 * L.n + 1 := rfl
  rw [hwd] at HP
  clear h q hwd
  unfold bndJ
  rw [← HT.out]
  generalize M.tw L.n = a at *
  go_enter Tryz.func84, Tryz.ntmps84
  go_wp2_with fail
  refine HW.out.mono ?_
  rintro e w1 ⟨rfl, rfl⟩
  go_wp2_with fail
  refine HP.out.mono ?_
  rintro e w1 ⟨rfl, k, rfl⟩
  go_wp2_with fail
  go_quiet (fail)
  go_wp2
  go_ret
  exact ⟨ret_int (by push_cast; rfl), Below.drewN (Below.drewN (Below.refl _ _) _) _⟩
end
end Go.Proofs.YtefjhnhdagolhaaGreat
namespace Go.Proofs.YtefjhnhdagolhaaGreat
open Go.RowKit
def laid (es : List (Value × Nat)) : List Value := es.flatMap fun e => [e.1, .int .i64 (e.2 : Int)]
theorem laid_append (a b : List (Value × Nat)) : laid (a ++ b) = laid a ++ laid b := by simp [laid]
def full (mk : Nat → Value) (m : Nat) : List Value := (List.range m).map mk
theorem full_get (mk : Nat → Value) {m p : Nat} (h : p < m) : (full mk m)[p]? = some (mk p) := by simp [full, List.getElem?_range h]
theorem Reads.block {mk : Nat → Value} {sz i : Nat} {s : Value} {W W' : World} (h : Reads mk sz i s W) (hz : W.heap.size ≤ W'.heap.size) (hb : ∀ g, s.ownBlock = some g → W'.heap[g]? = W.heap[g]?) : Reads mk sz i s W' := by
  rcases h with h | ⟨g, j, c, rfl, h1, h2, h3, h4⟩
  · exact .inl h
  · exact .inr ⟨g, j, c, rfl, h1, h2, by omega, fun p hp => ptr_block (h4 p hp) (hb g rfl)⟩
theorem Reads.le {mk : Nat → Value} {sz i j : Nat} {s : Value} {W : World} (h : Reads mk sz i s W) (hi : i ≤ j) : Reads mk sz j s W := by
  rcases h with h | ⟨g, j', c, rfl, h1, h2⟩
  · exact .inl h
  · exact .inr ⟨g, j', c, rfl, by omega, h2⟩
theorem owns_reads {mk : Nat → Value} {sz n : Nat} {l : Value} {W : World} {tL : TypeId} {base : Nat} (h : W.ownsRow base tL sz l n (full mk (n * sz))) : Reads mk sz n l W := by
  rcases h.2 with ⟨rfl, -⟩ | ⟨g, cap, cur, rfl, -, -, h5, -⟩
  · exact .inl rfl
  · refine .inr ⟨g, n, cap, rfl, Nat.le_refl _, h5, (h.lt g rfl).2, fun p hp => ?_⟩
    have := h.cells (g := g) rfl p _ (full_get mk hp)
    rwa [addr_add, Nat.zero_add] at this
structure Lay2 (V : World) (bL : Nat) (tO tL : TypeId) (sz : Nat) (mk : Nat → Value) (kk : Nat) (cs : Value → List Value) (v0 l0 : Value) (es0 : List (Value × Nat)) (i n : Nat) (v l : Value) (ss : List Value) (W : World) : Prop where
  len : ss.length = i
  row : Row W bL 90 (cs v)
  own : W.ownsRow 0 tO 2 v (es0.length + i) (laid (es0 ++ ss.map fun s => (s, kk)))
  lis : W.ownsRow 0 tL sz l n (full mk (n * sz))
  rds : ∀ s ∈ ss, Reads mk sz n s W ∧ ∀ g, s.ownBlock = some g → (l0.ownBlock = some g ∨ V.heap.size ≤ g) ∧ v.ownBlock ≠ some g
  vb : ∀ g, v.ownBlock = some g → v0.ownBlock = some g ∨ V.heap.size ≤ g
  lb : ∀ g, l.ownBlock = some g → (l0.ownBlock = some g ∨ V.heap.size ≤ g) ∧ v.ownBlock ≠ some g
  bl : bL < V.heap.size ∧ l0.ownBlock ≠ some bL ∧ v0.ownBlock ≠ some bL
  fr : Fr (fun k => k = bL ∨ v0.ownBlock = some k ∨ l0.ownBlock = some k) V W
section
variable {V : World} {bL : Nat} {tO tL : TypeId} {sz : Nat} {mk : Nat → Value} {kk : Nat} {cs : Value → List Value} {v0 l0 : Value} {es0 : List (Value × Nat)} {i n : Nat} {v l : Value} {ss : List Value} {W W' : World}
theorem Lay2.vne (h : Lay2 V bL tO tL sz mk kk cs v0 l0 es0 i n v l ss W) : v.ownBlock ≠ some bL := fun e => by
  rcases h.vb bL e with q | q
  · exact h.bl.2.2 q
  · have := h.bl.1; omega
theorem Lay2.lne (h : Lay2 V bL tO tL sz mk kk cs v0 l0 es0 i n v l ss W) : l.ownBlock ≠ some bL := fun e => by
  rcases (h.lb bL e).1 with q | q
  · exact h.bl.2.1 q
  · have := h.bl.1; omega
theorem Lay2.next (h : Lay2 V bL tO tL sz mk kk cs v0 l0 es0 i n v l ss W) (hb : Below W.heap.size W W') : Lay2 V bL tO tL sz mk kk cs v0 l0 es0 i n v l ss W' where
  len := h.len
  row := h.row.old hb
  own := owns_later h.own hb
  lis := owns_later h.lis hb
  rds s hs := ⟨(h.rds s hs).1.grown (grown_below hb) (by simp), (h.rds s hs).2⟩
  vb := h.vb
  lb := h.lb
  bl := h.bl
  fr := h.fr.trans (Fr.of_below hb)
theorem Lay2.more (h : Lay2 V bL tO tL sz mk kk cs v0 l0 es0 i n v l ss W) {g cap : Nat} {nw : List Value} (hnw : full mk (n * sz) ++ nw = full mk ((n + 1) * sz)) (hown : W'.ownsRow 0 tL sz (.slice (some ⟨g, 0, none⟩) (n + 1) cap) (n + 1) (full mk (n * sz) ++ nw)) (hgr : W.grownBy W' l.ownBlock)
    (hk : l.ownBlock = some g ∨ (g = W.heap.size ∧ ∀ q, q < W.heap.size → W'.heap[q]? = W.heap[q]?)) : Lay2 V bL tO tL sz mk kk cs v0 l0 es0 i (n + 1) v (.slice (some ⟨g, 0, none⟩) (n + 1) cap) ss W' := by
  rw [hnw] at hown
  have hz := h.fr.size
  have hvl := h.own.lt
  have hnb : ∀ k, k ≠ bL ∨ True → some k ≠ l.ownBlock → k < W.heap.size → W'.heap[k]? = W.heap[k]? := fun k _ hne hk => hgr.block k hk hne
  refine ⟨h.len, h.row.of_block (hgr.block _ h.row.lt (fun e => h.lne e.symm)), owns_block h.own fun k e => hgr.block k (hvl k e).2 (fun q => (h.lb k q.symm).2 e), hown, fun s hs => ⟨?_, (h.rds s hs).2⟩, h.vb, fun k e => ?_, h.bl, ?_⟩
  · exact (h.rds s hs).1.append hgr hown (fun p hp => full_get mk hp) (hk.imp id And.right)
  · have e : g = k := by simpa [Value.ownBlock] using e
    subst e
    rcases hk with q | ⟨rfl, -⟩
    · exact h.lb g q
    · exact ⟨.inr hz, fun c => by have := (hvl _ c).2; omega⟩
  · refine ⟨hgr.os.trans h.fr.os, hgr.tape.trans h.fr.tape, hgr.output.trans h.fr.output, Nat.le_trans hz hgr.size, fun k hk ho => ?_⟩
    rw [hgr.block k (by omega) (fun e => by
      rcases (h.lb k e.symm).1 with q | q
      · exact ho (.inr (.inr q))
      · omega)]
    exact h.fr.block k hk ho
theorem Lay2.put (h : Lay2 V bL tO tL sz mk kk cs v0 l0 es0 i n v l ss W) {f : Nat} (hcs : ∀ v v', (cs v).set f v' = cs v') {g cap : Nat} (hown : W'.ownsRow 0 tO 2 (.slice (some ⟨g, 0, none⟩) (es0.length + i + 1) cap) (es0.length + i + 1) (laid (es0 ++ ss.map fun s => (s, kk)) ++ [l, .int .i64 (kk : Int)])) (hgr : W.grownBy W' v.ownBlock)
    (hk : v.ownBlock = some g ∨ g = W.heap.size) : Lay2 V bL tO tL sz mk kk cs v0 l0 es0 (i + 1) n (.slice (some ⟨g, 0, none⟩) (es0.length + i + 1) cap) l (ss ++ [l]) (W'.setCell ⟨bL, f, none⟩ (.slice (some ⟨g, 0, none⟩) (es0.length + i + 1) cap)) := by
  have hz := h.fr.size
  have hvl := h.own.lt
  have hll := h.lis.lt
  have hbl := h.row.lt
  have hgl : g < W'.heap.size := (hown.lt g rfl).2
  have hgb : g ≠ bL := by
    rcases hk with q | q
    · exact fun e => h.vne (e ▸ q)
    · omega
  have old : ∀ k, k < W.heap.size → k ≠ bL → v.ownBlock ≠ some k → (W'.setCell ⟨bL, f, none⟩ (.slice (some ⟨g, 0, none⟩) (es0.length + i + 1) cap)).heap[k]? = W.heap[k]? := fun k hk h1 h2 => by
    rw [Below.heap_setCell _ _ _ k h1]
    exact hgr.block k hk (fun e => h2 e.symm)
  have hlv : ∀ k, l.ownBlock = some k → k ≠ g := fun k e q => by
    subst q
    rcases hk with q | q
    · exact (h.lb k e).2 q
    · have := (hll k e).2; omega
  have hrd : ∀ s ∈ ss, ∀ k, s.ownBlock = some k → k < W.heap.size := fun s hs k e => by
    rcases (h.rds s hs).1 with q | ⟨g', j, c, q, -, -, q3, -⟩
    · subst q; simp [Value.ownBlock] at e
    · subst q
      have : g' = k := by simpa [Value.ownBlock] using e
      omega
  refine ⟨by simp [h.len], ?_, ?_, ?_, ?_, ?_, ?_, h.bl, ?_⟩
  · have := (h.row.of_block (hgr.block _ hbl (fun e => h.vne e.symm))).set f (.slice (some ⟨g, 0, none⟩) (es0.length + i + 1) cap)
    rw [hcs] at this
    exact this
  · have e : laid (es0 ++ (ss ++ [l]).map fun s => (s, kk)) = laid (es0 ++ ss.map fun s => (s, kk)) ++ [l, .int .i64 (kk : Int)] := by
      rw [List.map_append, ← List.append_assoc, laid_append]
      simp [laid]
    rw [e]
    exact owns_block hown fun k e => by
      have e : g = k := by simpa [Value.ownBlock] using e
      subst e
      exact Below.heap_setCell _ _ _ g hgb
  · exact owns_block h.lis fun k e => old k (hll k e).2 (fun q => h.lne (q ▸ e)) (fun q => (h.lb k e).2 q)
  · intro s hs
    rcases List.mem_append.1 hs with hs | hs
    · refine ⟨(h.rds s hs).1.block (by simp [World.setCell]; exact hgr.size) (fun k e => old k (hrd s hs k e) ?_ (fun q => ((h.rds s hs).2 k e).2 q)), fun k e => ⟨((h.rds s hs).2 k e).1, ?_⟩⟩
      · intro q
        subst q
        rcases ((h.rds s hs).2 k e).1 with c | c
        · exact h.bl.2.1 c
        · have := h.bl.1; omega
      · intro c
        have c : g = k := by simpa [Value.ownBlock] using c
        subst c
        rcases hk with q | q
        · exact ((h.rds s hs).2 g e).2 q
        · have := hrd s hs g e; omega
    · rw [List.mem_singleton.1 hs]
      refine ⟨(owns_reads h.lis).block (by simp [World.setCell]; exact hgr.size) (fun k e => old k (hll k e).2 (fun q => h.lne (q ▸ e)) (fun q => (h.lb k e).2 q)), fun k e => ⟨(h.lb k e).1, fun c => ?_⟩⟩
      have c : g = k := by simpa [Value.ownBlock] using c
      exact hlv k e c.symm
  · intro k e
    have e : g = k := by simpa [Value.ownBlock] using e
    subst e
    rcases hk with q | q
    · exact h.vb g q
    · exact .inr (by omega)
  · intro k e
    refine ⟨(h.lb k e).1, fun c => ?_⟩
    have c : g = k := by simpa [Value.ownBlock] using c
    exact hlv k e c.symm
  · refine ⟨hgr.os.trans h.fr.os, hgr.tape.trans h.fr.tape, hgr.output.trans h.fr.output, by simp [World.setCell]; exact Nat.le_trans hz hgr.size, fun k hk ho => ?_⟩
    rw [old k (by omega) (fun e => ho (.inl e)) (fun e => by
      rcases h.vb k e with q | q
      · exact ho (.inr (.inl q))
      · omega)]
    exact h.fr.block k hk ho
end
end Go.Proofs.YtefjhnhdagolhaaGreat
namespace Go.Proofs.YtefjhnhdagolhaaGreat
open Go.RowKit
attribute [local go_sem ↓] Go.wp_at_zero Go.wp_at_succ
theorem full_mark (k n : Nat) : full (markCell k) (n * 3) ++ [.int .i64 (-1 - (k : Int)), .int .i64 (-1), .int .i64 (-1)] = full (markCell k) ((n + 1) * 3) := by
  unfold full
  rw [show (n + 1) * 3 = n * 3 + 1 + 1 + 1 by omega, List.range_succ, List.range_succ, List.range_succ]
  simp only [List.map_append, List.map_cons, List.map_nil, List.append_assoc, List.cons_append, List.nil_append, markCell]
  congr 1
  rw [if_pos (by omega), if_neg (by omega), if_neg (by omega)]
theorem full_int (k n : Nat) : full (intCell k) (n * 1) ++ [.int .i64 (-1 - (k : Int))] = full (intCell k) ((n + 1) * 1) := by
  unfold full
  rw [Nat.mul_one, Nat.mul_one, List.range_succ]
  simp [intCell]
def filled (mk : Nat → Value) (j : Nat) (xs : List Value) : List Value := full mk j ++ xs.drop j
theorem filled_next {mk : Nat → Value} {j : Nat} {xs : List Value} (h : j < xs.length) : (filled mk j xs).set j (mk j) = filled mk (j + 1) xs := by
  unfold filled full
  rw [List.set_append_right _ _ (by simp), List.length_map, List.length_range, Nat.sub_self, List.drop_eq_getElem_cons h, List.set_cons_zero, List.range_succ, List.map_append]
  simp
theorem filled_zero (mk : Nat → Value) (xs : List Value) : filled mk 0 xs = xs := by simp [filled, full]
theorem filled_all {mk : Nat → Value} {xs : List Value} {j : Nat} (h : xs.length = j) : filled mk j xs = full mk j := by
  unfold filled
  rw [List.drop_eq_nil_of_le (by omega), List.append_nil]
def LayM2 (V : World) (bL : Nat) (x y is v0 l0 : Value) (es0 : List (Value × Nat)) (i n : Nat) (l : Value) (W : World) : Prop := ∃ v ss, Lay2 V bL 99 81 3 (markCell es0.length) es0.length (fun v => [x, y, v, is]) v0 l0 es0 i n v l ss W
set_option maxRecDepth 20000 in
set_option maxHeartbeats 4000000 in
theorem ownMarks_any (bL : Nat) (x y is v0 l0 : Value) (es0 : List (Value × Nat)) (V : World) (hR : Row V bL 90 [x, y, v0, is]) (hv : V.ownsRow 0 99 2 v0 es0.length (laid es0)) (hes : es0.length ≤ 1000000000000) (n : Nat) (xs : List Value) (hO : V.ownsRow 0 81 3 l0 n xs) (hn : n ≤ 1000000000000)
    (h1 : l0.ownBlock ≠ some bL) (h2 : v0.ownBlock ≠ some bL) (h3 : ∀ g, l0.ownBlock = some g → v0.ownBlock ≠ some g) :
    Calls Tryz.prog 82 #[.pointer (some ⟨bL, 0, none⟩), l0] V fun e w' => e = .returned (.tuple #[]) ∧ ∃ l, LayM2 V bL x y is v0 l0 es0 4 (n + 3) l w' := by
  obtain ⟨ti, hti, htz⟩ := Option.map_eq_some_iff.1 info_mout
  simp only [Prod.mk.injEq] at htz
  obtain ⟨htz1, htz2, htz3⟩ := htz
  have HTI := hide hti
  have HT1 := hide htz1
  have HT2 := hide htz2
  have HT3 := hide htz3
  obtain ⟨mi, hmi, hmz⟩ := Option.map_eq_some_iff.1 info_mark
  simp only [Prod.mk.injEq] at hmz
  obtain ⟨hmz1, hmz2, hmz3⟩ := hmz
  have HMI := hide hmi
  have HM1 := hide hmz1
  have HM2 := hide hmz2
  have HM3 := hide hmz3
  obtain ⟨⟨va, vc, rfl⟩, -⟩ := owns_form hv
  have c2 : V.cell? ⟨bL, 2, none⟩ = some (.slice va es0.length vc) := hR.cell_of rfl
  have hbl := hR.lt
  have hl0 : ∃ a c, l0 = .slice a n c ∧ (0 < n → ∃ g, a = some ⟨g, 0, none⟩) := by
    rcases hO.2 with ⟨rfl, rfl⟩ | ⟨g, cap, cur, rfl, -⟩
    · exact ⟨none, 0, rfl, fun h => absurd h (by decide)⟩
    · exact ⟨_, cap, rfl, fun _ => ⟨g, rfl⟩⟩
  obtain ⟨la, lc, rfl, hla⟩ := hl0
  have hxl : xs.length = n * 3 := hO.1
  have HLA := hide hla
  have HRV := hide (And.intro hR hv)
  have HNE := hide (And.intro h1 (And.intro h2 h3))
  have HS := hide (show Fr (fun k => (Value.slice la n lc).ownBlock = some k) V V ∧ V.ownsRow 0 81 3 (.slice la n lc) n (filled (markCell es0.length) (0 * 3) xs) from ⟨Fr.refl _ _, by rw [Nat.zero_mul, filled_zero]; exact hO⟩)
  clear hti htz1 htz2 htz3 hR hmi hmz1 hmz2 hmz3 hv hO hla h1 h2 h3
  go_enter Tryz.func82, Tryz.ntmps82
  go_wp2
  go_loopw [5] (fun i w' => ∃ j : Nat, j ≤ n ∧ i = .int .i64 (j : Int) ∧ Fr (fun k => (Value.slice la n lc).ownBlock = some k) V w' ∧ w'.ownsRow 0 81 3 (.slice la n lc) n (filled (markCell es0.length) (j * 3) xs)) (fun i _ => n - (intOf i).toNat)
  case atStart => exact ⟨0, Nat.zero_le _, rfl, HS.out⟩
  case round =>
    obtain ⟨j, hj, rfl, hF, hO⟩ := hrel
    by_cases hlt : j < n
    · obtain ⟨g, rfl⟩ := HLA.out (by omega)
      have hlt' : (j : Int) < (n : Int) := by omega
      have hj0 : (0 : Int) ≤ (j : Int) := by omega
      have HX := hide (And.intro hF hO)
      clear hF hO
      go_wp2_with fail
      refine (markOf_any (es0.length : Int) _ (by omega) (by omega)).mono ?_
      rintro e w2 ⟨rfl, hb2⟩
      have hO2 := owns_later HX.out.2 hb2
      have hcell : ∀ p, p < n * 3 → ∃ u, w2.cell? ⟨g, p, none⟩ = some u := fun p hp => by
        rw [hO2.cellAt p hp, List.getElem?_eq_getElem (by rw [hO2.1]; exact hp)]
        exact ⟨_, rfl⟩
      obtain ⟨u0, k0⟩ := hcell (j * 3) (by omega)
      obtain ⟨u1, k1⟩ := hcell (j * 3 + 1) (by omega)
      obtain ⟨u2, k2⟩ := hcell (j * 3 + 2) (by omega)
      have f0 := hO2.frozenAt (j * 3)
      have f1 := hO2.frozenAt (j * 3 + 1)
      have f2 := hO2.frozenAt (j * 3 + 2)
      have HO2 := hide hO2
      have HF2 := hide (HX.out.1.trans (Fr.of_below hb2))
      clear hb2 hO2 hcell
      go_wp2_with fail
      go_roundw
      case rel =>
        refine ⟨j + 1, by omega, by go_num, ((HF2.out.here rfl _ _).here rfl _ _).here rfl _ _, ?_⟩
        have := (((HO2.out.stored (j * 3) (markCell es0.length (j * 3))).1.stored (j * 3 + 1) (markCell es0.length (j * 3 + 1))).1.stored (j * 3 + 2) (markCell es0.length (j * 3 + 2))).1
        rw [filled_next (by omega), filled_next (by omega), filled_next (by omega)] at this
        rw [show (j + 1) * 3 = j * 3 + 1 + 1 + 1 by omega]
        have e0 : markCell es0.length (j * 3) = .int .i64 (-1 - (es0.length : Int)) := by unfold markCell; rw [if_pos (by omega)]
        have e1 : markCell es0.length (j * 3 + 1) = .int .i64 (-1) := by unfold markCell; rw [if_neg (by omega)]
        have e2 : markCell es0.length (j * 3 + 2) = .int .i64 (-1) := by unfold markCell; rw [if_neg (by omega)]
        rw [e0, e1, e2] at this
        exact this
      case measure => simp [intOf]; omega
    · have hlt' : ¬ (j : Int) < (n : Int) := by omega
      have hjn : j = n := by omega
      subst hjn
      rw [filled_all hxl] at hO
      have hrow : Row wr bL 90 [x, y, .slice va es0.length vc, is] := HRV.out.1.of_block (hF.block bL hbl HNE.out.1)
      have hvl := HRV.out.2.lt
      have hL : Lay2 V bL 99 81 3 (markCell es0.length) es0.length (fun v => [x, y, v, is]) (.slice va es0.length vc) (.slice la j lc) es0 0 j (.slice va es0.length vc) (.slice la j lc) [] wr :=
        ⟨rfl, hrow, by simpa using owns_block HRV.out.2 (fun k e => hF.block k (hvl k e).2 (fun q => HNE.out.2.2 k q e)), hO, fun s hs => absurd hs List.not_mem_nil, fun g e => .inl e, fun g e => ⟨.inl e, fun q => HNE.out.2.2 g e q⟩, ⟨hbl, HNE.out.1, HNE.out.2.1⟩, ⟨hF.os, hF.tape, hF.output, hF.size, fun k hk ho => hF.block k hk (fun c => ho (.inr (.inr c)))⟩⟩
      have d2 : wr.cell? ⟨bL, 2, none⟩ = some (.slice va es0.length vc) := hrow.cell_of rfl
      have HL := hide hL
      clear hF hO hrow hL hvl
      go_wp2_with (at_builtin; refine wpList_append_keep _ rfl (.tmp 27) (.tmp 31) 87 rfl 0 99 ti (.agg #[.slice none 0 0, .int .i64 0]) 2 32 Tryz.underlying87 HTI.out HT1.out HT2.out HT3.out rfl (by decide) _ (es0.length + 0) _ rfl (HL.out.next (below_alloc _ _)).own ⟨wr.heap.size, 0, none⟩ 1 1 [.slice la j lc, .int .i64 (es0.length : Int)] rfl rfl (World.news_of_block (Row.new _ _ _)) (by simp [Value.oneCell']) (by decide) (by unfold maxLen; omega) (by omega) (Nat.zero_le _) ?_)
      intro gm cm w1 hown hgr hlt2 hk
      have hL1 := (HL.out.next (below_alloc wr _)).put (f := 2) (g := gm) (cap := cm) (fun _ _ => rfl) (by simpa using hown) hgr (hk.imp id (fun q => by simpa using q.1))
      have hr1 : Row w1 bL 90 [x, y, .slice va es0.length vc, is] := (HL.out.next (below_alloc wr _)).row.of_block (hgr.block _ (HL.out.next (below_alloc wr _)).row.lt (fun e => HNE.out.2.1 e.symm))
      have d2' : w1.cell? ⟨bL, 2, none⟩ = some (.slice va es0.length vc) := hr1.cell_of rfl
      have f2 := hr1.frozen 2
      have HL1 := hide (show LayM2 V bL x y is (.slice va es0.length vc) (.slice la j lc) es0 1 j (.slice la j lc) (w1.setCell ⟨bL, 2, none⟩ (.slice (some ⟨gm, 0, none⟩) (es0.length + 1) cm)) from ⟨_, _, hL1⟩)
      clear hown hgr hlt2 hk hL1 hr1 d2 c2
      go_wp2
      go_loopw [1, 6] (fun l i w' => ∃ k : Nat, k ≤ 3 ∧ i = .int .i64 (k : Int) ∧ LayM2 V bL x y is (.slice va es0.length vc) (.slice la j lc) es0 (k + 1) (j + k) l w') (fun _ i _ => 3 - (intOf i).toNat)
      case atStart => exact ⟨0, by decide, rfl, HL1.out⟩
      case round =>
        obtain ⟨k, hk, rfl, v, ss, hY⟩ := hrel
        have HY := hide hY
        clear hY
        by_cases hlt2 : k < 3
        · have hlt2' : (k : Int) < 3 := by omega
          go_wp2_with fail
          refine (markOf_any (es0.length : Int) _ (by omega) (by omega)).mono ?_
          rintro e w2 ⟨rfl, hb2⟩
          have HY2 := hide (HY.out.next hb2)
          clear hb2
          go_wp2_with (at_builtin; refine wpList_append_keep _ rfl (.tmp 39) (.tmp 42) 43 rfl 0 81 mi (.agg #[.int .i64 0, .int .i64 0, .int .i64 0]) 3 24 Tryz.underlying43 HMI.out HM1.out HM2.out HM3.out rfl (by decide) _ (j + k) _ rfl (HY2.out.next (below_alloc _ _)).lis ⟨w2.heap.size, 0, none⟩ 1 1 [.int .i64 (-1 - (es0.length : Int)), .int .i64 (-1), .int .i64 (-1)] rfl rfl (World.news_of_block (Row.new _ _ _)) (by simp [Value.oneCell']) (by decide) (by unfold maxLen; omega) (by omega) (Nat.zero_le _) ?_)
          intro g3 c3 w3 hown hgr hl3 hk3
          have hY3 := (HY2.out.next (below_alloc w2 _)).more (full_mark _ _) hown hgr (hk3.imp id (fun q => ⟨by simpa using q.1, by simpa using q.2⟩))
          obtain ⟨⟨va3, vc3, rfl⟩, -⟩ := owns_form hY3.own
          have r2 : w3.cell? ⟨bL, 2, none⟩ = some (.slice va3 (es0.length + (k + 1)) vc3) := hY3.row.cell_of rfl
          have HY3 := hide hY3
          clear hown hgr hl3 hk3 hY3
          go_wp2_with (at_builtin; refine wpList_append_keep _ rfl (.tmp 48) (.tmp 52) 87 rfl 0 99 ti (.agg #[.slice none 0 0, .int .i64 0]) 2 32 Tryz.underlying87 HTI.out HT1.out HT2.out HT3.out rfl (by decide) _ (es0.length + (k + 1)) _ rfl (HY3.out.next (below_alloc _ _)).own ⟨w3.heap.size, 0, none⟩ 1 1 [.slice (some ⟨g3, 0, none⟩) (j + k + 1) c3, .int .i64 (es0.length : Int)] rfl rfl (World.news_of_block (Row.new _ _ _)) (by simp [Value.oneCell']) (by decide) (by unfold maxLen; omega) (by omega) (Nat.zero_le _) ?_)
          intro g4 c4 w4 hown hgr hl4 hk4
          have hY4 := (HY3.out.next (below_alloc w3 _)).put (f := 2) (g := g4) (cap := c4) (fun _ _ => rfl) (by first | exact hown | simpa [Nat.add_assoc] using hown) hgr (hk4.imp id (fun q => by simpa using q.1))
          have hr4 : Row w4 bL 90 [x, y, .slice va3 (es0.length + (k + 1)) vc3, is] := (HY3.out.next (below_alloc w3 _)).row.of_block (hgr.block _ (HY3.out.next (below_alloc w3 _)).row.lt (fun e => HY3.out.vne e.symm))
          have s2 : w4.cell? ⟨bL, 2, none⟩ = some (.slice va3 (es0.length + (k + 1)) vc3) := hr4.cell_of rfl
          have f4 := hr4.frozen 2
          have HY4 := hide (show LayM2 V bL x y is (.slice va es0.length vc) (.slice la j lc) es0 (k + 1 + 1) (j + (k + 1)) (.slice (some ⟨g3, 0, none⟩) (j + k + 1) c3) _ from ⟨_, _, hY4⟩)
          clear hown hgr hl4 hk4 hY4 hr4 r2
          go_wp2
          go_roundw
          case rel => exact ⟨k + 1, by omega, by go_num, HY4.out⟩
          case measure => simp [intOf]; omega
        · have hlt2' : ¬ (k : Int) < 3 := by omega
          have hk3 : k = 3 := by omega
          subst hk3
          go_wp2
          exact bodyPost_end (v := .tuple #[]) (by simp [results, Tryz.results82, go_sem]) rfl ⟨rfl, _, _, _, HY.out⟩
end Go.Proofs.YtefjhnhdagolhaaGreat
