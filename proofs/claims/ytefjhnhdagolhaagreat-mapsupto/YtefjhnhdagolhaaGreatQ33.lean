import Derived.Test.YtefjhnhdagolhaaGreatQ32
namespace Go.Proofs.YtefjhnhdagolhaaGreat
open Go.RowKit
open M (upd upd_same upd_other RSt RTh cnt marks tagged num YI)
attribute [local go_sem ↓] Go.wp_at_zero Go.wp_at_succ
section
variable {σ : Type} {P : M.Plain σ} {tell : σ → List Int} {sz : σ → Nat} {HM : World → Value → σ → Prop} {D : DL} {X : (Nat → Prop) → RSt → World → Prop} {A : LL} {Y : RSt} {w : World} {fBe fSt fAn fDo fOr fTe fBo Z K : Nat} {U : Nat → Prop}
set_option maxRecDepth 20000 in
set_option maxHeartbeats 1000000 in
theorem lawAnswer (xo : XOk P tell D A.tE A.bN X fBe fSt fAn fDo fOr fTe fBo) (ds : DS P tell sz HM AuT D) (h : Law P D X A Z U Y w) (hK : Lim D 1000000000 Y) (x : Int) :
    Calls Tryz.prog 48 #[.pointer (some ⟨A.bL, 0, none⟩), .int .i64 x] w fun e w' => e = .returned (.bool true) ∧ Below w.heap.size w w' := by
  obtain ⟨SX, SD, T, lab, ms, is, es1, es2, hl, -⟩ := h.ex
  have c0 : w.cell? ⟨A.bL, 0, none⟩ = some (.pointer (some ⟨A.bX, 0, none⟩)) := hl.row.cell_of rfl
  have c1 : w.cell? ⟨A.bL, 1, none⟩ = some (.pointer (some ⟨D.b, 0, none⟩)) := hl.row.cell_of rfl
  have cx : w.cell? ⟨A.bX, 0, none⟩ = some (.iface A.tE (.pointer (some ⟨A.bN, 0, none⟩))) := hl.obj.cell_of rfl
  have hm := xo.mAn
  have hc := xo.cAn
  have HA1 := hide (xo.an _ _ _ x hl.x)
  have HA2 := hide (fun (W : World) (hb : Below w.heap.size w W) => Answer_x ds (hl.below xo hb).d hK x)
  unfold tri at HA1 HA2
  generalize (anT P D.n Y x).1 = a at *
  generalize (anT P D.n Y x).2.1 = b at *
  generalize (anT P D.n Y x).2.2 = c at *
  clear h hl xo ds
  go_enter Tryz.func48, Tryz.ntmps48
  go_wp2_with fail
  refine HA1.out.mono ?_
  rintro e w1 ⟨rfl, hb1⟩
  have d1 := cell_later hb1 c1
  have d1' := fun ob => cell_new d1 ob
  have HB1 := hide hb1
  clear hb1 c0 c1 cx hm hc
  go_wp2_with fail
  refine (HA2.out _ (Below.next HB1.out (below_alloc _ _) HB1.out.size)).mono ?_
  rintro e w2 ⟨rfl, hb2⟩
  have d2 : w2.cell? ⟨w1.heap.size, 0, none⟩ = some (.int .i64 a) := cell_later hb2 ((Row.new w1 [_, _] 94).cell_of rfl)
  have d3 : w2.cell? ⟨w1.heap.size, 1, none⟩ = some (.int .i64 b) := cell_later hb2 ((Row.new w1 [_, _] 94).cell_of rfl)
  have d2' := fun ob => cell_new d2 ob
  have d3' := fun ob => cell_new d3 ob
  have HB2 := hide (Below.next (Below.next HB1.out (below_alloc _ _) HB1.out.size) hb2 (by have := HB1.out.size; simp; omega))
  clear hb2
  go_wp2_with fail
  go_ret
  exact ⟨ret_bool (by simp), Below.next HB2.out (below_alloc _ _) HB2.out.size⟩
set_option maxRecDepth 20000 in
set_option maxHeartbeats 1000000 in
theorem lawBound2 (xo : XOk P tell D A.tE A.bN X fBe fSt fAn fDo fOr fTe fBo) (h : Law P D X A Z U Y w) :
    Calls Tryz.prog 51 #[.pointer (some ⟨A.bL, 0, none⟩)] w fun e w' => e = .returned (.bool true) ∧ Below w.heap.size w w' := by
  obtain ⟨SX, SD, T, lab, ms, is, es1, es2, hl, -⟩ := h.ex
  have c0 : w.cell? ⟨A.bL, 0, none⟩ = some (.pointer (some ⟨A.bX, 0, none⟩)) := hl.row.cell_of rfl
  have c1 : w.cell? ⟨A.bL, 1, none⟩ = some (.pointer (some ⟨D.b, 0, none⟩)) := hl.row.cell_of rfl
  have cx : w.cell? ⟨A.bX, 0, none⟩ = some (.iface A.tE (.pointer (some ⟨A.bN, 0, none⟩))) := hl.obj.cell_of rfl
  have hm := xo.mBo
  have hc := xo.cBo
  have HA1 := hide (xo.bo _ _ _ hl.x)
  have HA2 := hide (fun (W : World) (hb : Below w.heap.size w W) => Bound_x (hl.below xo hb).d)
  generalize bndJ D.n D.cap = bj at *
  clear h hl xo
  go_enter Tryz.func51, Tryz.ntmps51
  go_wp2_with fail
  refine HA1.out.mono ?_
  rintro e w1 ⟨rfl, hb1⟩
  have d1 := cell_later hb1 c1
  have HB1 := hide hb1
  clear hb1 c0 c1 cx hm hc
  go_wp2_with fail
  refine (HA2.out _ HB1.out).mono ?_
  rintro e w2 ⟨rfl, hb2⟩
  have HB2 := hide (Below.next HB1.out hb2 HB1.out.size)
  clear hb2
  go_wp2_with fail
  go_ret
  exact ⟨ret_bool (by simp), HB2.out⟩
set_option maxRecDepth 20000 in
set_option maxHeartbeats 2000000 in
theorem sameMarks_any (l : List M.Mark) (hlen : l.length ≤ 1000000000000) (va vb : Value) (b1 b2 : Nat) (ha : w.ownsRow b1 81 3 va l.length (markcs l)) (hb : w.ownsRow b2 81 3 vb l.length (markcs l)) :
    Calls Tryz.prog 62 #[va, vb] w fun e w' => e = .returned (.bool true) ∧ Below w.heap.size w w' := by
  obtain ⟨⟨a1, c1, rfl⟩, -⟩ := owns_form ha
  obtain ⟨⟨a2, c2, rfl⟩, -⟩ := owns_form hb
  have HA := hide ha
  have HB := hide hb
  clear ha hb
  go_enter Tryz.func62, Tryz.ntmps62
  go_wp2
  go_loopw [5] (fun i w' => ∃ k : Nat, k ≤ l.length ∧ i = .int .i64 (k : Int) ∧ Below w.heap.size w w') (fun i _ => l.length - (intOf i).toNat)
  case atStart => exact ⟨0, Nat.zero_le _, rfl, Below.refl _ _⟩
  case round =>
    obtain ⟨k, hk, rfl, hB⟩ := hrel
    by_cases hlt : k < l.length
    · have hlt' : (k : Int) < (l.length : Int) := by omega
      have hk0 : (0 : Int) ≤ (k : Int) := by omega
      obtain ⟨m0, m1, m2⟩ := markcs_get l k hlt
      obtain ⟨g1, c1', e1, x0⟩ := owns_get HA.out m0
      injection e1 with e1 _ e3
      subst e1 e3
      obtain ⟨g2, c2', e2, y0⟩ := owns_get HB.out m0
      injection e2 with e2 _ e3
      subst e2 e3
      have x1 := HA.out.cells (g := g1) rfl _ _ m1
      have x2 := HA.out.cells (g := g1) rfl _ _ m2
      have y1 := HB.out.cells (g := g2) rfl _ _ m1
      have y2 := HB.out.cells (g := g2) rfl _ _ m2
      rw [addr_add, Nat.zero_add] at x1 x2 y1 y2
      have p0 := cell_later hB x0
      have p1 := cell_later hB x1
      have p2 := cell_later hB x2
      have q0 := cell_later hB y0
      have q1 := cell_later hB y1
      have q2 := cell_later hB y2
      generalize ((l[k]).b : Int) = mb at *
      generalize ((l[k]).t : Int) = mt at *
      generalize ((l[k]).s : Int) = mS at *
      have HBB := hide hB
      clear hB m0 m1 m2 x0 x1 x2 y0 y1 y2
      go_wp2
      go_quiet (fail)
      go_wp2
      go_roundw
      case rel => exact ⟨k + 1, by omega, by go_num, Below.drewN HBB.out _⟩
      case measure => simp [intOf]; omega
    · have hlt' : ¬ (k : Int) < (l.length : Int) := by omega
      have HBB := hide hB
      clear hB
      go_wp2
      go_ret
      exact ⟨rfl, HBB.out⟩
def labN (lab : Nat → Nat) (V : World) (l0 v : Value) (c k : Nat) : Nat := if v.ownBlock = some k then c else if l0.ownBlock = some k ∨ V.heap.size ≤ k then 3 else lab k
theorem Outs.laid {tO tL : TypeId} {mk : Nat → Nat → Value} {sz c : Nat} {T : Nat → Prop} {lab : Nat → Nat} {v0 l0 v l : Value} {es : List (Value × Nat)} {V W : World} {bL n : Nat} {cs : Value → List Value} {ss : List Value} (h : Outs tO mk sz T lab c v0 es V) (hT : ∀ k, T k → k < V.heap.size ∧ k ≠ bL) (hl0 : ∀ k, l0.ownBlock = some k → ¬ T k) (hc : c ≠ 3)
    (hL : Lay2 V bL tO tL sz (mk es.length) es.length cs v0 l0 es 4 n v l ss W) (hn : n ≤ 1099511627776) :
    Outs tO mk sz (fun k => T k ∨ l0.ownBlock = some k ∨ (V.heap.size ≤ k ∧ k < W.heap.size)) (labN lab V l0 v c) c v (es ++ ss.map fun s => (s, es.length)) W := by
  have hlen : (es ++ ss.map fun s => (s, es.length)).length = es.length + 4 := by simp [hL.len]
  have hvl := hL.own.lt
  refine ⟨by rw [hlen]; exact hL.own, fun k e => ⟨?_, by unfold labN; rw [if_pos e]⟩, fun e he => ?_⟩
  · rcases hL.vb k e with q | q
    · exact .inl (h.blk k q).1
    · exact .inr (.inr ⟨q, (hvl k e).2⟩)
  · rw [hlen]
    rcases List.mem_append.1 he with he | he
    · obtain ⟨r1, r2, r3⟩ := h.rds e he
      have tv : ∀ k, e.1.ownBlock = some k → v.ownBlock ≠ some k := fun k q c9 => by
        rcases hL.vb k c9 with p | p
        · have := (h.blk k p).2; have := (r3 k q).2; omega
        · have := (hT k (r3 k q).1).1; omega
      refine ⟨by omega, r2.block hL.fr.size (fun k q => hL.fr.block k (hT k (r3 k q).1).1 ?_), fun k q => ⟨.inl (r3 k q).1, ?_⟩⟩
      · rintro (c9 | c9 | c9)
        · exact (hT k (r3 k q).1).2 c9
        · have := (h.blk k c9).2; have := (r3 k q).2; omega
        · exact hl0 k c9 (r3 k q).1
      · unfold labN
        rw [if_neg (tv k q)]
        split
        · rfl
        · exact (r3 k q).2
    · obtain ⟨s, hs, rfl⟩ := List.mem_map.1 he
      obtain ⟨r1, r2⟩ := hL.rds s hs
      refine ⟨by dsimp only; omega, r1.le hn, fun k q => ?_⟩
      obtain ⟨p1, p2⟩ := r2 k q
      have hkl : k < W.heap.size := by
        rcases r1 with c9 | ⟨g', j, cc, c9, -, -, q3, -⟩
        · subst c9; simp [Value.ownBlock] at q
        · subst c9
          have : g' = k := by simpa [Value.ownBlock] using q
          omega
      refine ⟨?_, by unfold labN; rw [if_neg p2, if_pos p1]⟩
      rcases p1 with p | p
      · exact .inr (.inl p)
      · exact .inr (.inr ⟨p, hkl⟩)
theorem Outs.beside {tO tO' tL : TypeId} {mk : Nat → Nat → Value} {mk' : Nat → Value} {sz sz' c c' kk : Nat} {T : Nat → Prop} {lab : Nat → Nat} {u v0 l0 v l : Value} {es es' : List (Value × Nat)} {V W : World} {bL n : Nat} {cs : Value → List Value} {ss : List Value} (h : Outs tO mk sz T lab c u es V) (hT : ∀ k, T k → k < V.heap.size ∧ k ≠ bL) (hl0 : ∀ k, l0.ownBlock = some k → ¬ T k) (hv0 : ∀ k, v0.ownBlock = some k → lab k = c') (hcc : c' ≠ c ∧ c' ≠ 3)
    (hL : Lay2 V bL tO' tL sz' mk' kk cs v0 l0 es' 4 n v l ss W) :
    Outs tO mk sz (fun k => T k ∨ l0.ownBlock = some k ∨ (V.heap.size ≤ k ∧ k < W.heap.size)) (labN lab V l0 v c') c u es W := by
  have old : ∀ k, T k → lab k ≠ c' → v.ownBlock ≠ some k ∧ W.heap[k]? = V.heap[k]? ∧ labN lab V l0 v c' k = lab k := fun k hk hne => by
    have hvk : v.ownBlock ≠ some k := fun e => by
      rcases hL.vb k e with p | p
      · exact hne (hv0 k p)
      · have := (hT k hk).1; omega
    refine ⟨hvk, hL.fr.block k (hT k hk).1 ?_, ?_⟩
    · rintro (c9 | c9 | c9)
      · exact (hT k hk).2 c9
      · exact hne (hv0 k c9)
      · exact hl0 k c9 hk
    · unfold labN
      rw [if_neg hvk, if_neg]
      rintro (c9 | c9)
      · exact hl0 k c9 hk
      · have := (hT k hk).1; omega
  refine ⟨owns_block h.own fun k e => (old k (h.blk k e).1 (by rw [(h.blk k e).2]; omega)).2.1, fun k e => ⟨.inl (h.blk k e).1, (old k (h.blk k e).1 (by rw [(h.blk k e).2]; omega)).2.2.trans (h.blk k e).2⟩, fun e he => ?_⟩
  obtain ⟨r1, r2, r3⟩ := h.rds e he
  exact ⟨r1, r2.block hL.fr.size (fun k q => (old k (r3 k q).1 (by rw [(r3 k q).2]; omega)).2.1), fun k q => ⟨.inl (r3 k q).1, (old k (r3 k q).1 (by rw [(r3 k q).2]; omega)).2.2.trans (r3 k q).2⟩⟩
end
end Go.Proofs.YtefjhnhdagolhaaGreat
namespace Go.Proofs.YtefjhnhdagolhaaGreat
open Go.RowKit
open M (upd upd_same upd_other RSt RTh cnt marks tagged num YI)
attribute [local go_sem ↓] Go.wp_at_zero Go.wp_at_succ
section
variable {σ : Type} {P : M.Plain σ} {tell : σ → List Int} {sz : σ → Nat} {HM : World → Value → σ → Prop} {D : DL} {X : (Nat → Prop) → RSt → World → Prop} {A : LL} {Y : RSt} {w : World} {fBe fSt fAn fDo fOr fTe fBo Z K : Nat} {U : Nat → Prop}
variable {SX SD T : Nat → Prop} {lab : Nat → Nat} {ms is : Value} {es1 es2 : List (Value × Nat)} {V W : World} {l0 v l : Value} {n : Nat} {ss : List Value}
theorem LW.rest {tO tL : TypeId} {sz9 kk c : Nat} {mk : Nat → Value} {cs : Value → List Value} {v0 : Value} {es : List (Value × Nat)} (xo : XOk P tell D A.tE A.bN X fBe fSt fAn fDo fOr fTe fBo) (h : LW P D X A SX SD T lab ms is es1 es2 Y Y V) (hl0 : ∀ k, l0.ownBlock = some k → ¬ SX k ∧ ¬ SD k ∧ ¬ T k ∧ k ≠ A.bL ∧ k ≠ A.bX) (hl0l : ∀ k, l0.ownBlock = some k → k < V.heap.size) (hv0 : ∀ k, v0.ownBlock = some k → T k)
    (hL : Lay2 V A.bL tO tL sz9 mk kk cs v0 l0 es 4 n v l ss W) (ms' is' : Value) (es1' es2' : List (Value × Nat)) (hrow : Row W A.bL 90 [.pointer (some ⟨A.bX, 0, none⟩), .pointer (some ⟨D.b, 0, none⟩), ms', is'])
    (hm : Outs 99 markCell 3 (fun k => T k ∨ l0.ownBlock = some k ∨ (V.heap.size ≤ k ∧ k < W.heap.size)) (labN lab V l0 v c) 1 ms' es1' W) (hi : Outs 102 intCell 1 (fun k => T k ∨ l0.ownBlock = some k ∨ (V.heap.size ≤ k ∧ k < W.heap.size)) (labN lab V l0 v c) 2 is' es2' W) :
    LW P D X A SX SD (fun k => T k ∨ l0.ownBlock = some k ∨ (V.heap.size ≤ k ∧ k < W.heap.size)) (labN lab V l0 v c) ms' is' es1' es2' Y Y W := by
  have hz := hL.fr.size
  have old : ∀ k, k < V.heap.size → k ≠ A.bL → ¬ T k → l0.ownBlock ≠ some k → W.heap[k]? = V.heap[k]? := fun k hk h1 h2 h3 => hL.fr.block k hk (by
    rintro (c9 | c9 | c9)
    · exact h1 c9
    · exact h2 (hv0 k c9)
    · exact h3 c9)
  have xs : ∀ k, SX k → W.heap[k]? = V.heap[k]? := fun k hS => old k (h.xl k hS) (h.dx k hS).2.2.1 (h.dx k hS).2.1 (fun e => (hl0 k e).1 hS)
  have dss : ∀ k, SD k → W.heap[k]? = V.heap[k]? := fun k hS => old k (h.d.doc.lt k hS) (h.dd k hS).2.1 (h.dd k hS).1 (fun e => (hl0 k e).2.1 hS)
  have hbL := h.row.lt
  have hbX := h.obj.lt
  exact {
    row := hrow
    obj := h.obj.of_block (old _ hbX (fun e => h.ne e.symm) (fun c9 => (h.dt _ c9).2 rfl) (fun e => (hl0 _ e).2.2.2.2 rfl))
    x := xo.stay _ _ _ _ _ h.x xs (fun _ q => q) (fun k hS => Nat.lt_of_lt_of_le (h.xl k hS) hz)
    xl := fun k hS => Nat.lt_of_lt_of_le (h.xl k hS) hz
    d := h.d.stay2 dss hz
    m := hm
    i := hi
    tl := fun k hk => by
      rcases hk with q | q | q
      · exact Nat.lt_of_lt_of_le (h.tl k q) hz
      · exact Nat.lt_of_lt_of_le (hl0l k q) hz
      · exact q.2
    dx := fun k hS => ⟨(h.dx k hS).1, fun c9 => by
      rcases c9 with q | q | q
      · exact (h.dx k hS).2.1 q
      · exact (hl0 k q).1 hS
      · have := h.xl k hS; omega, (h.dx k hS).2.2⟩
    dd := fun k hS => ⟨fun c9 => by
      rcases c9 with q | q | q
      · exact (h.dd k hS).1 q
      · exact (hl0 k q).2.1 hS
      · have := h.d.doc.lt k hS; omega, (h.dd k hS).2⟩
    dt := fun k hk => by
      rcases hk with q | q | q
      · exact h.dt k q
      · exact (hl0 k q).2.2.2
      · exact ⟨by omega, by omega⟩
    ne := h.ne }
theorem LW.lgo {T' : Nat → Prop} {lab' : Nat → Nat} {ms' is' : Value} {es1' es2' : List (Value × Nat)} (h' : LW P D X A SX SD T' lab' ms' is' es1' es2' Y Y W) (hu : ∀ k, SX k ∨ SD k ∨ T k ∨ k = A.bL ∨ k = A.bX → U k) (ul : ∀ k, U k → k < w.heap.size) (hT : ∀ k, T' k → T k ∨ (w.heap.size ≤ k ∧ k < W.heap.size)) (z1 : es1'.length ≤ Z) (z2 : es2'.length ≤ Z) (hf : Fr U w W) : LGo P D X A Z U w Y W := by
  refine ⟨⟨⟨_, _, _, _, _, _, _, _, h', fun k hk => ?_, z1, z2⟩, fun k hk => ?_⟩, hf⟩
  · rcases hk with c | c | c | c
    · exact .inl (hu k (.inl c))
    · exact .inl (hu k (.inr (.inl c)))
    · rcases hT k c with q | q
      · exact .inl (hu k (.inr (.inr (.inl q))))
      · exact .inr q
    · exact .inl (hu k (.inr (.inr (.inr c))))
  · rcases hk with c | c
    · exact Nat.lt_of_lt_of_le (ul k c) hf.size
    · exact c.2
set_option maxRecDepth 20000 in
set_option maxHeartbeats 2000000 in
theorem lawOrder2 (xo : XOk P tell D A.tE A.bN X fBe fSt fAn fDo fOr fTe fBo) (ds : DS P tell sz HM AuT D) (h : Law P D X A Z U Y w) (hK : Lim D 1000000000 Y) (hZ : Z ≤ 1000000000000) :
    Calls Tryz.prog 49 #[.pointer (some ⟨A.bL, 0, none⟩)] w fun e w' => e = .returned (.bool true) ∧ LGo P D X A (Z + 4) U w Y w' := by
  obtain ⟨⟨SX, SD, T, lab, ms, is, es1, es2, hl, hu, z1, z2⟩, ul⟩ := h
  have c0 : w.cell? ⟨A.bL, 0, none⟩ = some (.pointer (some ⟨A.bX, 0, none⟩)) := hl.row.cell_of rfl
  have c1 : w.cell? ⟨A.bL, 1, none⟩ = some (.pointer (some ⟨D.b, 0, none⟩)) := hl.row.cell_of rfl
  have cx : w.cell? ⟨A.bX, 0, none⟩ = some (.iface A.tE (.pointer (some ⟨A.bN, 0, none⟩))) := hl.obj.cell_of rfl
  have hm := xo.mOr
  have hc := xo.cOr
  have hall : Y.order.length ≤ 1000000000000 := by rw [order_len]; exact Nat.le_trans (hl.d.ask ds hK).all (by decide)
  have HA1 := hide (xo.or _ _ _ hl.x hK)
  have HA2 := hide (fun (W : World) (hb : Below w.heap.size w W) => Order_d ds (hl.below xo hb).d hK)
  have HL := hide hl
  have HX := hide xo
  have HU := hide (And.intro hu ul)
  clear hl xo ds hu ul hK
  go_enter Tryz.func49, Tryz.ntmps49
  go_wp2_with fail
  refine HA1.out.mono ?_
  rintro e w1 ⟨va, rfl, hOa, hb1⟩
  have d1 := cell_later hb1 c1
  have HB1 := hide hb1
  have HOa := hide hOa
  clear hb1 c0 c1 cx hm hc hOa
  go_wp2_with fail
  refine (HA2.out _ HB1.out).mono ?_
  rintro e w2 ⟨vb, rfl, hOb, hb2⟩
  have HB2 := hide (Below.next HB1.out hb2 HB1.out.size)
  have HOa2 := hide (owns_later HOa.out hb2)
  have HOb := hide hOb
  clear hb2 hOb d1
  go_wp2_with fail
  refine (sameMarks_any Y.order hall va vb _ _ HOa2.out HOb.out).mono ?_
  rintro e w3 ⟨rfl, hb3⟩
  have HB3 := hide (Below.next HB2.out hb3 HB2.out.size)
  have HOa3 := hide (owns_later HOa2.out hb3)
  clear hb3
  have hl3 := HL.out.below HX.out HB3.out
  have hfa : ∀ k, va.ownBlock = some k → w.heap.size ≤ k := fun k e => (HOa3.out.lt k e).1
  have hl0 : ∀ k, va.ownBlock = some k → ¬ SX k ∧ ¬ SD k ∧ ¬ T k ∧ k ≠ A.bL ∧ k ≠ A.bX := fun k e => by
    have q := hfa k e
    have r1 := HL.out.row.lt
    have r2 := HL.out.obj.lt
    exact ⟨fun c9 => by have := HL.out.xl k c9; omega, fun c9 => by have := HL.out.d.doc.lt k c9; omega, fun c9 => by have := HL.out.tl k c9; omega, by omega, by omega⟩
  have HOW := hide (ownMarks_any A.bL _ _ is ms va es1 w3 hl3.row hl3.m.own (by omega) Y.order.length (markcs Y.order) (owns_base HOa3.out (Nat.zero_le _)) hall (fun e => (hl0 _ e).2.2.2.1 rfl) (fun e => (hl3.dt _ (hl3.m.blk _ e).1).1 rfl) (fun g e c9 => (hl0 g e).2.2.1 (hl3.m.blk g c9).1))
  have HL3 := hide hl3
  have HL0 := hide hl0
  have HFA := hide hfa
  clear hl3 hl0 hfa
  go_wp2_with fail
  refine HOW.out.mono ?_
  rintro e w4 ⟨rfl, l, v, ss, hY⟩
  have HY := hide hY
  clear hY
  go_wp2_with fail
  go_ret
  refine ⟨rfl, ?_⟩
  have hT : ∀ k, T k → k < w3.heap.size ∧ k ≠ A.bL := fun k q => ⟨HL3.out.tl k q, (HL3.out.dt k q).1⟩
  have hM := HL3.out.m.laid hT (fun k e => (HL0.out k e).2.2.1) (by decide) HY.out (by omega)
  have hI := HL3.out.i.beside hT (fun k e => (HL0.out k e).2.2.1) (c' := 1) (fun k e => (HL3.out.m.blk k e).2) (by decide) HY.out
  have hN := HL3.out.rest HX.out HL0.out (fun k e => (HOa3.out.lt k e).2) (fun k e => (HL3.out.m.blk k e).1) HY.out v is _ _ HY.out.row hM hI
  refine hN.lgo (T := T) HU.out.1 HU.out.2 (fun k hk => ?_) (by simp [HY.out.len]; omega) (by omega) ?_
  · rcases hk with q | q | q
    · exact .inl q
    · exact .inr ⟨HFA.out k q, Nat.lt_of_lt_of_le (HOa3.out.lt k q).2 HY.out.fr.size⟩
    · exact .inr ⟨by have := HB3.out.size; omega, q.2⟩
  · refine Fr.grow (own := U) (Fr.of_below HB3.out) HY.out.fr (fun k hk => ?_)
    rcases hk with q | q | q
    · exact .inl (HU.out.1 k (.inr (.inr (.inr (.inl q)))))
    · exact .inl (HU.out.1 k (.inr (.inr (.inl (HL3.out.m.blk k q).1))))
    · exact .inr (HFA.out k q)
theorem owns_sl {w : World} {base : Nat} {v : Value} {xs : List Int} (h : w.ownsRow base 3 1 v xs.length (ints xs)) : Sl w v (ints xs) := by
  rcases h.2 with ⟨rfl, e⟩ | ⟨g, cap, cur, rfl, h3, h4, h5, h6, h7, h8⟩
  · have : xs = [] := List.eq_nil_of_length_eq_zero e
    subst this
    exact Sl.nil w
  · refine ⟨some ⟨g, 0, none⟩, cap, by rw [length_ints], by rw [length_ints]; exact h5, h6, .inr ⟨g, 0, rfl, fun j x hj => ?_⟩⟩
    have := h.cells (g := g) rfl j x hj
    rwa [addr_add] at this
set_option maxRecDepth 20000 in
set_option maxHeartbeats 2000000 in
theorem lawState2 (xo : XOk P tell D A.tE A.bN X fBe fSt fAn fDo fOr fTe fBo) (ds : DS P tell sz HM AuT D) (h : Law P D X A Z U Y w) (hK : Lim D 1000000000 Y) (hZ : Z ≤ 1000000000000) (hall : (tell (rpAt P Y Y.order.length).st).length ≤ 1000000000000) :
    Calls Tryz.prog 50 #[.pointer (some ⟨A.bL, 0, none⟩)] w fun e w' => e = .returned (.bool true) ∧ LGo P D X A (Z + 4) U w Y w' := by
  obtain ⟨⟨SX, SD, T, lab, ms, is, es1, es2, hl, hu, z1, z2⟩, ul⟩ := h
  have c0 : w.cell? ⟨A.bL, 0, none⟩ = some (.pointer (some ⟨A.bX, 0, none⟩)) := hl.row.cell_of rfl
  have c1 : w.cell? ⟨A.bL, 1, none⟩ = some (.pointer (some ⟨D.b, 0, none⟩)) := hl.row.cell_of rfl
  have cx : w.cell? ⟨A.bX, 0, none⟩ = some (.iface A.tE (.pointer (some ⟨A.bN, 0, none⟩))) := hl.obj.cell_of rfl
  have hm := xo.mTe
  have hc := xo.cTe
  have HA1 := hide (xo.te _ _ _ hl.x hK)
  have HA2 := hide (fun (W : World) (hb : Below w.heap.size w W) => State_d ds (hl.below xo hb).d hK)
  have HL := hide hl
  have HX := hide xo
  have HU := hide (And.intro hu ul)
  clear hl xo ds hu ul hK
  generalize tell (rpAt P Y Y.order.length).st = xs at *
  go_enter Tryz.func50, Tryz.ntmps50
  go_wp2_with fail
  refine HA1.out.mono ?_
  rintro e w1 ⟨va, rfl, hOa, hb1⟩
  have d1 := cell_later hb1 c1
  have HB1 := hide hb1
  have HOa := hide hOa
  clear hb1 c0 c1 cx hm hc hOa
  go_wp2_with fail
  refine (HA2.out _ HB1.out).mono ?_
  rintro e w2 ⟨vb, rfl, hOb, hb2⟩
  have HB2 := hide (Below.next HB1.out hb2 HB1.out.size)
  have HOa2 := hide (owns_later HOa.out hb2)
  have HOb := hide hOb
  clear hb2 hOb d1
  go_wp2_with fail
  refine (sameInts_any xs xs va vb _ (owns_sl HOa2.out) (owns_sl HOb.out)).mono ?_
  rintro e w3 ⟨rfl, k3, rfl⟩
  have hb3 : Below w2.heap.size w2 (w2.drewN k3) := Below.drewN (Below.refl _ _) _
  generalize w2.drewN k3 = w3 at *
  rw [decide_eq_true (rfl : xs = xs)]
  have HB3 := hide (Below.next HB2.out hb3 HB2.out.size)
  have HOa3 := hide (owns_later HOa2.out hb3)
  clear hb3
  have hl3 := HL.out.below HX.out HB3.out
  have hfa : ∀ k, va.ownBlock = some k → w.heap.size ≤ k := fun k e => (HOa3.out.lt k e).1
  have hl0 : ∀ k, va.ownBlock = some k → ¬ SX k ∧ ¬ SD k ∧ ¬ T k ∧ k ≠ A.bL ∧ k ≠ A.bX := fun k e => by
    have q := hfa k e
    have r1 := HL.out.row.lt
    have r2 := HL.out.obj.lt
    exact ⟨fun c9 => by have := HL.out.xl k c9; omega, fun c9 => by have := HL.out.d.doc.lt k c9; omega, fun c9 => by have := HL.out.tl k c9; omega, by omega, by omega⟩
  have HOW := hide (ownInts_any A.bL _ _ ms is va es2 w3 hl3.row hl3.i.own (by omega) xs.length (ints xs) (owns_base HOa3.out (Nat.zero_le _)) hall (fun e => (hl0 _ e).2.2.2.1 rfl) (fun e => (hl3.dt _ (hl3.i.blk _ e).1).1 rfl) (fun g e c9 => (hl0 g e).2.2.1 (hl3.i.blk g c9).1))
  have HL3 := hide hl3
  have HL0 := hide hl0
  have HFA := hide hfa
  clear hl3 hl0 hfa
  go_wp2_with fail
  refine HOW.out.mono ?_
  rintro e w4 ⟨rfl, l, v, ss, hY⟩
  have HY := hide hY
  clear hY
  go_wp2_with fail
  go_ret
  refine ⟨rfl, ?_⟩
  have hT : ∀ k, T k → k < w3.heap.size ∧ k ≠ A.bL := fun k q => ⟨HL3.out.tl k q, (HL3.out.dt k q).1⟩
  have hI := HL3.out.i.laid hT (fun k e => (HL0.out k e).2.2.1) (by decide) HY.out (by omega)
  have hM := HL3.out.m.beside hT (fun k e => (HL0.out k e).2.2.1) (c' := 2) (fun k e => (HL3.out.i.blk k e).2) (by decide) HY.out
  have hN := HL3.out.rest HX.out HL0.out (fun k e => (HOa3.out.lt k e).2) (fun k e => (HL3.out.i.blk k e).1) HY.out ms v _ _ HY.out.row hM hI
  refine hN.lgo (T := T) HU.out.1 HU.out.2 (fun k hk => ?_) (by omega) (by simp [HY.out.len]; omega) ?_
  · rcases hk with q | q | q
    · exact .inl q
    · exact .inr ⟨HFA.out k q, Nat.lt_of_lt_of_le (HOa3.out.lt k q).2 HY.out.fr.size⟩
    · exact .inr ⟨by have := HB3.out.size; omega, q.2⟩
  · refine Fr.grow (own := U) (Fr.of_below HB3.out) HY.out.fr (fun k hk => ?_)
    rcases hk with q | q | q
    · exact .inl (HU.out.1 k (.inr (.inr (.inr (.inl q)))))
    · exact .inl (HU.out.1 k (.inr (.inr (.inl (HL3.out.i.blk k q).1))))
    · exact .inr (HFA.out k q)
end
end Go.Proofs.YtefjhnhdagolhaaGreat
