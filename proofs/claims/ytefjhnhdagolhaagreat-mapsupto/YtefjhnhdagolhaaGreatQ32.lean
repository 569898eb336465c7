import Derived.Test.YtefjhnhdagolhaaGreatQ25
namespace Go.Proofs.YtefjhnhdagolhaaGreat
open Go.RowKit
attribute [local go_sem ↓] Go.wp_at_zero Go.wp_at_succ
def LayI2 (V : World) (bL : Nat) (x y ms v0 l0 : Value) (es0 : List (Value × Nat)) (i n : Nat) (l : Value) (W : World) : Prop := ∃ v ss, Lay2 V bL 102 3 1 (intCell es0.length) es0.length (fun v => [x, y, ms, v]) v0 l0 es0 i n v l ss W
set_option maxRecDepth 20000 in
set_option maxHeartbeats 4000000 in
theorem ownInts_any (bL : Nat) (x y ms v0 l0 : Value) (es0 : List (Value × Nat)) (V : World) (hR : Row V bL 90 [x, y, ms, v0]) (hv : V.ownsRow 0 102 2 v0 es0.length (laid es0)) (hes : es0.length ≤ 1000000000000) (n : Nat) (xs : List Value) (hO : V.ownsRow 0 3 1 l0 n xs) (hn : n ≤ 1000000000000)
    (h1 : l0.ownBlock ≠ some bL) (h2 : v0.ownBlock ≠ some bL) (h3 : ∀ g, l0.ownBlock = some g → v0.ownBlock ≠ some g) :
    Calls Tryz.prog 83 #[.pointer (some ⟨bL, 0, none⟩), l0] V fun e w' => e = .returned (.tuple #[]) ∧ ∃ l, LayI2 V bL x y ms v0 l0 es0 4 (n + 3) l w' := by
  obtain ⟨ti, hti, htz⟩ := Option.map_eq_some_iff.1 info_iout
  simp only [Prod.mk.injEq] at htz
  obtain ⟨htz1, htz2, htz3⟩ := htz
  have HTI := hide hti
  have HT1 := hide htz1
  have HT2 := hide htz2
  have HT3 := hide htz3
  obtain ⟨mi, hmi, hmz⟩ := Option.map_eq_some_iff.1 info_i3
  simp only [Prod.mk.injEq] at hmz
  obtain ⟨hmz1, hmz2, hmz3⟩ := hmz
  have HMI := hide hmi
  have HM1 := hide hmz1
  have HM2 := hide hmz2
  have HM3 := hide hmz3
  obtain ⟨⟨va, vc, rfl⟩, -⟩ := owns_form hv
  have c2 : V.cell? ⟨bL, 3, none⟩ = some (.slice va es0.length vc) := hR.cell_of rfl
  have hbl := hR.lt
  have hl0 : ∃ a c, l0 = .slice a n c ∧ (0 < n → ∃ g, a = some ⟨g, 0, none⟩) := by
    rcases hO.2 with ⟨rfl, rfl⟩ | ⟨g, cap, cur, rfl, -⟩
    · exact ⟨none, 0, rfl, fun h => absurd h (by decide)⟩
    · exact ⟨_, cap, rfl, fun _ => ⟨g, rfl⟩⟩
  obtain ⟨la, lc, rfl, hla⟩ := hl0
  have hxl : xs.length = n * 1 := hO.1
  have HLA := hide hla
  have HRV := hide (And.intro hR hv)
  have HNE := hide (And.intro h1 (And.intro h2 h3))
  have HS := hide (show Fr (fun k => (Value.slice la n lc).ownBlock = some k) V V ∧ V.ownsRow 0 3 1 (.slice la n lc) n (filled (intCell es0.length) (0 * 1) xs) from ⟨Fr.refl _ _, by rw [Nat.zero_mul, filled_zero]; exact hO⟩)
  clear hti htz1 htz2 htz3 hR hmi hmz1 hmz2 hmz3 hv hO hla h1 h2 h3
  go_enter Tryz.func83, Tryz.ntmps83
  go_wp2
  go_loopw [5] (fun i w' => ∃ j : Nat, j ≤ n ∧ i = .int .i64 (j : Int) ∧ Fr (fun k => (Value.slice la n lc).ownBlock = some k) V w' ∧ w'.ownsRow 0 3 1 (.slice la n lc) n (filled (intCell es0.length) (j * 1) xs)) (fun i _ => n - (intOf i).toNat)
  case atStart => exact ⟨0, Nat.zero_le _, rfl, HS.out⟩
  case round =>
    obtain ⟨j, hj, rfl, hF, hO⟩ := hrel
    by_cases hlt : j < n
    · obtain ⟨g, rfl⟩ := HLA.out (by omega)
      have hlt' : (j : Int) < (n : Int) := by omega
      have hj0 : (0 : Int) ≤ (j : Int) := by omega
      have HX := hide (And.intro hF hO)
      clear hF hO
      have hO2 := HX.out.2
      obtain ⟨u0, k0⟩ : ∃ u, wr.cell? ⟨g, j, none⟩ = some u := by
        rw [hO2.cellAt j (by omega), List.getElem?_eq_getElem (by rw [hO2.1]; omega)]
        exact ⟨_, rfl⟩
      have f0 := hO2.frozenAt j
      clear hO2
      go_wp2_with fail
      go_roundw
      case rel =>
        refine ⟨j + 1, by omega, by go_num, HX.out.1.here rfl _ _, ?_⟩
        have := (HX.out.2.stored j (intCell es0.length j)).1
        rw [Nat.mul_one, filled_next (by omega)] at this
        rw [Nat.mul_one]
        exact this
      case measure => simp [intOf]; omega
    · have hlt' : ¬ (j : Int) < (n : Int) := by omega
      have hjn : j = n := by omega
      subst hjn
      rw [filled_all hxl] at hO
      have hrow : Row wr bL 90 [x, y, ms, .slice va es0.length vc] := HRV.out.1.of_block (hF.block bL hbl HNE.out.1)
      have hvl := HRV.out.2.lt
      have hL : Lay2 V bL 102 3 1 (intCell es0.length) es0.length (fun v => [x, y, ms, v]) (.slice va es0.length vc) (.slice la j lc) es0 0 j (.slice va es0.length vc) (.slice la j lc) [] wr :=
        ⟨rfl, hrow, by simpa using owns_block HRV.out.2 (fun k e => hF.block k (hvl k e).2 (fun q => HNE.out.2.2 k q e)), hO, fun s hs => absurd hs List.not_mem_nil, fun g e => .inl e, fun g e => ⟨.inl e, fun q => HNE.out.2.2 g e q⟩, ⟨hbl, HNE.out.1, HNE.out.2.1⟩, ⟨hF.os, hF.tape, hF.output, hF.size, fun k hk ho => hF.block k hk (fun c => ho (.inr (.inr c)))⟩⟩
      have d2 : wr.cell? ⟨bL, 3, none⟩ = some (.slice va es0.length vc) := hrow.cell_of rfl
      have HL := hide hL
      clear hF hO hrow hL hvl
      go_wp2_with (at_builtin; refine wpList_append_keep _ rfl (.tmp 27) (.tmp 31) 88 rfl 0 102 ti (.agg #[.slice none 0 0, .int .i64 0]) 2 32 Tryz.underlying88 HTI.out HT1.out HT2.out HT3.out rfl (by decide) _ (es0.length + 0) _ rfl (HL.out.next (below_alloc _ _)).own ⟨wr.heap.size, 0, none⟩ 1 1 [.slice la j lc, .int .i64 (es0.length : Int)] rfl rfl (World.news_of_block (Row.new _ _ _)) (by simp [Value.oneCell']) (by decide) (by unfold maxLen; omega) (by omega) (Nat.zero_le _) ?_)
      intro gm cm w1 hown hgr hlt2 hk
      have hL1 := (HL.out.next (below_alloc wr _)).put (f := 3) (g := gm) (cap := cm) (fun _ _ => rfl) (by simpa using hown) hgr (hk.imp id (fun q => by simpa using q.1))
      have hr1 : Row w1 bL 90 [x, y, ms, .slice va es0.length vc] := (HL.out.next (below_alloc wr _)).row.of_block (hgr.block _ (HL.out.next (below_alloc wr _)).row.lt (fun e => HNE.out.2.1 e.symm))
      have d2' : w1.cell? ⟨bL, 3, none⟩ = some (.slice va es0.length vc) := hr1.cell_of rfl
      have f2 := hr1.frozen 3
      have HL1 := hide (show LayI2 V bL x y ms (.slice va es0.length vc) (.slice la j lc) es0 1 j (.slice la j lc) (w1.setCell ⟨bL, 3, none⟩ (.slice (some ⟨gm, 0, none⟩) (es0.length + 1) cm)) from ⟨_, _, hL1⟩)
      clear hown hgr hlt2 hk hL1 hr1 d2 c2
      go_wp2
      go_loopw [1, 6] (fun l i w' => ∃ k : Nat, k ≤ 3 ∧ i = .int .i64 (k : Int) ∧ LayI2 V bL x y ms (.slice va es0.length vc) (.slice la j lc) es0 (k + 1) (j + k) l w') (fun _ i _ => 3 - (intOf i).toNat)
      case atStart => exact ⟨0, by decide, rfl, HL1.out⟩
      case round =>
        obtain ⟨k, hk, rfl, v, ss, hY⟩ := hrel
        have HY := hide hY
        clear hY
        by_cases hlt2 : k < 3
        · have hlt2' : (k : Int) < 3 := by omega
          have HY2 := HY
          have hszw := HY.out.fr.size
          go_wp2_with (at_builtin; refine wpList_append_keep _ rfl (.tmp 39) (.tmp 42) 22 rfl 0 3 mi (.int .i64 0) 1 8 Tryz.underlying22 HMI.out HM1.out HM2.out HM3.out rfl (by decide) _ (j + k) _ rfl (HY2.out.next (below_alloc _ _)).lis ⟨wr.heap.size, 0, none⟩ 1 1 [.int .i64 (-1 - (es0.length : Int))] rfl rfl (World.news_of_block (Row.new _ _ _)) (by simp [Value.oneCell']) (by decide) (by unfold maxLen; omega) (by omega) (Nat.zero_le _) ?_)
          intro g3 c3 w3 hown hgr hl3 hk3
          have hY3 := (HY2.out.next (below_alloc wr _)).more (g := g3) (cap := c3) (full_int _ _) (by rw [Nat.mul_one]; exact hown) hgr (hk3.imp id (fun q => ⟨by simpa using q.1, by simpa using q.2⟩))
          obtain ⟨⟨va3, vc3, rfl⟩, -⟩ := owns_form hY3.own
          have r2 : w3.cell? ⟨bL, 3, none⟩ = some (.slice va3 (es0.length + (k + 1)) vc3) := hY3.row.cell_of rfl
          have HY3 := hide hY3
          clear hown hgr hl3 hk3 hY3
          go_wp2_with (at_builtin; refine wpList_append_keep _ rfl (.tmp 48) (.tmp 52) 88 rfl 0 102 ti (.agg #[.slice none 0 0, .int .i64 0]) 2 32 Tryz.underlying88 HTI.out HT1.out HT2.out HT3.out rfl (by decide) _ (es0.length + (k + 1)) _ rfl (HY3.out.next (below_alloc _ _)).own ⟨w3.heap.size, 0, none⟩ 1 1 [.slice (some ⟨g3, 0, none⟩) (j + k + 1) c3, .int .i64 (es0.length : Int)] rfl rfl (World.news_of_block (Row.new _ _ _)) (by simp [Value.oneCell']) (by decide) (by unfold maxLen; omega) (by omega) (Nat.zero_le _) ?_)
          intro g4 c4 w4 hown hgr hl4 hk4
          have hY4 := (HY3.out.next (below_alloc w3 _)).put (f := 3) (g := g4) (cap := c4) (fun _ _ => rfl) (by first | exact hown | simpa [Nat.add_assoc] using hown) hgr (hk4.imp id (fun q => by simpa using q.1))
          have hr4 : Row w4 bL 90 [x, y, ms, .slice va3 (es0.length + (k + 1)) vc3] := (HY3.out.next (below_alloc w3 _)).row.of_block (hgr.block _ (HY3.out.next (below_alloc w3 _)).row.lt (fun e => HY3.out.vne e.symm))
          have s2 : w4.cell? ⟨bL, 3, none⟩ = some (.slice va3 (es0.length + (k + 1)) vc3) := hr4.cell_of rfl
          have f4 := hr4.frozen 3
          have HY4 := hide (show LayI2 V bL x y ms (.slice va es0.length vc) (.slice la j lc) es0 (k + 1 + 1) (j + (k + 1)) (.slice (some ⟨g3, 0, none⟩) (j + k + 1) c3) _ from ⟨_, _, hY4⟩)
          clear hown hgr hl4 hk4 hY4 hr4 r2
          go_wp2
          go_roundw
          case rel => exact ⟨k + 1, by omega, by go_num, HY4.out⟩
          case measure => simp [intOf]; omega
        · have hlt2' : ¬ (k : Int) < 3 := by omega
          have hk3 : k = 3 := by omega
          subst hk3
          go_wp2
          exact bodyPost_end (v := .tuple #[]) (by simp [results, Tryz.results83, go_sem]) rfl ⟨rfl, _, _, _, HY.out⟩
end Go.Proofs.YtefjhnhdagolhaaGreat
namespace Go.Proofs.YtefjhnhdagolhaaGreat
open Go.RowKit
open M (upd upd_same upd_other RSt RTh cnt marks tagged num YI)
structure Outs (tO : TypeId) (mk : Nat → Nat → Value) (sz : Nat) (T : Nat → Prop) (lab : Nat → Nat) (c : Nat) (v : Value) (es : List (Value × Nat)) (w : World) : Prop where
  own : w.ownsRow 0 tO 2 v es.length (laid es)
  blk : ∀ k, v.ownBlock = some k → T k ∧ lab k = c
  rds : ∀ e ∈ es, e.2 ≤ es.length ∧ Reads (mk e.2) sz 1099511627776 e.1 w ∧ ∀ k, e.1.ownBlock = some k → T k ∧ lab k = 3
theorem Outs.stay {tO : TypeId} {mk : Nat → Nat → Value} {sz : Nat} {T T' : Nat → Prop} {lab lab' : Nat → Nat} {c : Nat} {v : Value} {es : List (Value × Nat)} {w w' : World} (h : Outs tO mk sz T lab c v es w) (hk : ∀ k, T k → w'.heap[k]? = w.heap[k]?) (hT : ∀ k, T k → T' k ∧ lab' k = lab k) (hz : w.heap.size ≤ w'.heap.size) : Outs tO mk sz T' lab' c v es w' :=
  ⟨owns_block h.own fun k e => hk k (h.blk k e).1, fun k e => ⟨(hT k (h.blk k e).1).1, (hT k (h.blk k e).1).2.trans (h.blk k e).2⟩, fun e he => ⟨(h.rds e he).1, (h.rds e he).2.1.block hz (fun k q => hk k ((h.rds e he).2.2 k q).1), fun k q => ⟨(hT k ((h.rds e he).2.2 k q).1).1, (hT k ((h.rds e he).2.2 k q).1).2.trans ((h.rds e he).2.2 k q).2⟩⟩⟩
theorem Outs.entries {tO : TypeId} {mk : Nat → Nat → Value} {sz : Nat} {T : Nat → Prop} {lab : Nat → Nat} {c : Nat} {v : Value} {es : List (Value × Nat)} {w : World} (h : Outs tO mk sz T lab c v es w) : Entries w v es := by
  obtain ⟨⟨a, cc, e⟩, -⟩ := owns_form h.own
  refine ⟨a, cc, e, fun h0 => ?_⟩
  have gt : ∀ (es : List (Value × Nat)) (t : Nat) (s : Value) (k : Nat), es[t]? = some (s, k) → (laid es)[t * 2]? = some s ∧ (laid es)[t * 2 + 1]? = some (.int .i64 (k : Int)) := by
    intro es
    induction es with
    | nil => intro t s k ht; simp at ht
    | cons x es ih =>
      intro t s k ht
      have e : laid (x :: es) = x.1 :: .int .i64 (x.2 : Int) :: laid es := by simp [laid]
      cases t with
      | zero => simp at ht; subst ht; rw [e]; exact ⟨rfl, rfl⟩
      | succ t =>
        have := ih t s k (by simpa using ht)
        rw [e, show (t + 1) * 2 = t * 2 + 1 + 1 by omega]
        simpa using this
  rcases h.own.2 with ⟨q, q2⟩ | ⟨g, cap, cur, q, -, -, -⟩
  · omega
  · rw [e] at q
    injection q with q1 q2 q3
    subst q1 q3
    refine ⟨g, rfl, (h.own.lt g (by rw [e]; rfl)).2, fun t s k ht => ?_⟩
    obtain ⟨p1, p2⟩ := gt es t s k ht
    have r1 := h.own.cells (g := g) (by rw [e]; rfl) _ _ p1
    have r2 := h.own.cells (g := g) (by rw [e]; rfl) _ _ p2
    rw [addr_add, Nat.zero_add] at r1 r2
    exact ⟨r1, r2⟩
structure LL where
  bL : Nat
  bX : Nat
  tE : TypeId
  bN : Nat
section
variable {σ : Type}
structure LW (P : M.Plain σ) (D : DL) (X : (Nat → Prop) → RSt → World → Prop) (A : LL) (SX SD T : Nat → Prop) (lab : Nat → Nat) (ms is : Value) (es1 es2 : List (Value × Nat)) (YX YD : RSt) (w : World) : Prop where
  row : Row w A.bL 90 [.pointer (some ⟨A.bX, 0, none⟩), .pointer (some ⟨D.b, 0, none⟩), ms, is]
  obj : Row w A.bX 74 [.iface A.tE (.pointer (some ⟨A.bN, 0, none⟩))]
  x : X SX YX w
  xl : ∀ k, SX k → k < w.heap.size
  d : DW P AuT D SD YD w
  m : Outs 99 markCell 3 T lab 1 ms es1 w
  i : Outs 102 intCell 1 T lab 2 is es2 w
  tl : ∀ k, T k → k < w.heap.size
  dx : ∀ k, SX k → ¬ SD k ∧ ¬ T k ∧ k ≠ A.bL ∧ k ≠ A.bX
  dd : ∀ k, SD k → ¬ T k ∧ k ≠ A.bL ∧ k ≠ A.bX
  dt : ∀ k, T k → k ≠ A.bL ∧ k ≠ A.bX
  ne : A.bL ≠ A.bX
variable {P : M.Plain σ} {tell : σ → List Int} {sz : σ → Nat} {HM : World → Value → σ → Prop} {D : DL} {X : (Nat → Prop) → RSt → World → Prop} {A : LL} {SX SD T : Nat → Prop} {lab : Nat → Nat} {ms is : Value} {es1 es2 : List (Value × Nat)} {YX YD Y' : RSt} {w w1 : World} {fBe fSt fAn fDo fOr fTe fBo : Nat}
theorem DW.stay2 {S : Nat → Prop} {Y : RSt} (h : DW P AuT D S Y w) (hk : ∀ k, S k → w1.heap[k]? = w.heap[k]?) (hz : w.heap.size ≤ w1.heap.size) : DW P AuT D S Y w1 :=
  ⟨h.doc.stay hk (fun _ q => q) (fun k q => Nat.lt_of_lt_of_le (h.doc.lt k q) hz), h.yi, 0, fun _ _ => Nat.zero_le _, Nat.zero_le _, trivial⟩
theorem LW.stay (xo : XOk P tell D A.tE A.bN X fBe fSt fAn fDo fOr fTe fBo) (h : LW P D X A SX SD T lab ms is es1 es2 YX YD w) (hk : ∀ k, k < w.heap.size → w1.heap[k]? = w.heap[k]?) (hz : w.heap.size ≤ w1.heap.size) : LW P D X A SX SD T lab ms is es1 es2 YX YD w1 where
  row := h.row.of_block (hk _ h.row.lt)
  obj := h.obj.of_block (hk _ h.obj.lt)
  x := xo.stay _ _ _ _ _ h.x (fun k hS => hk k (h.xl k hS)) (fun _ q => q) (fun k hS => Nat.lt_of_lt_of_le (h.xl k hS) hz)
  xl k hS := Nat.lt_of_lt_of_le (h.xl k hS) hz
  d := h.d.stay2 (fun k hS => hk k (h.d.doc.lt k hS)) hz
  m := h.m.stay (fun k hT => hk k (h.tl k hT)) (fun _ hT => ⟨hT, rfl⟩) hz
  i := h.i.stay (fun k hT => hk k (h.tl k hT)) (fun _ hT => ⟨hT, rfl⟩) hz
  tl k hT := Nat.lt_of_lt_of_le (h.tl k hT) hz
  dx := h.dx
  dd := h.dd
  dt := h.dt
  ne := h.ne
theorem LW.below (xo : XOk P tell D A.tE A.bN X fBe fSt fAn fDo fOr fTe fBo) (h : LW P D X A SX SD T lab ms is es1 es2 YX YD w) (hb : Below w.heap.size w w1) : LW P D X A SX SD T lab ms is es1 es2 YX YD w1 := h.stay xo (fun k hk => hb.block k hk) hb.size
theorem LW.xgo (xo : XOk P tell D A.tE A.bN X fBe fSt fAn fDo fOr fTe fBo) (h : LW P D X A SX SD T lab ms is es1 es2 YX YD w) (hg : XGo X SX w Y' w1) : LW P D X A (Grow SX w w1) SD T lab ms is es1 es2 Y' YD w1 := by
  have hk : ∀ k, k < w.heap.size → ¬ SX k → w1.heap[k]? = w.heap[k]? := hg.fr.block
  have hz := hg.fr.size
  have hb := h.row.lt
  have hbx := h.obj.lt
  exact {
    row := h.row.of_block (hk _ hb (fun c => (h.dx _ c).2.2.1 rfl))
    obj := h.obj.of_block (hk _ hbx (fun c => (h.dx _ c).2.2.2 rfl))
    x := hg.x
    xl := xo.lt _ _ _ hg.x
    d := h.d.stay2 (fun k hS => hk k (h.d.doc.lt k hS) (fun c => (h.dx k c).1 hS)) hz
    m := h.m.stay (fun k hT => hk k (h.tl k hT) (fun c => (h.dx k c).2.1 hT)) (fun _ hT => ⟨hT, rfl⟩) hz
    i := h.i.stay (fun k hT => hk k (h.tl k hT) (fun c => (h.dx k c).2.1 hT)) (fun _ hT => ⟨hT, rfl⟩) hz
    tl := fun k hT => Nat.lt_of_lt_of_le (h.tl k hT) hz
    dx := fun k hS => by
      rcases hS with hS | hS
      · exact h.dx k hS
      · exact ⟨fun c => by have := h.d.doc.lt k c; omega, fun c => by have := h.tl k c; omega, by omega, by omega⟩
    dd := h.dd
    dt := h.dt
    ne := h.ne }
theorem LW.dgo (xo : XOk P tell D A.tE A.bN X fBe fSt fAn fDo fOr fTe fBo) (h : LW P D X A SX SD T lab ms is es1 es2 YX YD w) (hg : DGo P AuT D SD w Y' w1) : LW P D X A SX (Grow SD w w1) T lab ms is es1 es2 YX Y' w1 := by
  have hk : ∀ k, k < w.heap.size → ¬ SD k → w1.heap[k]? = w.heap[k]? := hg.fr.block
  have hz := hg.fr.size
  have hb := h.row.lt
  have hbx := h.obj.lt
  exact {
    row := h.row.of_block (hk _ hb (fun c => (h.dd _ c).2.1 rfl))
    obj := h.obj.of_block (hk _ hbx (fun c => (h.dd _ c).2.2 rfl))
    x := xo.stay _ _ _ _ _ h.x (fun k hS => hk k (h.xl k hS) (h.dx k hS).1) (fun _ q => q) (fun k hS => Nat.lt_of_lt_of_le (h.xl k hS) hz)
    xl := fun k hS => Nat.lt_of_lt_of_le (h.xl k hS) hz
    d := hg.dw
    m := h.m.stay (fun k hT => hk k (h.tl k hT) (fun c => (h.dd k c).1 hT)) (fun _ hT => ⟨hT, rfl⟩) hz
    i := h.i.stay (fun k hT => hk k (h.tl k hT) (fun c => (h.dd k c).1 hT)) (fun _ hT => ⟨hT, rfl⟩) hz
    tl := fun k hT => Nat.lt_of_lt_of_le (h.tl k hT) hz
    dx := fun k hS => ⟨fun c => by
      rcases c with c | c
      · exact (h.dx k hS).1 c
      · have := h.xl k hS; omega, (h.dx k hS).2⟩
    dd := fun k hS => by
      rcases hS with hS | hS
      · exact h.dd k hS
      · exact ⟨fun c => by have := h.tl k c; omega, by omega, by omega⟩
    dt := h.dt
    ne := h.ne }
structure Law (P : M.Plain σ) (D : DL) (X : (Nat → Prop) → RSt → World → Prop) (A : LL) (Z : Nat) (U : Nat → Prop) (Y : RSt) (w : World) : Prop where
  ex : ∃ SX SD T lab ms is es1 es2, LW P D X A SX SD T lab ms is es1 es2 Y Y w ∧ (∀ k, SX k ∨ SD k ∨ T k ∨ k = A.bL ∨ k = A.bX → U k) ∧ es1.length ≤ Z ∧ es2.length ≤ Z
  ul : ∀ k, U k → k < w.heap.size
structure LGo (P : M.Plain σ) (D : DL) (X : (Nat → Prop) → RSt → World → Prop) (A : LL) (Z : Nat) (U : Nat → Prop) (w : World) (Y' : RSt) (w' : World) : Prop where
  law : Law P D X A Z (Grow U w w') Y' w'
  fr : Fr U w w'
theorem LGo.next {Z Z' : Nat} {U : Nat → Prop} {Y'' : RSt} {w2 : World} (h : LGo P D X A Z U w Y' w1) (h' : LGo P D X A Z' (Grow U w w1) w1 Y'' w2) : LGo P D X A Z' U w Y'' w2 := by
  obtain ⟨⟨SX, SD, T, lab, ms, is, es1, es2, hl, hu, z1, z2⟩, -⟩ := h'.law
  refine ⟨⟨⟨SX, SD, T, lab, ms, is, es1, es2, hl, fun k hk => ?_, z1, z2⟩, fun k hk => ?_⟩, h.fr.grow h'.fr fun k hk => ?_⟩
  · rcases hu k hk with (c | c) | c
    · exact .inl c
    · exact .inr ⟨c.1, Nat.lt_of_lt_of_le c.2 h'.fr.size⟩
    · exact .inr ⟨Nat.le_trans h.fr.size c.1, c.2⟩
  · rcases hk with c | c
    · exact h'.law.ul k (.inl (.inl c))
    · exact c.2
  · rcases hk with c | c
    · exact .inl c
    · exact .inr c.1
theorem LW.both {Z : Nat} {U : Nat → Prop} {Y : RSt} {w2 : World} (xo : XOk P tell D A.tE A.bN X fBe fSt fAn fDo fOr fTe fBo) (h : LW P D X A SX SD T lab ms is es1 es2 Y Y w) (hu : ∀ k, SX k ∨ SD k ∨ T k ∨ k = A.bL ∨ k = A.bX → U k) (ul : ∀ k, U k → k < w.heap.size) (z1 : es1.length ≤ Z) (z2 : es2.length ≤ Z)
    (hgx : XGo X SX w Y' w1) (hgd : DGo P AuT D SD w1 Y' w2) : LGo P D X A Z U w Y' w2 := by
  have h1 := h.xgo xo hgx
  have h2 := h1.dgo xo hgd
  have s1 := hgx.fr.size
  have s2 := hgd.fr.size
  refine ⟨⟨⟨_, _, _, _, _, _, _, _, h2, fun k hk => ?_, z1, z2⟩, fun k hk => ?_⟩, ?_⟩
  · rcases hk with (c | c) | (c | c) | c
    · exact .inl (hu k (.inl c))
    · exact .inr ⟨c.1, by omega⟩
    · exact .inl (hu k (.inr (.inl c)))
    · exact .inr ⟨by omega, c.2⟩
    · exact .inl (hu k (.inr (.inr c)))
  · rcases hk with c | c
    · have := ul k c; omega
    · exact c.2
  · refine Fr.grow (own := U) (w1 := w1) ⟨hgx.fr.os, hgx.fr.tape, hgx.fr.output, s1, fun k hk hn => hgx.fr.block k hk (fun c => hn (hu k (.inl c)))⟩ hgd.fr (fun k hk => .inl (hu k (.inr (.inl hk))))
theorem Law.below {Z : Nat} {U : Nat → Prop} {Y : RSt} (xo : XOk P tell D A.tE A.bN X fBe fSt fAn fDo fOr fTe fBo) (h : Law P D X A Z U Y w) (hb : Below w.heap.size w w1) : LGo P D X A Z U w Y w1 := by
  obtain ⟨⟨SX, SD, T, lab, ms, is, es1, es2, hl, hu, z1, z2⟩, ul⟩ := h
  refine ⟨⟨⟨_, _, _, _, _, _, _, _, hl.below xo hb, fun k hk => .inl (hu k hk), z1, z2⟩, fun k hk => ?_⟩, Fr.of_below hb⟩
  rcases hk with c | c
  · exact Nat.lt_of_lt_of_le (ul k c) hb.size
  · exact c.2
theorem LGo.more {Z Z' : Nat} {U : Nat → Prop} (h : LGo P D X A Z U w Y' w1) (hz : Z ≤ Z') : LGo P D X A Z' U w Y' w1 := by
  obtain ⟨⟨⟨SX, SD, T, lab, ms, is, es1, es2, hl, hu, z1, z2⟩, ul⟩, fr⟩ := h
  exact ⟨⟨⟨_, _, _, _, _, _, _, _, hl, hu, Nat.le_trans z1 hz, Nat.le_trans z2 hz⟩, ul⟩, fr⟩
end
end Go.Proofs.YtefjhnhdagolhaaGreat
namespace Go.Proofs.YtefjhnhdagolhaaGreat
open Go.RowKit
open M (upd upd_same upd_other RSt RTh cnt marks tagged num YI)
attribute [local go_sem ↓] Go.wp_at_zero Go.wp_at_succ
def stepsY (n cap : Nat) (Y : RSt) (x : Int) : Nat → RSt | 0 => Y | k + 1 => stY n cap (stepsY n cap Y x k) x
theorem Lim.stY {D : DL} {K : Nat} {Y : RSt} (h : Lim D K Y) (x : Int) : Lim D (K + 1) (stY D.n D.cap Y x) := by
  unfold Go.Proofs.YtefjhnhdagolhaaGreat.stY
  split
  · split
    · exact h.mono (Nat.le_succ _)
    · exact h.step _
  · exact h.mono (Nat.le_succ _)
theorem Lim.stepsY {D : DL} {K : Nat} {Y : RSt} (h : Lim D K Y) (x : Int) : ∀ k, Lim D (K + k) (stepsY D.n D.cap Y x k)
  | 0 => h
  | k + 1 => (Lim.stepsY h x k).stY x
section
variable {σ : Type} {P : M.Plain σ} {tell : σ → List Int} {sz : σ → Nat} {HM : World → Value → σ → Prop} {D : DL} {X : (Nat → Prop) → RSt → World → Prop} {A : LL} {Y : RSt} {w : World} {fBe fSt fAn fDo fOr fTe fBo Z K : Nat} {U : Nat → Prop}
set_option maxRecDepth 20000 in
set_option maxHeartbeats 2000000 in
theorem lawSteps (xo : XOk P tell D A.tE A.bN X fBe fSt fAn fDo fOr fTe fBo) (ds : DS P tell sz HM AuT D) (h : Law P D X A Z U Y w) (hK : Lim D K Y) (x : Int) (n : Nat) (hn : K + n ≤ 900000000) :
    Calls Tryz.prog 44 #[.pointer (some ⟨A.bL, 0, none⟩), .int .i64 x, .int .i64 (n : Int)] w fun e w' => e = .returned (.bool true) ∧ LGo P D X A Z U w (stepsY D.n D.cap Y x n) w' := by
  have hm := xo.mSt
  have hc := xo.cSt
  have HX := hide xo
  have HD := hide ds
  have HL0 := hide (h.below xo (Below.refl _ _))
  have HK := hide hK
  clear h xo ds hK
  go_enter Tryz.func44, Tryz.ntmps44
  go_wp2
  go_loopw [7] (fun i w' => ∃ k : Nat, k ≤ n ∧ i = .int .i64 (k : Int) ∧ LGo P D X A Z U w (stepsY D.n D.cap Y x k) w') (fun i _ => n - (intOf i).toNat)
  case atStart => exact ⟨0, Nat.zero_le _, rfl, HL0.out⟩
  case round =>
    obtain ⟨k, hk, rfl, hG⟩ := hrel
    by_cases hlt : k < n
    · have hlt' : (k : Int) < (n : Int) := by omega
      obtain ⟨⟨SX, SD, T, lab, ms, is, es1, es2, hl, hu, z1, z2⟩, ul⟩ := hG.law
      have hLk := HK.out.stepsY x k
      have c0 : wr.cell? ⟨A.bL, 0, none⟩ = some (.pointer (some ⟨A.bX, 0, none⟩)) := hl.row.cell_of rfl
      have cx : wr.cell? ⟨A.bX, 0, none⟩ = some (.iface A.tE (.pointer (some ⟨A.bN, 0, none⟩))) := hl.obj.cell_of rfl
      have HS := hide (HX.out.st _ _ _ x hl.x (hLk.mono (by omega)))
      have HXG := hide (fun w1 (hg : XGo X SX wr (stY D.n D.cap (stepsY D.n D.cap Y x k) x) w1) => And.intro ((hl.xgo HX.out hg).row) (Step_x HD.out (hl.xgo HX.out hg).d (hLk.mono (by omega)) x))
      have HFin := hide (fun w1 w2 (hg : XGo X SX wr (stY D.n D.cap (stepsY D.n D.cap Y x k) x) w1) (hd : DGo P AuT D SD w1 (stY D.n D.cap (stepsY D.n D.cap Y x k) x) w2) => hG.next (hl.both HX.out hu ul z1 z2 hg hd))
      have hsk : stepsY D.n D.cap Y x (k + 1) = stY D.n D.cap (stepsY D.n D.cap Y x k) x := rfl
      have HSK := hide hsk
      clear hG hl hu ul z1 z2 hLk hsk
      generalize stepsY D.n D.cap Y x k = Yk at *
      generalize stA D.n D.cap Yk x = a at *
      generalize stE D.n Yk x = b at *
      go_wp2_with fail
      refine HS.out.mono ?_
      rintro e w1 ⟨rfl, hg1⟩
      have c1 : w1.cell? ⟨A.bL, 1, none⟩ = some (.pointer (some ⟨D.b, 0, none⟩)) := (HXG.out w1 hg1).1.cell_of rfl
      have HS2 := hide (HXG.out w1 hg1).2
      have HF2 := hide (fun w2 hd => HFin.out w1 w2 hg1 hd)
      clear hg1 c0 cx
      go_wp2_with fail
      refine HS2.out.mono ?_
      rintro e w2 ⟨rfl, hd2⟩
      have HF3 := hide (HF2.out w2 hd2)
      clear hd2 c1
      go_wp2_with fail
      go_roundw
      case rel => exact ⟨k + 1, by omega, by go_num, by rw [HSK.out]; exact HF3.out⟩
      case measure => simp [intOf]; omega
    · have hlt' : ¬ (k : Int) < (n : Int) := by omega
      have hkn : k = n := by omega
      have HG := hide (show LGo P D X A Z U w (stepsY D.n D.cap Y x n) wr by rw [← hkn]; exact hG)
      clear hG hkn
      go_wp2
      go_ret
      exact ⟨rfl, HG.out⟩
end
end Go.Proofs.YtefjhnhdagolhaaGreat
namespace Go.Proofs.YtefjhnhdagolhaaGreat
open Go.RowKit
open M (upd upd_same upd_other RSt RTh cnt marks tagged num YI)
attribute [local go_sem ↓] Go.wp_at_zero Go.wp_at_succ
def pk (c n : Int) : Int := if c < 0 then (-(c + 1)) % n else c % n
theorem pk_range (c n : Int) (h : 0 < n) : 0 ≤ pk c n ∧ pk c n < n := by
  unfold pk
  split
  · exact ⟨Int.emod_nonneg _ (by omega), Int.emod_lt_of_pos _ h⟩
  · exact ⟨Int.emod_nonneg _ (by omega), Int.emod_lt_of_pos _ h⟩
set_option maxHeartbeats 800000 in
theorem pick_any (c n : Int) (w : World) (hn : 0 < n) (hn2 : n ≤ 1000) (h0 : -9223372036854775808 ≤ c) (h1 : c ≤ 9223372036854775807) :
    Calls Tryz.prog 45 #[.int .i64 c, .int .i64 n] w fun e w' => e = .returned (.int .i64 (pk c n)) ∧ w' = w := by
  have hn0 : ¬ n = 0 := by omega
  have hnm : ¬ n = -1 := by omega
  by_cases hc : c < 0
  · have e1 : pk c n = (-(c + 1)).tmod n := by unfold pk; rw [if_pos hc, Int.tmod_eq_emod_of_nonneg (by omega)]
    have hr := pk_range c n hn
    have HE := hide (show -((c + 1).tmod n) = pk c n by rw [e1, Int.neg_tmod])
    have hw1 : IntKind.i64.wrap (c + 1) = c + 1 := wrapi _ (by omega) (by omega)
    have hw2 : IntKind.i64.wrap (-(c + 1)) = -(c + 1) := wrapi _ (by omega) (by omega)
    rw [e1] at hr
    have hw3 : IntKind.i64.wrap ((-(c + 1)).tmod n) = (-(c + 1)).tmod n := wrapi _ (by omega) (by omega)
    clear e1
    go_enter Tryz.func45, Tryz.ntmps45
    go_wp2
    go_ret
    exact ⟨ret_int (by exact HE.out), rfl⟩
  · have e1 : pk c n = c.tmod n := by unfold pk; rw [if_neg hc, Int.tmod_eq_emod_of_nonneg (by omega)]
    have hr := pk_range c n hn
    rw [e1] at hr
    have HE := hide (show c % n = pk c n by unfold pk; rw [if_neg hc])
    have hw3 : IntKind.i64.wrap (c.tmod n) = c.tmod n := wrapi _ (by omega) (by omega)
    clear e1
    go_enter Tryz.func45, Tryz.ntmps45
    go_wp2
    go_ret
    exact ⟨ret_int (by exact HE.out), rfl⟩
def turnsY (n cap : Nat) (Y : RSt) (f : Int) : Nat → RSt | 0 => Y | j + 1 => stepsY n cap (turnsY n cap Y f j) ((f + (j : Int)) % (n : Int)) 1
theorem Lim.turnsY {D : DL} {K : Nat} {Y : RSt} (h : Lim D K Y) (f : Int) : ∀ k, Lim D (K + k) (turnsY D.n D.cap Y f k)
  | 0 => h
  | k + 1 => (Lim.turnsY h f k).stepsY _ 1
section
variable {σ : Type} {P : M.Plain σ} {tell : σ → List Int} {sz : σ → Nat} {HM : World → Value → σ → Prop} {D : DL} {X : (Nat → Prop) → RSt → World → Prop} {A : LL} {Y : RSt} {w : World} {fBe fSt fAn fDo fOr fTe fBo Z K : Nat} {U : Nat → Prop}
set_option maxRecDepth 20000 in
set_option maxHeartbeats 2000000 in
theorem lawTurns (xo : XOk P tell D A.tE A.bN X fBe fSt fAn fDo fOr fTe fBo) (ds : DS P tell sz HM AuT D) (h : Law P D X A Z U Y w) (hK : Lim D K Y) (x : Int) (hx0 : -9223372036854775808 ≤ x) (hx1 : x ≤ 9223372036854775807) (m : Nat) (hm60 : m ≤ 60) (hn : K + 4000 ≤ 900000000) :
    Calls Tryz.prog 46 #[.pointer (some ⟨A.bL, 0, none⟩), .int .i64 x, .int .i64 (m : Int)] w fun e w' => e = .returned (.bool true) ∧ LGo P D X A Z U w (turnsY D.n D.cap Y (pk x D.n) (m * D.n)) w' := by
  obtain ⟨⟨SX, SD, T, lab, ms, is, es1, es2, hl, -⟩, -⟩ := h.ex, h.ul
  obtain ⟨hn1, hn64, hc64⟩ := hl.d.n
  have c1 : w.cell? ⟨A.bL, 1, none⟩ = some (.pointer (some ⟨D.b, 0, none⟩)) := hl.row.cell_of rfl
  have c7 : w.cell? ⟨D.b, 7, none⟩ = some (.slice (some ⟨D.g, 0, none⟩) D.n D.gc) := by obtain ⟨_, _, _, _, _, q⟩ := hl.d.doc; exact q.ocell rfl
  have HX := hide xo
  have HD := hide ds
  have HL0 := hide (h.below xo (Below.refl _ _))
  have HK := hide hK
  obtain ⟨p0, p1⟩ := pk_range x (D.n : Int) (by omega)
  have hmn : m * D.n ≤ 3840 := Nat.le_trans (Nat.mul_le_mul hm60 hn64) (by decide)
  have hmn' : (m : Int) * (D.n : Int) = ((m * D.n : Nat) : Int) := by push_cast; rfl
  have HP := hide (pick_any x (D.n : Int) w (by omega) (by omega) hx0 hx1)
  clear hl h xo ds hK
  generalize pk x (D.n : Int) = f at *
  generalize hMN : m * D.n = MN at *
  clear hMN
  have hD0 : ¬ (D.n : Int) = 0 := by omega
  have hDm : ¬ (D.n : Int) = -1 := by omega
  go_enter Tryz.func46, Tryz.ntmps46
  go_wp2_with fail
  refine HP.out.mono ?_
  rintro e w1 ⟨rfl, rfl⟩
  go_wp2_with fail
  go_loopw [8] (fun i w' => ∃ j : Nat, j ≤ MN ∧ i = .int .i64 (j : Int) ∧ LGo P D X A Z U w1 (turnsY D.n D.cap Y f j) w') (fun i _ => MN - (intOf i).toNat)
  case atStart => exact ⟨0, Nat.zero_le _, rfl, HL0.out⟩
  case round =>
    obtain ⟨j, hj, rfl, hG⟩ := hrel
    have hw1 : IntKind.i64.wrap ((m : Int) * (D.n : Int)) = (MN : Int) := by rw [hmn']; exact wrapi _ (by omega) (by omega)
    by_cases hlt : j < MN
    · have hlt' : (j : Int) < (MN : Int) := by omega
      have hfr : (f + (j : Int)).tmod (D.n : Int) = (f + (j : Int)) % (D.n : Int) := Int.tmod_eq_emod_of_nonneg (by omega)
      have HSt := hide (lawSteps HX.out HD.out hG.law ((HK.out.turnsY f j).mono (Nat.le_refl _)) ((f + (j : Int)) % (D.n : Int)) 1 (by omega))
      have HFin := hide (fun w2 (hd : LGo P D X A Z (Grow U w1 wr) wr (stepsY D.n D.cap (turnsY D.n D.cap Y f j) ((f + (j : Int)) % (D.n : Int)) 1) w2) => hG.next hd)
      have HTS := hide (show turnsY D.n D.cap Y f (j + 1) = stepsY D.n D.cap (turnsY D.n D.cap Y f j) ((f + (j : Int)) % (D.n : Int)) 1 from rfl)
      have hr0 : 0 ≤ (f + (j : Int)) % (D.n : Int) := Int.emod_nonneg _ (by omega)
      have hr1 : (f + (j : Int)) % (D.n : Int) < (D.n : Int) := Int.emod_lt_of_pos _ (by omega)
      clear hG
      generalize turnsY D.n D.cap Y f j = Yj at *
      have hw2 : IntKind.i64.wrap ((f + (j : Int)) % (D.n : Int)) = (f + (j : Int)) % (D.n : Int) := wrapi _ (by omega) (by omega)
      have hw3 : IntKind.i64.wrap (f + (j : Int)) = f + (j : Int) := wrapi _ (by omega) (by omega)
      generalize hR : (f + (j : Int)) % (D.n : Int) = R at *
      clear hR
      go_wp2_with fail
      refine HSt.out.mono ?_
      rintro e w2 ⟨rfl, hd⟩
      have HF := hide (HFin.out w2 hd)
      clear hd
      go_wp2_with fail
      go_roundw
      case rel => exact ⟨j + 1, by omega, by go_num, by rw [HTS.out]; exact HF.out⟩
      case measure => simp [intOf]; omega
    · have hlt' : ¬ (j : Int) < (MN : Int) := by omega
      have hjn : j = MN := by omega
      have HG := hide (show LGo P D X A Z U w1 (turnsY D.n D.cap Y f MN) wr by rw [← hjn]; exact hG)
      clear hG hjn
      go_wp2
      go_ret
      exact ⟨rfl, HG.out⟩
end
end Go.Proofs.YtefjhnhdagolhaaGreat
