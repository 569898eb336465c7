import Derived.Test.YtefjhnhdagolhaaGreatQ37
import Derived.Test.YtefjhnhdagolhaaGreatQ38
import Derived.Test.YtefjhnhdagolhaaGreatQ43
import Derived.Test.YtefjhnhdagolhaaGreatProg
import Derived.Test.YtefjhnhdagolhaaGreatQ00
import Derived.WalkKit
import Derived.ProofKit
import Derived.OpenShut
import Derived.JoinedCond
import Derived.Lib.SmallJoins
import Derived.Test.YtefjhnhdagolhaaGreatRows
import Derived.Test.YtefjhnhdagolhaaGreatQ36
namespace Go.Proofs.YtefjhnhdagolhaaGreat
open Go.RowKit
attribute [local go_sem ↓] Go.wp_at_zero Go.wp_at_succ
theorem mapFits (D : DL) (hn : D.n ≤ 64) : TellFits mapP flat D := by
  intro Y hy hL
  rw [flat_len, order_len, rpAt_all]
  have h1 := M.replay_sz map_grows (fun k i => ((Y.th k).ops).getD i ⟨0, 0, 0⟩) Y.bs
  have h2 := hy.all hn (B := 1000000000) hL.1
  have h3 : 2 * (M.replay mapP (fun k i => ((Y.th k).ops).getD i ⟨0, 0, 0⟩) Y.bs).st.length ≤ 2 + 2 * Y.bs.flatten.length := h1
  have h4 : 2 + 2 * Y.bs.flatten.length ≤ 1000000000000 := by omega
  exact Nat.le_trans h3 h4
theorem mapPlays (n cap : Nat) (st co : Int) (nx ou : List Int) (vn vo : Value) (hn : 1 ≤ n) (h64 : n ≤ 64) (hc : cap ≤ 64) (fn : ∃ a l c, vn = .slice a l c) (fo : ∃ a l c, vo = .slice a l c) : Playable 4 n (cap : Int) st co nx ou vn vo (fun w b w' => tree.ObjNew w n (cap : Int) 150 (.agg #[]) b w') := by
  refine tree.playable (P := mapP) (tell := flat) (sz := fun s => 2 * s.length) (HM := fun w v s => Asc s ∧ ∃ l : Prs, l.Perm s ∧ w.ownsRow 0 3 1 v (flat l).length (ints (flat l))) (oT := 150) (fA := 375) (fT := 376) (fun w b w' h => ⟨w, fun _ => False, mapR, .agg #[], .agg #[], .agg #[], Below.refl _ _, h, fun k hk => hk.elim, fun I _ => ⟨none, 0, rfl, Tr.nil, trivial⟩, mapAp, mapTe⟩) ?_ mapFits hn h64 hc
  intro D hk _ _ _ _ hv
  rcases hv with ⟨-, h1, h2⟩ | ⟨q, -⟩
  · obtain ⟨a1, l1, c1, rfl⟩ := fn
    obtain ⟨a2, l2, c2, rfl⟩ := fo
    exact ⟨mapDoc D hk a1 a2 l1 c1 l2 c2 h1 h2, fun _ _ _ _ _ => trivial, ⟨_, _, _, h1⟩, ⟨_, _, _, h2⟩⟩
  · omega
theorem mapMaker (n cap : Nat) (st co : Int) (nx ou : List Int) (vn vo : Value) (hn : 1 ≤ n) (h64 : n ≤ 64) (hc : cap ≤ 64) : Maker n 4 (cap : Int) st co nx ou vn vo (fun w b w' => tree.ObjNew w n (cap : Int) 150 (.agg #[]) b w') where
  ref W _ _ := refNew_plain _ st co nx ou vn vo W 4 n (by decide) (by decide) hn h64 (by omega) (by omega)
  new W u1 u2 s1 s2 := new_four n _ st co nx ou u1 u2 W s1 s2 hn h64 (by omega) (by omega)
  eng W b W' h := by
    obtain ⟨bN, h1, h2, -⟩ := h
    exact ⟨_, bN, h1, h2.below.1⟩
set_option maxHeartbeats 1000000 in
theorem maps_any (kind th cap st co : Int) (nx ou : List Int) (vn vo : Value) (l : List ActV) (hl : l.length ≤ 200000) (hi : ∀ x ∈ l, I64 x.t ∧ I64 x.n) (s : Value) (w : World) (hs : Scr w s l) (hn : Sl w vn (ints nx)) (ho : Sl w vo (ints ou)) (n1 : nx.length ≤ 1048576) (n2 : ou.length ≤ 1048576) :
    Calls Tryz.prog 6 #[.agg #[.int .i64 kind, .int .i64 th, .int .i64 cap, .int .i64 st, .int .i64 co, vn, vo], s] w fun e w' => e = .returned (.bool true) ∧ Below w.heap.size w w' := by
  obtain ⟨a1, c1, rfl, f1⟩ := hn.open_ints
  obtain ⟨a2, c2, rfl, f2⟩ := ho.open_ints
  obtain ⟨a3, c3, rfl, f3⟩ := hs
  have HM := hide (fun W (hW : Below w.heap.size w W) => plays_any 4 th cap st co nx ou _ _ (fun n c h1 h2 h3 _ => ⟨_, mapMaker n c st co nx ou _ _ h1 h2 h3, mapPlays n c st co nx ou _ _ h1 h2 h3 ⟨_, _, _, rfl⟩ ⟨_, _, _, rfl⟩⟩) l hl hi _ W (Scr.below ⟨a3, c3, rfl, f3⟩ hW) (hn.below hW) (ho.below hW) n1 n2)
  clear hn ho f1 f2 f3
  go_enter Tryz.func6, Tryz.ntmps6
  go_wp2_with fail
  refine (of_any 4 kind th cap st co _ _ _ _ _ _ _).mono ?_
  rintro e w1 ⟨rfl, hb1⟩
  have HB1 := hide (Below.next (below_alloc w _) hb1 (by simp))
  clear hb1
  go_wp2_with fail
  refine (HM.out _ HB1.out).mono ?_
  rintro e w2 ⟨rfl, hb2⟩
  have HB2 := hide (Below.next HB1.out hb2 HB1.out.size)
  clear hb2
  go_wp2_with fail
  go_ret
  exact ⟨rfl, HB2.out⟩
end Go.Proofs.YtefjhnhdagolhaaGreat
namespace Go.Proofs.YtefjhnhdagolhaaGreat
open Go.ChangeShapes Go.WideShapes Go.ChangeAt Go.RowKit Go.Joins Go.Deep
theorem array7 {α : Type} {cs : Array α} (h : cs.size = 7) : ∃ c0 c1 c2 c3 c4 c5 c6, cs = #[c0, c1, c2, c3, c4, c5, c6] := by
  obtain ⟨l⟩ := cs
  match l, h with
  | [c0, c1, c2, c3, c4, c5, c6], _ => exact ⟨c0, c1, c2, c3, c4, c5, c6, rfl⟩
theorem cellsConfig : Tryz.prog.cellsOf 26 = 7 := by kernel_rfl
theorem cellsAuto : Tryz.prog.cellsOf 24 = 4 := by kernel_rfl
theorem cellsI : Tryz.prog.cellsOf 3 = 1 := by kernel_rfl
theorem cellsIs : Tryz.prog.cellsOf 22 = 1 := by kernel_rfl
section
variable {H : Type} {enc : TypeId × Value → H} {W : World}
theorem open_sl {fuel : Nat} {c : Value} {y : DataW H × List MemPlace} (h : DataW.trod enc Tryz.prog W 0 (fun _ => true) true fuel 22 [c] = some y) : ∃ xs : List Int, Sl W c (ints xs) ∧ sliceLen y.1 = xs.length ∧ ∀ x ∈ xs, (Lit.int .i64 x).wf = true := by
  rcases open_ints Tryz.underlying22 Tryz.underlying3 cellsI h with ⟨hcs, hx⟩ | ⟨a, len, cap, zs, hcs, -, hl, hm, hz, hx, hcell, hwz⟩
  · simp at hcs
    subst hcs
    subst hx
    exact ⟨[], Sl.nil W, rfl, by simp⟩
  · simp at hcs
    subst hcs
    subst hx
    simp only [if_true] at hz
    have hlen : (ints (zs.take len)).length = len := by simp [ints]; omega
    refine ⟨zs.take len, ⟨some a, cap, by rw [hlen], by rw [hlen]; exact hl, hm, ?_⟩, ?_, fun x hx => hwz x (List.mem_of_mem_take hx)⟩
    · by_cases h0 : len = 0
      · left; subst h0; simp [ints]
      · right
        obtain ⟨b, off, spot⟩ := a
        have hspot : spot = none := by simpa [Addr.add] using World.cell?_spot (hcell 0 (by omega))
        subst hspot
        refine ⟨b, off, rfl, fun j x hj => ?_⟩
        have hjl : j < len := by
          have := (List.getElem?_eq_some_iff.1 hj).1
          omega
        have h2 := hcell j (by omega)
        rw [getElem?_ints, List.getElem?_take, if_pos hjl, List.getElem?_eq_getElem (by omega)] at hj
        simp at hj
        subst hj
        rw [List.getD_eq_getElem?_getD, List.getElem?_eq_getElem (by omega)] at h2
        by_cases hj0 : j = 0
        · subst hj0
          simpa [Addr.add] using h2
        · simpa [Addr.add, hj0] using h2
    · show (lits .i64 (zs.take len)).length = _
      simp [lits]
set_option maxRecDepth 100000 in
theorem open_config {base : Nat} {v : Value} {d : DataW H} {p : List MemPlace} (hv : Value.okWide Tryz.prog W .any base 26 v) (h : DataW.Trod enc Tryz.prog W 0 (fun _ => true) true 26 v d p) :
    ∃ (kind th cap st co : Int) (nx ou : List Int) (vn vo : Value) (dn dou : DataW H), v = .agg #[.int .i64 kind, .int .i64 th, .int .i64 cap, .int .i64 st, .int .i64 co, vn, vo] ∧ Sl W vn (ints nx) ∧ Sl W vo (ints ou) ∧
      d = .agg [.lit (.int .i64 kind), .lit (.int .i64 th), .lit (.int .i64 cap), .agg [.lit (.int .i64 st), .lit (.int .i64 co), dn, dou]] ∧ sliceLen dn = nx.length ∧ sliceLen dou = ou.length ∧
      (∀ x ∈ [kind, th, cap, st, co] ++ nx ++ ou, (Lit.int .i64 x).wf = true) := by
  obtain ⟨cs, rfl, hsz⟩ := okWide_struct Tryz.underlying26 hv
  obtain ⟨c0, c1, c2, c3, c4, c5, c6, rfl⟩ := array7 (hsz.trans cellsConfig)
  obtain ⟨fuel, hf⟩ := h
  obtain ⟨y0, y1, y2, y3, m, hx, -, h0, h1, h2, h3⟩ := trod_struct4 Tryz.underlying26 hf
  obtain ⟨z0, z1, z2, z3, m', hx3, -, k0, k1, k2, k3⟩ := trod_struct4 Tryz.underlying24 h3
  simp only [cellsI, Value.cells, List.drop_succ_cons, List.drop_zero, List.take_succ_cons, List.take_zero] at h0 h1 h2
  simp only [cellsI, cellsIs, cellsAuto, Value.cells, List.drop_succ_cons, List.drop_zero, List.take_succ_cons, List.take_zero] at k0 k1 k2 k3
  obtain ⟨kind, e0, rfl, w0⟩ := DataW.trod_int Tryz.underlying3 h0
  obtain ⟨th, e1, rfl, w1⟩ := DataW.trod_int Tryz.underlying3 h1
  obtain ⟨cap, e2, rfl, w2⟩ := DataW.trod_int Tryz.underlying3 h2
  obtain ⟨st, e3, rfl, w3⟩ := DataW.trod_int Tryz.underlying3 k0
  obtain ⟨co, e4, rfl, w4⟩ := DataW.trod_int Tryz.underlying3 k1
  obtain ⟨nx, s1, l1, x1⟩ := open_sl k2
  obtain ⟨ou, s2, l2, x2⟩ := open_sl k3
  simp only [List.cons.injEq, and_true] at e0 e1 e2 e3 e4
  subst e0 e1 e2 e3 e4
  simp only [Prod.mk.injEq] at hx
  subst hx3
  refine ⟨kind, th, cap, st, co, nx, ou, c5, c6, z2.1, z3.1, rfl, s1, s2, hx.1, l1, l2, ?_⟩
  intro x hxm
  simp only [List.mem_append, List.mem_cons, List.not_mem_nil, or_false] at hxm
  rcases hxm with ((rfl | rfl | rfl | rfl | rfl) | h) | h
  · exact w0
  · exact w1
  · exact w2
  · exact w3
  · exact w4
  · exact x1 x h
  · exact x2 x h
end
end Go.Proofs.YtefjhnhdagolhaaGreat
namespace Go.Proofs.YtefjhnhdagolhaaGreat
open Go.ChangeShapes Go.WideShapes Go.ChangeAt Go.RowKit Go.Joins Go.Deep
theorem cellsAct : Tryz.prog.cellsOf 38 = 6 := by kernel_rfl
theorem cellsOp : Tryz.prog.cellsOf 36 = 3 := by kernel_rfl
theorem list6 {α : Type} {l : List α} (h : l.length = 6) : ∃ c0 c1 c2 c3 c4 c5, l = [c0, c1, c2, c3, c4, c5] := by
  match l, h with
  | [c0, c1, c2, c3, c4, c5], _ => exact ⟨c0, c1, c2, c3, c4, c5, rfl⟩
theorem cells_get {W : World} {base : Nat} {a : Addr} {n : Nat} {cs : List Value} (h : W.cells? base a n = some cs) (i : Nat) (hi : i < n) : W.cell? (a.add i) = cs[i]? := by
  unfold World.cells? at h
  split at h
  · exact mapM_some_get h i i (by simp [hi])
  · cases h
theorem wf_i64 {x : Int} (h : (Lit.int .i64 x).wf = true) : I64 x := by
  have m1 : IntKind.min .i64 = -9223372036854775808 := by decide +kernel
  have m2 : IntKind.max .i64 = 9223372036854775807 := by decide +kernel
  simp [Lit.wf] at h
  unfold I64
  omega
section
variable {H : Type} {enc : TypeId × Value → H} {W : World}
set_option maxRecDepth 100000 in
theorem open_act {fuel : Nat} {cs : List Value} {y : DataW H × List MemPlace} (h : DataW.trod enc Tryz.prog W 0 (fun _ => true) true fuel 38 cs = some y) :
    ∃ x : ActV, cs = [.int .i64 x.k, .int .i64 x.t, .int .i64 x.n, .int .i64 x.c, .int .i64 x.a, .int .i64 x.b] ∧ I64 x.t ∧ I64 x.n ∧ 8 ≤ Rows.uptoBulk y.1 := by
  obtain ⟨y0, y1, y2, y3, m, rfl, hl, h0, h1, h2, h3⟩ := trod_struct4 Tryz.underlying38 h
  obtain ⟨z0, z1, z2, m', hx3, -, k0, k1, k2⟩ := trod_struct3 Tryz.underlying36 h3
  obtain ⟨c0, c1, c2, c3, c4, c5, rfl⟩ := list6 (hl.trans cellsAct)
  simp only [cellsI, List.drop_succ_cons, List.drop_zero, List.take_succ_cons, List.take_zero] at h0 h1 h2
  simp only [cellsI, cellsOp, List.drop_succ_cons, List.drop_zero, List.take_succ_cons, List.take_zero] at k0 k1 k2
  obtain ⟨x0, e0, rfl, -⟩ := DataW.trod_int Tryz.underlying3 h0
  obtain ⟨x1, e1, rfl, w1⟩ := DataW.trod_int Tryz.underlying3 h1
  obtain ⟨x2, e2, rfl, w2⟩ := DataW.trod_int Tryz.underlying3 h2
  obtain ⟨x3, e3, rfl, -⟩ := DataW.trod_int Tryz.underlying3 k0
  obtain ⟨x4, e4, rfl, -⟩ := DataW.trod_int Tryz.underlying3 k1
  obtain ⟨x5, e5, rfl, -⟩ := DataW.trod_int Tryz.underlying3 k2
  simp only [List.cons.injEq, and_true] at e0 e1 e2 e3 e4 e5
  subst e0 e1 e2 e3 e4 e5 hx3
  exact ⟨⟨x0, x1, x2, x3, x4, x5⟩, rfl, wf_i64 w1, wf_i64 w2, by simp [Rows.uptoBulk, Rows.uptoBulkAll]⟩
theorem bulk_each (k : Nat) (l : List (DataW H)) (h : ∀ d ∈ l, k ≤ Rows.uptoBulk d) : k * l.length ≤ Rows.uptoBulkAll l := by
  induction l with
  | nil => simp [Rows.uptoBulkAll]
  | cons x r ih =>
    have h1 := h x (by simp)
    have h2 := ih fun d hd => h d (by simp [hd])
    simp only [Rows.uptoBulkAll, List.length_cons, Nat.mul_add, Nat.mul_one]
    omega
set_option maxRecDepth 100000 in
theorem open_script {base : Nat} {v : Value} {d : DataW H} {p : List MemPlace} (hv : Value.okWide Tryz.prog W .any base 29 v) (h : DataW.Trod enc Tryz.prog W 0 (fun _ => true) true 29 v d p) :
    ∃ l : List ActV, Scr W v l ∧ (∀ x ∈ l, I64 x.t ∧ I64 x.n) ∧ 8 * l.length ≤ Rows.uptoBulk d := by
  obtain ⟨a0, l0, c0, rfl⟩ := okWide_slice Tryz.underlying29 hv
  obtain ⟨fuel, hf⟩ := h
  rcases DataW.trod_slice Tryz.underlying29 hf with ⟨hcs, hx⟩ | ⟨a, len, cap, elems, rest, n, -, hcs, hx, -, hl, hm, hlen, hel, -, -⟩
  · simp only [Value.cells, List.cons.injEq, Value.slice.injEq, and_true] at hcs
    obtain ⟨rfl, rfl, rfl⟩ := hcs
    exact ⟨[], ⟨none, 0, rfl, fun h => absurd h (by decide)⟩, by simp, by simp⟩
  · simp only [Value.cells, List.cons.injEq, Value.slice.injEq, and_true] at hcs
    obtain ⟨rfl, rfl, rfl⟩ := hcs
    have each : ∀ i, i < l0 → ∃ x : ActV, (∀ j u, [Value.int .i64 x.k, .int .i64 x.t, .int .i64 x.n, .int .i64 x.c, .int .i64 x.a, .int .i64 x.b][j]? = some u → W.cell? ((a.add (i * 6)).add j) = some u) ∧ I64 x.t ∧ I64 x.n ∧ ∃ y, elems[i]? = some y ∧ 8 ≤ Rows.uptoBulk y.1 := by
      intro i hi
      have hi' := hel i hi
      rw [cellsAct, List.getElem?_eq_getElem (by omega), Option.bind_eq_some_iff] at hi'
      obtain ⟨cs, q1, q2⟩ := hi'
      obtain ⟨x, rfl, x1, x2, x3⟩ := open_act q2
      refine ⟨x, fun j u hu => ?_, x1, x2, _, List.getElem?_eq_getElem (by omega), x3⟩
      have hj : j < 6 := by have := (List.getElem?_eq_some_iff.1 hu).1; simpa using this
      rw [cells_get q1 j hj]
      exact hu
    obtain ⟨f, hf'⟩ : ∃ f : Nat → ActV, ∀ i, i < l0 → (∀ j u, [Value.int .i64 (f i).k, .int .i64 (f i).t, .int .i64 (f i).n, .int .i64 (f i).c, .int .i64 (f i).a, .int .i64 (f i).b][j]? = some u → W.cell? ((a.add (i * 6)).add j) = some u) ∧ I64 (f i).t ∧ I64 (f i).n ∧ ∃ y, elems[i]? = some y ∧ 8 ≤ Rows.uptoBulk y.1 := by
      classical
      exact ⟨fun i => if h : i < l0 then (each i h).choose else ⟨0, 0, 0, 0, 0, 0⟩, fun i hi => by simp only [dif_pos hi]; exact (each i hi).choose_spec⟩
    refine ⟨(List.range l0).map f, ⟨some a, c0, by simp, fun h0 => ?_⟩, ?_, ?_⟩
    · have h0' : 0 < l0 := by simpa using h0
      obtain ⟨b, off, spot⟩ := a
      have hspot : spot = none := by
        have := World.cell?_spot ((hf' 0 h0').1 0 _ rfl)
        simpa [Addr.add] using this
      subst hspot
      refine ⟨b, off, rfl, fun i x hx => ?_⟩
      have hi : i < l0 := by have := (List.getElem?_eq_some_iff.1 hx).1; simpa using this
      simp only [List.getElem?_map, List.getElem?_range hi, Option.map_some, Option.some.injEq] at hx
      subst hx
      have q := (hf' i hi).1
      simp only [addr_add] at q
      exact ⟨q 0 _ rfl, q 1 _ rfl, q 2 _ rfl, q 3 _ rfl, q 4 _ rfl, q 5 _ rfl⟩
    · intro x hx
      obtain ⟨i, hi, rfl⟩ := List.mem_map.1 hx
      have := hf' i (List.mem_range.1 hi)
      exact ⟨this.2.1, this.2.2.1⟩
    · have hb : 8 * (elems.map (·.1)).length ≤ Rows.uptoBulkAll (elems.map (·.1)) := bulk_each 8 _ fun d hd => by
        obtain ⟨y, hy, rfl⟩ := List.mem_map.1 hd
        obtain ⟨i, hi⟩ := List.getElem?_of_mem hy
        have hil : i < l0 := by have := (List.getElem?_eq_some_iff.1 hi).1; omega
        obtain ⟨-, -, -, y', q1, q2⟩ := hf' i hil
        rw [hi] at q1
        cases q1
        exact q2
      simp only [Prod.mk.injEq] at hx
      rw [hx.1]
      simp only [Rows.uptoBulk, List.length_map, List.length_range] at hb ⊢
      omega
end
end Go.Proofs.YtefjhnhdagolhaaGreat
namespace Go.Proofs.YtefjhnhdagolhaaGreat
open Go.ChangeShapes Go.WideShapes Go.ChangeAt Go.RowKit Go.Joins Go.Deep
theorem laid_out2 : laidOutB Tryz.prog = true := by kernel_rfl
theorem knob_own2 : ownKnob Tryz.prog.godebug = none := by kernel_rfl
theorem bulk_list2 {H : Type} (d : DataW H) : sliceLen d ≤ Rows.uptoBulk d := by
  have one : ∀ x : DataW H, 1 ≤ Rows.uptoBulk x := by
    intro x
    cases x with
    | lit l => cases l <;> simp [Rows.uptoBulk]
    | nil => simp [Rows.uptoBulk]
    | ptr d => simp [Rows.uptoBulk]
    | slice elems spare => simp [Rows.uptoBulk]
    | agg parts => simp [Rows.uptoBulk]
    | iface t d => simp [Rows.uptoBulk]
    | map entries => simp [Rows.uptoBulk]
    | held h => simp [Rows.uptoBulk]
  cases d with
  | slice el sp =>
    have := bulk_each 1 el fun d _ => one d
    simp only [sliceLen, Rows.uptoBulk]
    omega
  | lit l => exact Nat.zero_le _
  | nil => exact Nat.zero_le _
  | ptr d => exact Nat.zero_le _
  | agg parts => exact Nat.zero_le _
  | iface t d => exact Nat.zero_le _
  | map entries => exact Nat.zero_le _
  | held h => exact Nat.zero_le _
theorem bulk_both {H : Type} {k t c s o : Int} {dn dou d1 : DataW H} (h : Rows.uptoBulkAll [.agg [.lit (.int .i64 k), .lit (.int .i64 t), .lit (.int .i64 c), .agg [.lit (.int .i64 s), .lit (.int .i64 o), dn, dou]], d1] ≤ 1048576) : sliceLen dn ≤ 1048576 ∧ sliceLen dou ≤ 1048576 ∧ Rows.uptoBulk d1 ≤ 1048576 := by
  have h1 := bulk_list2 dn
  have h2 := bulk_list2 dou
  simp only [Rows.uptoBulk, Rows.uptoBulkAll] at h
  omega
set_option maxRecDepth 100000 in
theorem maps_contract (H : Type) (enc : TypeId × Value → H) (W : World) (base : Nat) (args : Array Value) (ds gs : List (DataW H)) (before : List MemPlace)
    (hval : ∀ (j : Nat) t v, Tryz.f6.params[j]? = some t → args[j]? = some v → Value.okWide Tryz.prog W .any base t v)
    (hW : DataW.Whole enc Tryz.prog Tryz.f6.params.toList Rows.mapsSpec.vars false W args.toList ds gs before) (hk : Rows.uptoSmall H (ds ++ gs) = true) :
    Calls Tryz.prog 6 args W fun e W' => ∃ v, e = .returned v ∧ Rows.mapsSpec.post enc Tryz.prog Tryz.f6 false true false false W args v W' := by
  have hW' := hW
  obtain ⟨p, q, hA0, hV, rfl, hfz, hnd⟩ := hW
  have hA : DataW.TrodAll enc Tryz.prog W 0 (fun _ => true) true Tryz.f6.params.toList args.toList ds p := hA0
  rw [Tryz.params6] at hA hval
  obtain ⟨v0, vs0, d0, ds0, p0, q0, hargs, rfl, rfl, h0, r0⟩ := trodAll_cons hA
  obtain ⟨v1, vs1, d1, ds1, p1, q1, rfl, rfl, rfl, h1, r1⟩ := trodAll_cons r0
  obtain ⟨rfl, rfl, rfl⟩ := trodAll_nil r1
  obtain rfl : args = #[v0, v1] := by cases args; simp_all
  obtain ⟨rfl, rfl⟩ := trodVars_none hV
  have h0k := h0
  have h1k := h1
  obtain ⟨kind, th, cap, st, co, nx, ou, vn, vo, dn, dou, rfl, s1, s2, rfl, l1, l2, -⟩ := open_config (hval 0 26 v0 rfl rfl) h0
  obtain ⟨l, hs, hi, hlb⟩ := open_script (hval 1 29 v1 rfl rfl) h1
  clear hA0
  simp only [List.append_nil] at hW' hk
  have hlt : ∀ x ∈ p0 ++ p1, x.block < W.heap.size := fun x hx => by simpa using hW'.lt x (by simpa using hx)
  obtain ⟨b1, b2, b3⟩ := bulk_both (of_decide_eq_true hk)
  refine (maps_any kind th cap st co nx ou vn vo l (by omega) hi v1 W hs s1 s2 (by omega) (by omega)).mono fun e W' ⟨he, hb⟩ => ?_
  subst he
  have hre0 : DataW.Trod enc Tryz.prog W' 0 (fun b => decide (b < W.heap.size)) true 26 _ _ p0 := Below.trod laid_out2 (by kernel_rfl) (of_decide_eq_true (by kernel_rfl)) h0k hb (fun x hx => hlt x (by simp [hx]))
  have hre1 : DataW.Trod enc Tryz.prog W' 0 (fun b => decide (b < W.heap.size)) true 29 _ _ p1 := Below.trod laid_out2 (by kernel_rfl) (of_decide_eq_true (by kernel_rfl)) h1k hb (fun x hx => hlt x (by simp [hx]))
  exact ⟨_, rfl, ⟨_, _, _, [], p0 ++ p1, [], hW', trodAll_cons_mk (shut_bool Tryz.underlying4 _) trodAll_mk0, trodAll_cons_mk hre0 (trodAll_mk1 hre1), rfl, hb.frame _, fun h => by cases h⟩⟩
set_option maxRecDepth 100000 in
theorem maps_lifted (os : Os) (started : os.Started) (H : Type) (enc : TypeId × Value → H) (F : Stop.Interp) :
    ReturnsInHanded {} Tryz.checked os 6 .any ((Rows.OpenSpec.upto Rows.mapsSpec).pre6 enc Tryz.prog Tryz.f6 Rows.mapsUptoRow.domain false) (((Rows.OpenSpec.upto Rows.mapsSpec).at F).post enc Tryz.prog Tryz.f6 false true false false) := by
  refine returnsInHanded_of_cond (C := Tryz.checked) (s := Rows.OpenSpec.upto Rows.mapsSpec) (k := Rows.uptoSmall) rfl knob_own2 started (by kernel_rfl) Tryz.func6
    (OpenSpec.witness (enc := enc) (C := Tryz.checked) (s := Rows.OpenSpec.upto Rows.mapsSpec) (k := Rows.uptoSmall) rfl false ⟨#[], #[.agg #[.int .i64 0, .int .i64 0, .int .i64 0, .int .i64 0, .int .i64 0, .slice none 0 0, .slice none 0 0], .slice none 0 0], []⟩ 8 (by kernel_rfl) (by kernel_rfl) (by kernel_rfl)
      (x := ([.agg [.lit (.int .i64 0), .lit (.int .i64 0), .lit (.int .i64 0), .agg [.lit (.int .i64 0), .lit (.int .i64 0), .nil, .nil]], .nil], [], [])) (by kernel_rfl) rfl (by kernel_rfl)) ?_
  intro W base args ds gs before hval hW _ hk _
  exact maps_contract H enc W base args ds gs before hval hW hk
theorem and_i2 {a b : Bool} (h : a = true) (h' : b = true) : (a && b) = true := by rw [h, h']; rfl
theorem maps_named : Tryz.pinned.checked.prog.funcNamed Rows.mapsUptoRow.func = some 6 := by kernel_rfl
set_option maxHeartbeats 20000000 in
theorem maps_facts : joinedFacts Tryz.pinned.checked.prog 6 Tryz.f6 (Rows.OpenSpec.upto Rows.mapsSpec).bare Rows.mapsUptoRow = true := by
  unfold joinedFacts
  repeat' with_reducible refine and_i2 ?_ ?_
  all_goals as_aux_lemma => kernel_rfl
theorem maps_inst : Tryz.f6.isInstance Tryz.pinned.checked.prog Rows.mapsUptoRow.origin Rows.mapsUptoRow.targs := of_decide_eq_true (by kernel_rfl)
theorem maps_wrap : Tryz.f6.isWrapper Tryz.pinned.checked.prog Rows.mapsUptoRow.wrapper Rows.mapsUptoRow.mainSum := by
  unfold Func.isWrapper
  first
    | (rw [if_pos (by decide +kernel)]; kernel_rfl)
    | (rw [if_neg (by decide +kernel)]; exact ⟨rfl, rfl⟩)
theorem maps_upto : Rows.MapsUptoSaid :=
  OpenClaim.holds_of_cond 6 Tryz.f6 rfl rfl rfl rfl rfl rfl rfl ⟨rfl, rfl, rfl, rfl, rfl⟩ rfl rfl rfl rfl rfl maps_named Tryz.func6 maps_facts maps_inst maps_wrap
    (fun os started H enc _ F => maps_lifted os started H enc F)
end Go.Proofs.YtefjhnhdagolhaaGreat
