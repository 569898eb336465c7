import Derived.Test.YtefjhnhdagolhaaGreatProg
import Derived.Test.YtefjhnhdagolhaaGreatPA
import Derived.WalkKit
import Derived.ProofKit
import Derived.OpenShut
import Derived.JoinedCond
import Derived.Lib.SmallJoins
import Derived.Test.YtefjhnhdagolhaaGreatRows
import Derived.Test.YtefjhnhdagolhaaGreatPLB
namespace Go.Proofs.YtefjhnhdagolhaaGreat
open Go.ChangeShapes Go.WideShapes Go.ChangeAt Go.RowKit Go.Joins Go.Deep

theorem array7 {α : Type} {cs : Array α} (h : cs.size = 7) : ∃ c0 c1 c2 c3 c4 c5 c6, cs = #[c0, c1, c2, c3, c4, c5, c6] := by
  obtain ⟨l⟩ := cs
  match l, h with
  | [c0, c1, c2, c3, c4, c5, c6], _ => exact ⟨c0, c1, c2, c3, c4, c5, c6, rfl⟩

theorem cellsConfig : Tryz.prog.cellsOf 26 = 7 := by kernel_rfl
theorem cellsAuto : Tryz.prog.cellsOf 24 = 4 := by kernel_rfl
theorem cellsI : Tryz.prog.cellsOf 3 = 1 := by kernel_rfl
theorem cellsIs : Tryz.prog.cellsOf 22 = 1 := by kernel_rfl

section
variable {H : Type} {enc : TypeId × Value → H} {W : World}

/-- A list of numbers that came in. -/
theorem open_sl {fuel : Nat} {c : Value} {y : DataW H × List MemPlace} (h : DataW.trod enc Tryz.prog W 0 (fun _ => true) true fuel 22 [c] = some y) : ∃ xs : List Int, Sl W c (ints xs) ∧ sliceLen y.1 = xs.length ∧ ∀ x ∈ xs, (Lit.int .i64 x).wf = true := by
  rcases open_ints Tryz.underlying22 Tryz.underlying3 cellsI h with ⟨hcs, hx⟩ | ⟨a, len, cap, zs, hcs, -, hl, hm, hz, hx, hcell, hwz⟩
  · simp at hcs
    subst hcs
    subst hx
    exact ⟨[], Sl.nil W, rfl, by simp⟩
  · simp at hcs
    subst hcs
    subst hx
    simp only [if_true] at hz
    have hlen : (ints (zs.take len)).length = len := by simp [ints]; omega
    refine ⟨zs.take len, ⟨some a, cap, by rw [hlen], by rw [hlen]; exact hl, hm, ?_⟩, ?_, fun x hx => hwz x (List.mem_of_mem_take hx)⟩
    · by_cases h0 : len = 0
      · left; subst h0; simp [ints]
      · right
        obtain ⟨b, off, spot⟩ := a
        have hspot : spot = none := by simpa [Addr.add] using World.cell?_spot (hcell 0 (by omega))
        subst hspot
        refine ⟨b, off, rfl, fun j x hj => ?_⟩
        have hjl : j < len := by
          have := (List.getElem?_eq_some_iff.1 hj).1
          omega
        have h2 := hcell j (by omega)
        rw [getElem?_ints, List.getElem?_take, if_pos hjl, List.getElem?_eq_getElem (by omega)] at hj
        simp at hj
        subst hj
        rw [List.getD_eq_getElem?_getD, List.getElem?_eq_getElem (by omega)] at h2
        by_cases hj0 : j = 0
        · subst hj0
          simpa [Addr.add] using h2
        · simpa [Addr.add, hj0] using h2
    · show (lits .i64 (zs.take len)).length = _
      simp [lits]

set_option maxRecDepth 100000 in
/-- Settings that came in. -/
theorem open_config {base : Nat} {v : Value} {d : DataW H} {p : List MemPlace} (hv : Value.okWide Tryz.prog W .any base 26 v) (h : DataW.Trod enc Tryz.prog W 0 (fun _ => true) true 26 v d p) :
    ∃ (kind th cap st co : Int) (nx ou : List Int) (vn vo : Value) (dn dou : DataW H), v = .agg #[.int .i64 kind, .int .i64 th, .int .i64 cap, .int .i64 st, .int .i64 co, vn, vo] ∧ Sl W vn (ints nx) ∧ Sl W vo (ints ou) ∧
      d = .agg [.lit (.int .i64 kind), .lit (.int .i64 th), .lit (.int .i64 cap), .agg [.lit (.int .i64 st), .lit (.int .i64 co), dn, dou]] ∧ sliceLen dn = nx.length ∧ sliceLen dou = ou.length ∧
      (∀ x ∈ [kind, th, cap, st, co] ++ nx ++ ou, (Lit.int .i64 x).wf = true) := by
  obtain ⟨cs, rfl, hsz⟩ := okWide_struct Tryz.underlying26 hv
  obtain ⟨c0, c1, c2, c3, c4, c5, c6, rfl⟩ := array7 (hsz.trans cellsConfig)
  obtain ⟨fuel, hf⟩ := h
  obtain ⟨y0, y1, y2, y3, m, hx, -, h0, h1, h2, h3⟩ := trod_struct4 Tryz.underlying26 hf
  obtain ⟨z0, z1, z2, z3, m', hx3, -, k0, k1, k2, k3⟩ := trod_struct4 Tryz.underlying24 h3
  simp only [cellsI, Value.cells, List.drop_succ_cons, List.drop_zero, List.take_succ_cons, List.take_zero] at h0 h1 h2
  simp only [cellsI, cellsIs, cellsAuto, Value.cells, List.drop_succ_cons, List.drop_zero, List.take_succ_cons, List.take_zero] at k0 k1 k2 k3
  obtain ⟨kind, e0, rfl, w0⟩ := DataW.trod_int Tryz.underlying3 h0
  obtain ⟨th, e1, rfl, w1⟩ := DataW.trod_int Tryz.underlying3 h1
  obtain ⟨cap, e2, rfl, w2⟩ := DataW.trod_int Tryz.underlying3 h2
  obtain ⟨st, e3, rfl, w3⟩ := DataW.trod_int Tryz.underlying3 k0
  obtain ⟨co, e4, rfl, w4⟩ := DataW.trod_int Tryz.underlying3 k1
  obtain ⟨nx, s1, l1, x1⟩ := open_sl k2
  obtain ⟨ou, s2, l2, x2⟩ := open_sl k3
  simp only [List.cons.injEq, and_true] at e0 e1 e2 e3 e4
  subst e0 e1 e2 e3 e4
  simp only [Prod.mk.injEq] at hx
  subst hx3
  refine ⟨kind, th, cap, st, co, nx, ou, c5, c6, z2.1, z3.1, rfl, s1, s2, hx.1, l1, l2, ?_⟩
  intro x hxm
  simp only [List.mem_append, List.mem_cons, List.not_mem_nil, or_false] at hxm
  rcases hxm with ((rfl | rfl | rfl | rfl | rfl) | h) | h
  · exact w0
  · exact w1
  · exact w2
  · exact w3
  · exact w4
  · exact x1 x h
  · exact x2 x h

end

end Go.Proofs.YtefjhnhdagolhaaGreat

namespace Go.Proofs.YtefjhnhdagolhaaGreat
open Go.ChangeShapes Go.WideShapes Go.ChangeAt Go.RowKit Go.Joins Go.Deep

theorem laid_out : laidOutB Tryz.prog = true := by kernel_rfl
theorem knob_own : ownKnob Tryz.prog.godebug = none := by kernel_rfl

/-- What the bound gives of a list. -/
theorem bulk_list {H : Type} (d : DataW H) : sliceLen d ≤ Rows.uptoBulk d := by
  have all : ∀ l : List (DataW H), l.length ≤ Rows.uptoBulkAll l := by
    intro l
    induction l with
    | nil => simp [Rows.uptoBulkAll]
    | cons x r ih =>
      have h1 : 1 ≤ Rows.uptoBulk x := by
        cases x with
        | lit l => cases l <;> simp [Rows.uptoBulk]
        | nil => simp [Rows.uptoBulk]
        | ptr d => simp [Rows.uptoBulk]
        | slice elems spare => simp [Rows.uptoBulk]
        | agg parts => simp [Rows.uptoBulk]
        | iface t d => simp [Rows.uptoBulk]
        | map entries => simp [Rows.uptoBulk]
        | held h => simp [Rows.uptoBulk]
      simp only [Rows.uptoBulkAll, List.length_cons]
      omega
  cases d with
  | slice el sp =>
    have := all el
    simp only [sliceLen, Rows.uptoBulk]
    omega
  | lit l => exact Nat.zero_le _
  | nil => exact Nat.zero_le _
  | ptr d => exact Nat.zero_le _
  | agg parts => exact Nat.zero_le _
  | iface t d => exact Nat.zero_le _
  | map entries => exact Nat.zero_le _
  | held h => exact Nat.zero_le _

theorem bulk_config {H : Type} {k t c s o : Int} {dn dou : DataW H} (h : Rows.uptoBulk (.agg [.lit (.int .i64 k), .lit (.int .i64 t), .lit (.int .i64 c), .agg [.lit (.int .i64 s), .lit (.int .i64 o), dn, dou]]) ≤ 1048576) : sliceLen dn ≤ 1048576 ∧ sliceLen dou ≤ 1048576 := by
  have h1 := bulk_list dn
  have h2 := bulk_list dou
  simp only [Rows.uptoBulk, Rows.uptoBulkAll] at h
  omega

set_option maxRecDepth 100000 in
theorem news_contract (H : Type) (enc : TypeId × Value → H) (W : World) (base : Nat) (args : Array Value) (ds gs : List (DataW H)) (before : List MemPlace)
    (hval : ∀ (j : Nat) t v, Tryz.f3.params[j]? = some t → args[j]? = some v → Value.okWide Tryz.prog W .any base t v)
    (hW : DataW.Whole enc Tryz.prog Tryz.f3.params.toList Rows.newsSpec.vars false W args.toList ds gs before) (hk : Rows.uptoSmall H (ds ++ gs) = true) :
    Calls Tryz.prog 3 args W fun e W' => ∃ v, e = .returned v ∧ Rows.newsSpec.post enc Tryz.prog Tryz.f3 false true false false W args v W' := by
  have hW' := hW
  obtain ⟨p, q, hA0, hV, rfl, hfz, hnd⟩ := hW
  have hA : DataW.TrodAll enc Tryz.prog W 0 (fun _ => true) true Tryz.f3.params.toList args.toList ds p := hA0
  rw [Tryz.params3] at hA hval
  obtain ⟨v0, vs0, d0, ds0, p0, q0, hargs, rfl, rfl, h0, r0⟩ := trodAll_cons hA
  obtain ⟨rfl, rfl, rfl⟩ := trodAll_nil r0
  obtain rfl : args = #[v0] := by cases args; simp_all
  obtain ⟨rfl, rfl⟩ := trodVars_none hV
  have h0k := h0
  obtain ⟨kind, th, cap, st, co, nx, ou, vn, vo, dn, dou, rfl, s1, s2, rfl, l1, l2, -⟩ := open_config (hval 0 26 v0 rfl rfl) h0
  clear hA0
  simp only [List.append_nil] at hW' hk
  have hlt : ∀ x ∈ p0, x.block < W.heap.size := fun x hx => by simpa using hW'.lt x hx
  have hbk : Rows.uptoBulkAll [DataW.agg (H := H) [.lit (.int .i64 kind), .lit (.int .i64 th), .lit (.int .i64 cap), .agg [.lit (.int .i64 st), .lit (.int .i64 co), dn, dou]]] ≤ 1048576 := of_decide_eq_true hk
  obtain ⟨b1, b2⟩ := bulk_config (by simp only [Rows.uptoBulkAll] at hbk; exact Nat.le_trans (Nat.le_add_right _ 0) hbk)
  refine (news_any kind th cap st co nx ou vn vo W s1 s2 (by omega) (by omega)).mono fun e W' ⟨he, hb⟩ => ?_
  subst he
  have hre : DataW.Trod enc Tryz.prog W' 0 (fun b => decide (b < W.heap.size)) true 26 _ _ p0 := Below.trod laid_out (by kernel_rfl) (of_decide_eq_true (by kernel_rfl)) h0k hb hlt
  exact ⟨_, rfl, ⟨_, _, _, [], p0, [], hW', trodAll_cons_mk (shut_bool Tryz.underlying4 _) trodAll_mk0, trodAll_mk1 hre, rfl, hb.frame _, fun h => by cases h⟩⟩

set_option maxRecDepth 100000 in
theorem news_lifted (os : Os) (started : os.Started) (H : Type) (enc : TypeId × Value → H) (F : Stop.Interp) :
    ReturnsInHanded {} Tryz.checked os 3 .any ((Rows.OpenSpec.upto Rows.newsSpec).pre6 enc Tryz.prog Tryz.f3 Rows.newsUptoRow.domain false) (((Rows.OpenSpec.upto Rows.newsSpec).at F).post enc Tryz.prog Tryz.f3 false true false false) := by
  refine returnsInHanded_of_cond (C := Tryz.checked) (s := Rows.OpenSpec.upto Rows.newsSpec) (k := Rows.uptoSmall) rfl knob_own started (by kernel_rfl) Tryz.func3
    (OpenSpec.witness (enc := enc) (C := Tryz.checked) (s := Rows.OpenSpec.upto Rows.newsSpec) (k := Rows.uptoSmall) rfl false ⟨#[], #[.agg #[.int .i64 0, .int .i64 0, .int .i64 0, .int .i64 0, .int .i64 0, .slice none 0 0, .slice none 0 0]], []⟩ 8 (by kernel_rfl) (by kernel_rfl) (by kernel_rfl)
      (x := ([.agg [.lit (.int .i64 0), .lit (.int .i64 0), .lit (.int .i64 0), .agg [.lit (.int .i64 0), .lit (.int .i64 0), .nil, .nil]]], [], [])) (by kernel_rfl) rfl (by kernel_rfl)) ?_
  intro W base args ds gs before hval hW _ hk _
  exact news_contract H enc W base args ds gs before hval hW hk

theorem and_i {a b : Bool} (h : a = true) (h' : b = true) : (a && b) = true := by rw [h, h']; rfl

theorem news_named : Tryz.pinned.checked.prog.funcNamed Rows.newsUptoRow.func = some 3 := by kernel_rfl
set_option maxHeartbeats 20000000 in
theorem news_facts : joinedFacts Tryz.pinned.checked.prog 3 Tryz.f3 (Rows.OpenSpec.upto Rows.newsSpec).bare Rows.newsUptoRow = true := by
  unfold joinedFacts
  repeat' with_reducible refine and_i ?_ ?_
  all_goals as_aux_lemma => kernel_rfl
theorem news_inst : Tryz.f3.isInstance Tryz.pinned.checked.prog Rows.newsUptoRow.origin Rows.newsUptoRow.targs := of_decide_eq_true (by kernel_rfl)
theorem news_wrap : Tryz.f3.isWrapper Tryz.pinned.checked.prog Rows.newsUptoRow.wrapper Rows.newsUptoRow.mainSum := by
  unfold Func.isWrapper
  first
    | (rw [if_pos (by decide +kernel)]; kernel_rfl)
    | (rw [if_neg (by decide +kernel)]; exact ⟨rfl, rfl⟩)

theorem news_upto : Rows.NewsUptoSaid :=
  OpenClaim.holds_of_cond 3 Tryz.f3 rfl rfl rfl rfl rfl rfl rfl ⟨rfl, rfl, rfl, rfl, rfl⟩ rfl rfl rfl rfl rfl news_named Tryz.func3 news_facts news_inst news_wrap
    (fun os started H enc _ F => news_lifted os started H enc F)

end Go.Proofs.YtefjhnhdagolhaaGreat
