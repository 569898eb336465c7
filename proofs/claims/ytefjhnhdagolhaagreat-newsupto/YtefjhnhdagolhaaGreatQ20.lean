import Derived.Test.YtefjhnhdagolhaaGreatRows
import Derived.Test.YtefjhnhdagolhaaGreatQ19
import Derived.Test.YtefjhnhdagolhaaGreatQ18
namespace Go.Proofs.YtefjhnhdagolhaaGreat
open Go.ChangeShapes Go.WideShapes Go.ChangeAt Go.RowKit Go.Joins Go.Deep
theorem laid_out : laidOutB Tryz.prog = true := by kernel_rfl
theorem knob_own : ownKnob Tryz.prog.godebug = none := by kernel_rfl
theorem bulk_list {H : Type} (d : DataW H) : sliceLen d ≤ Rows.uptoBulk d := by
  have all : ∀ l : List (DataW H), l.length ≤ Rows.uptoBulkAll l := by
    intro l
    induction l with
    | nil => simp [Rows.uptoBulkAll]
    | cons x r ih =>
      have h1 : 1 ≤ Rows.uptoBulk x := by
        cases x with
        | lit l => cases l <;> simp [Rows.uptoBulk]
        | nil => simp [Rows.uptoBulk]
        | ptr d => simp [Rows.uptoBulk]
        | slice elems spare => simp [Rows.uptoBulk]
        | agg parts => simp [Rows.uptoBulk]
        | iface t d => simp [Rows.uptoBulk]
        | map entries => simp [Rows.uptoBulk]
        | held h => simp [Rows.uptoBulk]
      simp only [Rows.uptoBulkAll, List.length_cons]
      omega
  cases d with
  | slice el sp =>
    have := all el
    simp only [sliceLen, Rows.uptoBulk]
    omega
  | lit l => exact Nat.zero_le _
  | nil => exact Nat.zero_le _
  | ptr d => exact Nat.zero_le _
  | agg parts => exact Nat.zero_le _
  | iface t d => exact Nat.zero_le _
  | map entries => exact Nat.zero_le _
  | held h => exact Nat.zero_le _
theorem bulk_config {H : Type} {k t c s o : Int} {dn dou : DataW H} (h : Rows.uptoBulk (.agg [.lit (.int .i64 k), .lit (.int .i64 t), .lit (.int .i64 c), .agg [.lit (.int .i64 s), .lit (.int .i64 o), dn, dou]]) ≤ 1048576) : sliceLen dn ≤ 1048576 ∧ sliceLen dou ≤ 1048576 := by
  have h1 := bulk_list dn
  have h2 := bulk_list dou
  simp only [Rows.uptoBulk, Rows.uptoBulkAll] at h
  omega
set_option maxRecDepth 100000 in
theorem news_contract (H : Type) (enc : TypeId × Value → H) (W : World) (base : Nat) (args : Array Value) (ds gs : List (DataW H)) (before : List MemPlace)
    (hval : ∀ (j : Nat) t v, Tryz.f3.params[j]? = some t → args[j]? = some v → Value.okWide Tryz.prog W .any base t v)
    (hW : DataW.Whole enc Tryz.prog Tryz.f3.params.toList Rows.newsSpec.vars false W args.toList ds gs before) (hk : Rows.uptoSmall H (ds ++ gs) = true) :
    Calls Tryz.prog 3 args W fun e W' => ∃ v, e = .returned v ∧ Rows.newsSpec.post enc Tryz.prog Tryz.f3 false true false false W args v W' := by
  have hW' := hW
  obtain ⟨p, q, hA0, hV, rfl, hfz, hnd⟩ := hW
  have hA : DataW.TrodAll enc Tryz.prog W 0 (fun _ => true) true Tryz.f3.params.toList args.toList ds p := hA0
  rw [Tryz.params3] at hA hval
  obtain ⟨v0, vs0, d0, ds0, p0, q0, hargs, rfl, rfl, h0, r0⟩ := trodAll_cons hA
  obtain ⟨rfl, rfl, rfl⟩ := trodAll_nil r0
  obtain rfl : args = #[v0] := by cases args; simp_all
  obtain ⟨rfl, rfl⟩ := trodVars_none hV
  have h0k := h0
  obtain ⟨kind, th, cap, st, co, nx, ou, vn, vo, dn, dou, rfl, s1, s2, rfl, l1, l2, -⟩ := open_config (hval 0 26 v0 rfl rfl) h0
  clear hA0
  simp only [List.append_nil] at hW' hk
  have hlt : ∀ x ∈ p0, x.block < W.heap.size := fun x hx => by simpa using hW'.lt x hx
  have hbk : Rows.uptoBulkAll [DataW.agg (H := H) [.lit (.int .i64 kind), .lit (.int .i64 th), .lit (.int .i64 cap), .agg [.lit (.int .i64 st), .lit (.int .i64 co), dn, dou]]] ≤ 1048576 := of_decide_eq_true hk
  obtain ⟨b1, b2⟩ := bulk_config (by simp only [Rows.uptoBulkAll] at hbk; exact Nat.le_trans (Nat.le_add_right _ 0) hbk)
  refine (news_any kind th cap st co nx ou vn vo W s1 s2 (by omega) (by omega)).mono fun e W' ⟨he, hb⟩ => ?_
  subst he
  have hre : DataW.Trod enc Tryz.prog W' 0 (fun b => decide (b < W.heap.size)) true 26 _ _ p0 := Below.trod laid_out (by kernel_rfl) (of_decide_eq_true (by kernel_rfl)) h0k hb hlt
  exact ⟨_, rfl, ⟨_, _, _, [], p0, [], hW', trodAll_cons_mk (shut_bool Tryz.underlying4 _) trodAll_mk0, trodAll_mk1 hre, rfl, hb.frame _, fun h => by cases h⟩⟩
set_option maxRecDepth 100000 in
theorem news_lifted (os : Os) (started : os.Started) (H : Type) (enc : TypeId × Value → H) (F : Stop.Interp) :
    ReturnsInHanded {} Tryz.checked os 3 .any ((Rows.OpenSpec.upto Rows.newsSpec).pre6 enc Tryz.prog Tryz.f3 Rows.newsUptoRow.domain false) (((Rows.OpenSpec.upto Rows.newsSpec).at F).post enc Tryz.prog Tryz.f3 false true false false) := by
  refine returnsInHanded_of_cond (C := Tryz.checked) (s := Rows.OpenSpec.upto Rows.newsSpec) (k := Rows.uptoSmall) rfl knob_own started (by kernel_rfl) Tryz.func3
    (OpenSpec.witness (enc := enc) (C := Tryz.checked) (s := Rows.OpenSpec.upto Rows.newsSpec) (k := Rows.uptoSmall) rfl false ⟨#[], #[.agg #[.int .i64 0, .int .i64 0, .int .i64 0, .int .i64 0, .int .i64 0, .slice none 0 0, .slice none 0 0]], []⟩ 8 (by kernel_rfl) (by kernel_rfl) (by kernel_rfl)
      (x := ([.agg [.lit (.int .i64 0), .lit (.int .i64 0), .lit (.int .i64 0), .agg [.lit (.int .i64 0), .lit (.int .i64 0), .nil, .nil]]], [], [])) (by kernel_rfl) rfl (by kernel_rfl)) ?_
  intro W base args ds gs before hval hW _ hk _
  exact news_contract H enc W base args ds gs before hval hW hk
theorem and_i {a b : Bool} (h : a = true) (h' : b = true) : (a && b) = true := by rw [h, h']; rfl
theorem news_named : Tryz.pinned.checked.prog.funcNamed Rows.newsUptoRow.func = some 3 := by kernel_rfl
set_option maxHeartbeats 20000000 in
theorem news_facts : joinedFacts Tryz.pinned.checked.prog 3 Tryz.f3 (Rows.OpenSpec.upto Rows.newsSpec).bare Rows.newsUptoRow = true := by
  unfold joinedFacts
  repeat' with_reducible refine and_i ?_ ?_
  all_goals as_aux_lemma => kernel_rfl
theorem news_inst : Tryz.f3.isInstance Tryz.pinned.checked.prog Rows.newsUptoRow.origin Rows.newsUptoRow.targs := of_decide_eq_true (by kernel_rfl)
theorem news_wrap : Tryz.f3.isWrapper Tryz.pinned.checked.prog Rows.newsUptoRow.wrapper Rows.newsUptoRow.mainSum := by
  unfold Func.isWrapper
  first
    | (rw [if_pos (by decide +kernel)]; kernel_rfl)
    | (rw [if_neg (by decide +kernel)]; exact ⟨rfl, rfl⟩)
theorem news_upto : Rows.NewsUptoSaid :=
  OpenClaim.holds_of_cond 3 Tryz.f3 rfl rfl rfl rfl rfl rfl rfl ⟨rfl, rfl, rfl, rfl, rfl⟩ rfl rfl rfl rfl rfl news_named Tryz.func3 news_facts news_inst news_wrap
    (fun os started H enc _ F => news_lifted os started H enc F)
end Go.Proofs.YtefjhnhdagolhaaGreat
