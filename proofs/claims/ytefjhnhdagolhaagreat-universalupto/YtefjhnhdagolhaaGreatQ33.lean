import Derived.Test.YtefjhnhdagolhaaGreatQ19
import Derived.Test.YtefjhnhdagolhaaGreatQ32
import Derived.Test.YtefjhnhdagolhaaGreatQ31
namespace Go.Proofs.YtefjhnhdagolhaaGreat
open Go.RowKit
open M (upd upd_same upd_other RSt RTh Dd PI Plc Sn)
attribute [local go_sem ↓] Go.wp_at_zero Go.wp_at_succ
theorem table_xnew {n cap : Nat} {st co : Int} {nx ou : List Int} (hn : 1 ≤ n) (h64 : n ≤ 64) (hc : cap ≤ 64) (ht : tableOk st co nx ou = true) {w : World} {b : Nat} {w' : World} (h : TabMade n (cap : Int) st co nx ou w b w') : XNew (tableP co nx ou) (fun s => [s]) n cap w b w' := by
  obtain ⟨w1, g1, k1, g2, k2, hb, ho, o1, o2⟩ := h
  have z1 := o1.lt g1 rfl
  have z2 := o2.lt g2 rfl
  have hs := table_pos ht
  refine int.xnew (oT := 152) (fA := 387) (fT := 388) hn h64 hc ⟨w1, fun k => k = g1 ∨ k = g2, tableR g1 g2 st nx ou, _, _, _, hb, ho, ?_, fun I hI => ⟨rfl, ⟨Int.le_refl _, hs⟩, ⟨hI _ (.inl rfl), (ListAt.of_owns o1).later ho.below⟩, hI _ (.inr rfl), (ListAt.of_owns o2).later ho.below⟩, fun L q1 q2 => tableAp ht g1 k1 g2 k2 L q1 q2, fun L q1 q2 => tableTe g1 k1 g2 k2 L q1 q2⟩
  rintro k (rfl | rfl)
  · exact z1
  · exact z2
theorem row_set7 {w : World} {b : Nat} {t : TypeId} {x0 x1 x2 x3 x4 x5 x6 y0 y1 y2 y3 y4 y5 y6 : Value} (h : Row w b t [x0, x1, x2, x3, x4, x5, x6]) : Row (((((((w.setCell ⟨b, 0, none⟩ y0).setCell ⟨b, 1, none⟩ y1).setCell ⟨b, 2, none⟩ y2).setCell ⟨b, 3, none⟩ y3).setCell ⟨b, 4, none⟩ y4).setCell ⟨b, 5, none⟩ y5).setCell ⟨b, 6, none⟩ y6) b t [y0, y1, y2, y3, y4, y5, y6] :=
  ((((((h.set 0 _).set 1 _).set 2 _).set 3 _).set 4 _).set 5 _).set 6 _
theorem row_set47 {w : World} {b : Nat} {t : TypeId} {x0 x1 x2 x3 x4 x5 x6 y3 y4 y5 y6 : Value} (h : Row w b t [x0, x1, x2, x3, x4, x5, x6]) : Row ((((w.setCell ⟨b, 3, none⟩ y3).setCell ⟨b, 4, none⟩ y4).setCell ⟨b, 5, none⟩ y5).setCell ⟨b, 6, none⟩ y6) b t [x0, x1, x2, y3, y4, y5, y6] :=
  (((h.set 3 _).set 4 _).set 5 _).set 6 _
theorem cells7c {w : World} {b : Nat} {t : TypeId} {x0 x1 x2 x3 x4 x5 x6 : Value} (h : Row w b t [x0, x1, x2, x3, x4, x5, x6]) : w.cell? ⟨b, 0, none⟩ = some x0 ∧ w.cell? ⟨b, 1, none⟩ = some x1 ∧ w.cell? ⟨b, 2, none⟩ = some x2 ∧ w.cell? ⟨b, 3, none⟩ = some x3 ∧ w.cell? ⟨b, 4, none⟩ = some x4 ∧ w.cell? ⟨b, 5, none⟩ = some x5 ∧ w.cell? ⟨b, 6, none⟩ = some x6 := ⟨h.cell_of rfl, h.cell_of rfl, h.cell_of rfl, h.cell_of rfl, h.cell_of rfl, h.cell_of rfl, h.cell_of rfl⟩
theorem frozen7 {w : World} {b : Nat} {t : TypeId} {xs : List Value} (h : Row w b t xs) : w.frozen? ⟨b, 0, none⟩ = false ∧ w.frozen? ⟨b, 1, none⟩ = false ∧ w.frozen? ⟨b, 2, none⟩ = false ∧ w.frozen? ⟨b, 3, none⟩ = false ∧ w.frozen? ⟨b, 4, none⟩ = false ∧ w.frozen? ⟨b, 5, none⟩ = false ∧ w.frozen? ⟨b, 6, none⟩ = false := ⟨h.frozen 0, h.frozen 1, h.frozen 2, h.frozen 3, h.frozen 4, h.frozen 5, h.frozen 6⟩
theorem below_set7 {B b : Nat} {a w : World} {y0 y1 y2 y3 y4 y5 y6 : Value} (h : Below B a w) (hb : B ≤ b) : Below B a (((((((w.setCell ⟨b, 0, none⟩ y0).setCell ⟨b, 1, none⟩ y1).setCell ⟨b, 2, none⟩ y2).setCell ⟨b, 3, none⟩ y3).setCell ⟨b, 4, none⟩ y4).setCell ⟨b, 5, none⟩ y5).setCell ⟨b, 6, none⟩ y6) :=
  ((((((h.setCell hb _).setCell hb _).setCell hb _).setCell hb _).setCell hb _).setCell hb _).setCell hb _
theorem below_set47 {B b : Nat} {a w : World} {y3 y4 y5 y6 : Value} (h : Below B a w) (hb : B ≤ b) : Below B a ((((w.setCell ⟨b, 3, none⟩ y3).setCell ⟨b, 4, none⟩ y4).setCell ⟨b, 5, none⟩ y5).setCell ⟨b, 6, none⟩ y6) :=
  (((h.setCell hb _).setCell hb _).setCell hb _).setCell hb _
theorem owns_set47 {B b e size n : Nat} {v : Value} {xs : List Value} {w : World} {y3 y4 y5 y6 : Value} (h : w.ownsRow B e size v n xs) (hb : b < B) : ((((w.setCell ⟨b, 3, none⟩ y3).setCell ⟨b, 4, none⟩ y4).setCell ⟨b, 5, none⟩ y5).setCell ⟨b, 6, none⟩ y6).ownsRow B e size v n xs :=
  owns_block h fun q hq => by
    have := (h.lt q hq).1
    have hn : q ≠ b := by omega
    rw [Below.heap_setCell _ _ _ q hn, Below.heap_setCell _ _ _ q hn, Below.heap_setCell _ _ _ q hn, Below.heap_setCell _ _ _ q hn]
set_option maxRecDepth 20000 in
set_option maxHeartbeats 4000000 in
theorem universal_any (kind th cap st co : Int) (nx ou : List Int) (vn vo : Value) (l : List ActV) (hl : l.length ≤ 200000) (hi : ∀ x ∈ l, I64 x.t ∧ I64 x.n) (s : Value) (w : World) (hs : Scr w s l) (hn : Sl w vn (ints nx)) (ho : Sl w vo (ints ou)) (n1 : nx.length ≤ 1048576) (n2 : ou.length ≤ 1048576) (ik : I64 kind) (it : I64 th) (ic : I64 cap) (is : I64 st) (io : I64 co) (ix : ∀ x ∈ nx, I64 x) :
    Calls Tryz.prog 12 #[.agg #[.int .i64 kind, .int .i64 th, .int .i64 cap, .int .i64 st, .int .i64 co, vn, vo], s] w fun e w' => e = .returned (.bool true) ∧ Below w.heap.size w w' := by
  obtain ⟨a1, c1, rfl, f1⟩ := hn.open_ints
  obtain ⟨a2, c2, rfl, f2⟩ := ho.open_ints
  obtain ⟨p0, p1⟩ := pk_range th 19 (by decide)
  obtain ⟨q0, q1⟩ := pk_range cap 65 (by decide)
  obtain ⟨N, hN⟩ : ∃ N : Nat, (N : Int) = 2 + pk th 19 := ⟨(2 + pk th 19).toNat, by omega⟩
  obtain ⟨C, hC⟩ : ∃ C : Nat, (C : Int) = pk cap 65 := ⟨(pk cap 65).toNat, by omega⟩
  have hN2 : 2 ≤ N := by omega
  have hN64 : N ≤ 64 := by omega
  have hC64 : C ≤ 64 := by omega
  have HNC := hide (And.intro hN hC)
  have HCF := hide (fun W : World => config_w true kind th cap st co a1 a2 nx.length c1 ou.length c2 ik it ic W)
  have HSM := hide (fun (W : World) (hW : Below w.heap.size w W) => small_w st co nx ou _ _ is io W (hn.below hW) (ho.below hW) ix n1 n2)
  have HS := hide hs
  clear hn ho f1 f2 hs p0 p1 q0 q1 hN hC
  go_enter Tryz.func12, Tryz.ntmps12
  go_upto_region 1 with fail
  generalize hW : World.alloc w _ = W
  have hb0 : Below w.heap.size w W := by rw [← hW]; exact below_alloc w _
  have rB : Row W w.heap.size 26 [.int .i64 kind, .int .i64 th, .int .i64 cap, .int .i64 st, .int .i64 co, .slice a1 nx.length c1, .slice a2 ou.length c2] := by rw [← hW]; exact Row.new' rfl
  obtain ⟨x0, x1, x2, x3, x4, x5, x6⟩ := cells7c rB
  have HR := hide rB
  have HB := hide hb0
  clear rB hb0 hW
  go_wp2_with fail
  refine (HCF.out _).mono ?_
  rintro e w1 ⟨rfl, hb1⟩
  have r1 := HR.out.old hb1
  rw [← HNC.out.1, ← HNC.out.2]
  obtain ⟨x0, x1, x2, x3, x4, x5, x6⟩ := cells7c r1
  obtain ⟨y0, y1, y2, y3, y4, y5, y6⟩ := frozen7 r1
  have HR1 := hide r1
  have HB1 := hide (Below.next HB.out hb1 HB.out.size)
  clear r1 hb1 HB HR
  go_upto_region 2 with fail
  have r2 := row_set7 (y0 := .int .i64 (cfK true kind)) (y1 := .int .i64 (N : Int)) (y2 := .int .i64 (C : Int)) (y3 := .int .i64 st) (y4 := .int .i64 co) (y5 := .slice a1 nx.length c1) (y6 := .slice a2 ou.length c2) HR1.out
  have b2 := below_set7 (y0 := .int .i64 (cfK true kind)) (y1 := .int .i64 (N : Int)) (y2 := .int .i64 (C : Int)) (y3 := .int .i64 st) (y4 := .int .i64 co) (y5 := .slice a1 nx.length c1) (y6 := .slice a2 ou.length c2) HB1.out (Nat.le_refl w.heap.size)
  generalize World.setCell _ _ _ = W2 at *
  replace r2 : Row W2 w.heap.size 26 [.int .i64 5, .int .i64 (N : Int), .int .i64 (C : Int), .int .i64 st, .int .i64 co, .slice a1 nx.length c1, .slice a2 ou.length c2] := r2
  clear x0 x1 x2 x3 x4 x5 x6 y0 y1 y2 y3 y4 y5 y6
  obtain ⟨x0, x1, x2, x3, x4, x5, x6⟩ := cells7c r2
  have HR2 := hide r2
  have HB2 := hide b2
  clear r2 b2 HR1 HB1 HCF
  go_wp2_with fail
  refine (HSM.out W2 HB2.out).mono ?_
  rintro e w3 ⟨S, T, nx', ou', v1, v2, rfl, o1, o2, ht, hl', hb3⟩
  obtain ⟨⟨g1, d1, rfl⟩, -⟩ := owns_form o1
  obtain ⟨⟨g2, d2, rfl⟩, -⟩ := owns_form o2
  have r3 := HR2.out.old hb3
  clear x0 x1 x2 x3 x4 x5 x6
  obtain ⟨x0, x1, x2, x3, x4, x5, x6⟩ := cells7c r3
  obtain ⟨y0, y1, y2, y3, y4, y5, y6⟩ := frozen7 r3
  have hlt := HR2.out.lt
  have HR3 := hide r3
  have HB3 := hide (Below.next HB2.out hb3 HB2.out.size)
  have HO := hide (And.intro o1 (And.intro o2 ht))
  clear r3 hb3 HB2 HR2 HSM o1 o2 ht
  go_upto_region 3 with fail
  have r4 := row_set47 (y3 := .int .i64 S) (y4 := .int .i64 T) (y5 := .slice g1 nx'.length d1) (y6 := .slice g2 ou'.length d2) HR3.out
  have b4 := below_set47 (y3 := .int .i64 S) (y4 := .int .i64 T) (y5 := .slice g1 nx'.length d1) (y6 := .slice g2 ou'.length d2) HB3.out (Nat.le_refl w.heap.size)
  have o1 := owns_set47 (y3 := .int .i64 S) (y4 := .int .i64 T) (y5 := .slice g1 nx'.length d1) (y6 := .slice g2 ou'.length d2) HO.out.1 hlt
  have o2 := owns_set47 (y3 := .int .i64 S) (y4 := .int .i64 T) (y5 := .slice g1 nx'.length d1) (y6 := .slice g2 ou'.length d2) HO.out.2.1 hlt
  generalize World.setCell _ _ _ = W4 at *
  clear x0 x1 x2 x3 x4 x5 x6 y0 y1 y2 y3 y4 y5 y6
  obtain ⟨x0, x1, x2, x3, x4, x5, x6⟩ := cells7c r4
  have ht := HO.out.2.2
  have hou : ou'.length ≤ 64 := by
    have := ht
    simp only [tableOk, Bool.and_eq_true, decide_eq_true_eq] at this
    omega
  have HPL := hide (played_w (P := tableP T nx' ou') (tell := fun s => [s]) 5 S T N C g1 g2 nx'.length d1 ou'.length d2 hN2 hN64 hC64 l hl hi s W4 (Scr.below HS.out b4) (fun W hW => (new_five N (C : Int) S T nx' ou' _ _ W (owns_sl (owns_later o1 hW)) (owns_sl (owns_later o2 hW)) (by omega) hN64 (by omega) (by omega) ht (by omega) (table_len ht).1 (by omega) (table_len ht).2).mono fun e w' ⟨b, h1, h2⟩ => ⟨b, h1, table_xnew (by omega) hN64 hC64 ht h2⟩))
  have HW4 := hide (And.intro b4 (And.intro o1 (And.intro o2 ht)))
  clear r4 b4 o1 o2 ht HO HR3 HB3
  go_wp2_with fail
  refine HPL.out.mono ?_
  rintro e w5 ⟨D, A, X, fBe, fSt, fAn, fDo, fOr, fTe, fBo, rfl, d1', d2', d3', d4', d5', d6', d7', xo, hpg⟩
  have hb5 := hpg.bel
  obtain ⟨Y, ds, u, c, hps⟩ := hpg
  obtain ⟨b4, o1, o2, ht⟩ := HW4.out
  have HWI := hide (witnessed_w ht xo hps (by omega) (by omega) d1' d2' d3' d4' d5' (owns_later o1 hb5) (owns_later o2 hb5))
  have HIT := hide (fun (W : World) (hW : Below w5.heap.size w5 W) => inTime_w xo (hps.below xo hW) (by omega))
  have HB5 := hide (Below.next b4 hb5 b4.size)
  clear b4 o1 o2 ht hb5 hps xo d1' d2' d3' d4' d5' d6' d7' HPL HW4 x0 x1 x2 x3 x4 x5 x6
  go_wp2_with fail
  refine HWI.out.mono ?_
  rintro e w6 ⟨rfl, hb6⟩
  have HI6 := hide (HIT.out w6 hb6)
  have HB6 := hide (Below.next HB5.out hb6 HB5.out.size)
  clear hb6 HIT HWI HB5
  go_wp2_with fail
  refine HI6.out.mono ?_
  rintro e w7 ⟨rfl, hb7⟩
  have HB7 := hide (Below.next HB6.out hb7 HB6.out.size)
  clear hb7 HI6 HB6
  go_wp2_with fail
  go_ret
  exact ⟨rfl, HB7.out⟩
end Go.Proofs.YtefjhnhdagolhaaGreat
namespace Go.Proofs.YtefjhnhdagolhaaGreat
open Go.ChangeShapes Go.WideShapes Go.ChangeAt Go.RowKit Go.Joins Go.Deep
theorem laid_out2 : laidOutB Tryz.prog = true := by kernel_rfl
theorem knob_own2 : ownKnob Tryz.prog.godebug = none := by kernel_rfl
theorem bulk_list2 {H : Type} (d : DataW H) : sliceLen d ≤ Rows.uptoBulk d := by
  have one : ∀ x : DataW H, 1 ≤ Rows.uptoBulk x := by
    intro x
    cases x with
    | lit l => cases l <;> simp [Rows.uptoBulk]
    | nil => simp [Rows.uptoBulk]
    | ptr d => simp [Rows.uptoBulk]
    | slice elems spare => simp [Rows.uptoBulk]
    | agg parts => simp [Rows.uptoBulk]
    | iface t d => simp [Rows.uptoBulk]
    | map entries => simp [Rows.uptoBulk]
    | held h => simp [Rows.uptoBulk]
  cases d with
  | slice el sp =>
    have := bulk_each 1 el fun d _ => one d
    simp only [sliceLen, Rows.uptoBulk]
    omega
  | lit l => exact Nat.zero_le _
  | nil => exact Nat.zero_le _
  | ptr d => exact Nat.zero_le _
  | agg parts => exact Nat.zero_le _
  | iface t d => exact Nat.zero_le _
  | map entries => exact Nat.zero_le _
  | held h => exact Nat.zero_le _
theorem bulk_both {H : Type} {k t c s o : Int} {dn dou d1 : DataW H} (h : Rows.uptoBulkAll [.agg [.lit (.int .i64 k), .lit (.int .i64 t), .lit (.int .i64 c), .agg [.lit (.int .i64 s), .lit (.int .i64 o), dn, dou]], d1] ≤ 1048576) : sliceLen dn ≤ 1048576 ∧ sliceLen dou ≤ 1048576 ∧ Rows.uptoBulk d1 ≤ 1048576 := by
  have h1 := bulk_list2 dn
  have h2 := bulk_list2 dou
  simp only [Rows.uptoBulk, Rows.uptoBulkAll] at h
  omega
set_option maxRecDepth 100000 in
theorem universal_contract (H : Type) (enc : TypeId × Value → H) (W : World) (base : Nat) (args : Array Value) (ds gs : List (DataW H)) (before : List MemPlace)
    (hval : ∀ (j : Nat) t v, Tryz.f12.params[j]? = some t → args[j]? = some v → Value.okWide Tryz.prog W .any base t v)
    (hW : DataW.Whole enc Tryz.prog Tryz.f12.params.toList Rows.universalSpec.vars false W args.toList ds gs before) (hk : Rows.uptoSmall H (ds ++ gs) = true) :
    Calls Tryz.prog 12 args W fun e W' => ∃ v, e = .returned v ∧ Rows.universalSpec.post enc Tryz.prog Tryz.f12 false true false false W args v W' := by
  have hW' := hW
  obtain ⟨p, q, hA0, hV, rfl, hfz, hnd⟩ := hW
  have hA : DataW.TrodAll enc Tryz.prog W 0 (fun _ => true) true Tryz.f12.params.toList args.toList ds p := hA0
  rw [Tryz.params12] at hA hval
  obtain ⟨v0, vs0, d0, ds0, p0, q0, hargs, rfl, rfl, h0, r0⟩ := trodAll_cons hA
  obtain ⟨v1, vs1, d1, ds1, p1, q1, rfl, rfl, rfl, h1, r1⟩ := trodAll_cons r0
  obtain ⟨rfl, rfl, rfl⟩ := trodAll_nil r1
  obtain rfl : args = #[v0, v1] := by cases args; simp_all
  obtain ⟨rfl, rfl⟩ := trodVars_none hV
  have h0k := h0
  have h1k := h1
  obtain ⟨kind, th, cap, st, co, nx, ou, vn, vo, dn, dou, rfl, s1, s2, rfl, l1, l2, hwf⟩ := open_config (hval 0 26 v0 rfl rfl) h0
  obtain ⟨l, hs, hi, hlb⟩ := open_script (hval 1 29 v1 rfl rfl) h1
  clear hA0
  simp only [List.append_nil] at hW' hk
  have hlt : ∀ x ∈ p0 ++ p1, x.block < W.heap.size := fun x hx => by simpa using hW'.lt x (by simpa using hx)
  obtain ⟨b1, b2, b3⟩ := bulk_both (of_decide_eq_true hk)
  have hw : ∀ x ∈ [kind, th, cap, st, co] ++ nx ++ ou, I64 x := fun x hx => wf_i64 (hwf x hx)
  refine (universal_any kind th cap st co nx ou vn vo l (by omega) hi v1 W hs s1 s2 (by omega) (by omega) (hw kind (by simp)) (hw th (by simp)) (hw cap (by simp)) (hw st (by simp)) (hw co (by simp)) (fun x hx => hw x (by simp [hx]))).mono fun e W' ⟨he, hb⟩ => ?_
  subst he
  have hre0 : DataW.Trod enc Tryz.prog W' 0 (fun b => decide (b < W.heap.size)) true 26 _ _ p0 := Below.trod laid_out2 (by kernel_rfl) (of_decide_eq_true (by kernel_rfl)) h0k hb (fun x hx => hlt x (by simp [hx]))
  have hre1 : DataW.Trod enc Tryz.prog W' 0 (fun b => decide (b < W.heap.size)) true 29 _ _ p1 := Below.trod laid_out2 (by kernel_rfl) (of_decide_eq_true (by kernel_rfl)) h1k hb (fun x hx => hlt x (by simp [hx]))
  exact ⟨_, rfl, ⟨_, _, _, [], p0 ++ p1, [], hW', trodAll_cons_mk (shut_bool Tryz.underlying4 _) trodAll_mk0, trodAll_cons_mk hre0 (trodAll_mk1 hre1), rfl, hb.frame _, fun h => by cases h⟩⟩
set_option maxRecDepth 100000 in
theorem universal_lifted (os : Os) (started : os.Started) (H : Type) (enc : TypeId × Value → H) (F : Stop.Interp) :
    ReturnsInHanded {} Tryz.checked os 12 .any ((Rows.OpenSpec.upto Rows.universalSpec).pre6 enc Tryz.prog Tryz.f12 Rows.universalUptoRow.domain false) (((Rows.OpenSpec.upto Rows.universalSpec).at F).post enc Tryz.prog Tryz.f12 false true false false) := by
  refine returnsInHanded_of_cond (C := Tryz.checked) (s := Rows.OpenSpec.upto Rows.universalSpec) (k := Rows.uptoSmall) rfl knob_own2 started (by kernel_rfl) Tryz.func12
    (OpenSpec.witness (enc := enc) (C := Tryz.checked) (s := Rows.OpenSpec.upto Rows.universalSpec) (k := Rows.uptoSmall) rfl false ⟨#[], #[.agg #[.int .i64 0, .int .i64 0, .int .i64 0, .int .i64 0, .int .i64 0, .slice none 0 0, .slice none 0 0], .slice none 0 0], []⟩ 8 (by kernel_rfl) (by kernel_rfl) (by kernel_rfl)
      (x := ([.agg [.lit (.int .i64 0), .lit (.int .i64 0), .lit (.int .i64 0), .agg [.lit (.int .i64 0), .lit (.int .i64 0), .nil, .nil]], .nil], [], [])) (by kernel_rfl) rfl (by kernel_rfl)) ?_
  intro W base args ds gs before hval hW _ hk _
  exact universal_contract H enc W base args ds gs before hval hW hk
theorem and_i2 {a b : Bool} (h : a = true) (h' : b = true) : (a && b) = true := by rw [h, h']; rfl
theorem universal_named : Tryz.pinned.checked.prog.funcNamed Rows.universalUptoRow.func = some 12 := by kernel_rfl
set_option maxHeartbeats 20000000 in
theorem universal_facts : joinedFacts Tryz.pinned.checked.prog 12 Tryz.f12 (Rows.OpenSpec.upto Rows.universalSpec).bare Rows.universalUptoRow = true := by
  unfold joinedFacts
  repeat' with_reducible refine and_i2 ?_ ?_
  all_goals as_aux_lemma => kernel_rfl
theorem universal_inst : Tryz.f12.isInstance Tryz.pinned.checked.prog Rows.universalUptoRow.origin Rows.universalUptoRow.targs := of_decide_eq_true (by kernel_rfl)
theorem universal_wrap : Tryz.f12.isWrapper Tryz.pinned.checked.prog Rows.universalUptoRow.wrapper Rows.universalUptoRow.mainSum := by
  unfold Func.isWrapper
  first
    | (rw [if_pos (by decide +kernel)]; kernel_rfl)
    | (rw [if_neg (by decide +kernel)]; exact ⟨rfl, rfl⟩)
theorem universal_upto : Rows.UniversalUptoSaid :=
  OpenClaim.holds_of_cond 12 Tryz.f12 rfl rfl rfl rfl rfl rfl rfl ⟨rfl, rfl, rfl, rfl, rfl⟩ rfl rfl rfl rfl rfl universal_named Tryz.func12 universal_facts universal_inst universal_wrap
    (fun os started H enc _ F => universal_lifted os started H enc F)
end Go.Proofs.YtefjhnhdagolhaaGreat
