import Derived.Test.YtefjhnhdagolhaaGreatQ30
import Derived.Test.YtefjhnhdagolhaaGreatQ31
import Derived.Test.YtefjhnhdagolhaaGreatQ13
import Derived.Test.YtefjhnhdagolhaaGreatQ25
import Derived.Test.YtefjhnhdagolhaaGreatQ03
import Derived.Test.YtefjhnhdagolhaaGreatQ11
import Derived.Test.YtefjhnhdagolhaaGreatQ12
import Derived.Test.YtefjhnhdagolhaaGreatQ02
import Derived.Test.YtefjhnhdagolhaaGreatProg
import Derived.Test.YtefjhnhdagolhaaGreatQ00
import Derived.WalkKit
import Derived.ProofKit
import Derived.OpenShut
import Derived.JoinedCond
import Derived.Lib.SmallJoins
import Derived.Test.YtefjhnhdagolhaaGreatRows
namespace Go.Proofs.YtefjhnhdagolhaaGreat
open Go.RowKit
open M (upd upd_same upd_other RSt RTh Dd PI Plc Sn)
attribute [local go_sem ↓] Go.wp_at_zero Go.wp_at_succ
theorem info_bool1 : (Tryz.prog.info? 4).map (fun i => (i.zero, i.size, i.bytes)) = some (some (.bool false), 1, 1) := by kernel_rfl
def bls (l : List Bool) : List Value := l.map .bool
theorem bls_get {l : List Bool} {i : Nat} {x : Bool} (h : l[i]? = some x) : (bls l)[i]? = some (.bool x) := by rw [bls, List.getElem?_map, h]; rfl
theorem bls_set (l : List Bool) (i : Nat) (x : Bool) : bls (l.set i x) = (bls l).set i (.bool x) := by simp [bls, List.map_set]
theorem zeros_bls (n : Nat) : zeros (.bool false) n = bls (List.replicate n false) := by simp [zeros, bls]
section
variable {D : DL} {X : (Nat → Prop) → RSt → World → Prop} {A : PL} {w0 : QW} {w : World} {Y : RSt} {ds : List Dd} {c : Nat} {fBe fSt fAn fDo fOr fTe fBo K : Nat} {u : Nat → Option Nat} {σ : Type} {P : M.Plain σ} {tell : σ → List Int}
theorem PS.cells (h : PS P X D A w0 K Y ds u c w) {i : Nat} {d : Dd} (hd : ds[i]? = some d) : ∃ (gd cd : Nat), w.cell? ⟨A.bP, 8, none⟩ = some (.slice (some ⟨gd, 0, none⟩) ds.length cd) ∧ ∀ f v, (ddc d)[f]? = some v → w.cell? ⟨gd, i * 12 + f, none⟩ = some v := by
  obtain ⟨S, vd, vu, vs, hm, hp, -, -⟩ := h
  obtain ⟨gd, cd, rfl, hcs⟩ := hm.deed hd
  exact ⟨gd, cd, hm.row.cell_of rfl, hcs⟩
theorem PS.len (h : PS P X D A w0 K Y ds u c w) : ∃ a cd, w.cell? ⟨A.bP, 8, none⟩ = some (.slice a ds.length cd) := by
  obtain ⟨S, vd, vu, vs, hm, hp, -, -⟩ := h
  obtain ⟨⟨a, cd, rfl⟩, -⟩ := owns_form hm.od
  exact ⟨a, cd, hm.row.cell_of rfl⟩
structure WJ (st co : Int) (nx ou : List Int) (vn vo : Value) (Y : RSt) (ds : List Dd) (w W : World) (bH bS k pb : Nat) (sn : List Bool) (w' : World) : Prop where
  po : (k = 0 ∧ pb = 0) ∨ ∃ k' m, k = k' + 1 ∧ Y.order[k']? = some m ∧ m.b = pb
  pk : pb ≤ k
  ss : Sn Y ds k sn
  rh : Row w' bH 132 [.int .i64 5, .int .i64 st, .int .i64 co, vn, vo, .int .i64 (rpAt (tableP co nx ou) Y k).st, .slice none 0 0]
  rs : Row w' bS 4 (bls sn)
  sr : 0 ≤ (rpAt (tableP co nx ou) Y k).st ∧ (rpAt (tableP co nx ou) Y k).st < st
  bl : Below w.heap.size w w'
  fr : Fr (fun x => x = bH ∨ x = bS) W w'
theorem WJ.drewN {st co : Int} {nx ou : List Int} {vn vo : Value} {Y : RSt} {ds : List Dd} {w W w' : World} {bH bS k pb : Nat} {sn : List Bool} (h : WJ st co nx ou vn vo Y ds w W bH bS k pb sn w') (n : Nat) : WJ st co nx ou vn vo Y ds w W bH bS k pb sn (w'.drewN n) := ⟨h.po, h.pk, h.ss, h.rh, h.rs, h.sr, Below.drewN h.bl n, h.fr.drewN n⟩
structure WK (st co : Int) (vn vo : Value) (w W : World) (bH bS : Nat) (z : Int) (sn : List Bool) (w' : World) : Prop where
  rh : Row w' bH 132 [.int .i64 5, .int .i64 st, .int .i64 co, vn, vo, .int .i64 z, .slice none 0 0]
  rs : Row w' bS 4 (bls sn)
  bl : Below w.heap.size w w'
  fr : Fr (fun x => x = bH ∨ x = bS) W w'
theorem WK.drewN {st co z : Int} {vn vo : Value} {w W w' : World} {bH bS : Nat} {sn : List Bool} (h : WK st co vn vo w W bH bS z sn w') (n : Nat) : WK st co vn vo w W bH bS z sn (w'.drewN n) := ⟨h.rh, h.rs, Below.drewN h.bl n, h.fr.drewN n⟩
theorem WK.later {st co z : Int} {vn vo : Value} {w W w' w2 : World} {bH bS : Nat} {sn : List Bool} (h : WK st co vn vo w W bH bS z sn w') (hb : Below w'.heap.size w' w2) : WK st co vn vo w W bH bS z sn w2 := ⟨h.rh.old hb, h.rs.old hb, Below.next h.bl hb h.bl.size, h.fr.trans (Fr.of_below hb)⟩
theorem WK.put {st co z : Int} {vn vo : Value} {w W w' : World} {bH bS : Nat} {sn : List Bool} (h : WK st co vn vo w W bH bS z sn w') (hn : bH ≠ bS) (hS : w.heap.size ≤ bS) (i : Nat) : WK st co vn vo w W bH bS z (sn.set i true) (w'.setCell ⟨bS, i, none⟩ (.bool true)) :=
  ⟨h.rh.setOther hn _, by rw [bls_set]; exact h.rs.set i _, h.bl.setCell hS _, h.fr.here (.inr rfl) _ _⟩
theorem WK.heap {st co z z' : Int} {vn vo : Value} {w W w' w2 : World} {bH bS : Nat} {sn : List Bool} (h : WK st co vn vo w W bH bS z sn w') (hn : bH ≠ bS) (hH : w.heap.size ≤ bH) (hr : Row w2 bH 132 [.int .i64 5, .int .i64 st, .int .i64 co, vn, vo, .int .i64 z', .slice none 0 0]) (hf : Fr (fun k => k = bH) w' w2) : WK st co vn vo w W bH bS z' sn w2 where
  rh := hr
  rs := h.rs.of_block (hf.block _ h.rs.lt (fun q => hn q.symm))
  bl := ⟨hf.os.trans h.bl.os, hf.tape.trans h.bl.tape, hf.output.trans h.bl.output, Nat.le_trans h.bl.size hf.size, fun k hk => (hf.block k (Nat.lt_of_lt_of_le hk h.bl.size) (fun q => by omega)).trans (h.bl.block k hk)⟩
  fr := h.fr.trans ⟨hf.os, hf.tape, hf.output, hf.size, fun k hk hn => hf.block k hk (fun q => hn (.inl q))⟩
set_option maxRecDepth 20000 in
set_option maxHeartbeats 8000000 in
theorem witnessed_w {st co : Int} {nx ou : List Int} {vn vo : Value} {B : Nat} (ht : tableOk st co nx ou = true) {tl : Int → List Int} (xo : XOk (tableP co nx ou) tl D A.tE A.bN X fBe fSt fAn fDo fOr fTe fBo) (h : PS (tableP co nx ou) X D A w0 K Y ds u c w) (hK : K ≤ 1000000000) (h64 : D.n ≤ 64) (hkd : A.kd = 5) (hst : A.st = st) (hco : A.co = co) (hvn : A.vn = vn) (hvo : A.vo = vo) (hon : w.ownsRow B 3 1 vn nx.length (ints nx)) (hoo : w.ownsRow B 3 1 vo ou.length (ints ou)) :
    Calls Tryz.prog 35 #[.pointer (some ⟨A.bP, 0, none⟩)] w fun e w' => e = .returned (.bool true) ∧ Below w.heap.size w w' := by
  have HPS := hide h
  have HT := hide ht
  obtain ⟨S, vd, vu, vs, hpm, hpi, hlim, -⟩ := h
  obtain ⟨⟨a1, k1, e1⟩, -⟩ := owns_form hon
  obtain ⟨⟨a2, k2, e2⟩, -⟩ := owns_form hoo
  subst e1 e2
  have c0 : w.cell? ⟨A.bP, 0, none⟩ = some (.pointer (some ⟨A.bX, 0, none⟩)) := hpm.row.cell_of rfl
  have c1 : w.cell? ⟨A.bP, 1, none⟩ = some (.int .i64 5) := by rw [← hkd]; exact hpm.row.cell_of rfl
  have c4 : w.cell? ⟨A.bP, 4, none⟩ = some (.int .i64 st) := by rw [← hst]; exact hpm.row.cell_of rfl
  have c5 : w.cell? ⟨A.bP, 5, none⟩ = some (.int .i64 co) := by rw [← hco]; exact hpm.row.cell_of rfl
  have c6 : w.cell? ⟨A.bP, 6, none⟩ = some (.slice a1 nx.length k1) := by rw [← hvn]; exact hpm.row.cell_of rfl
  have c7 : w.cell? ⟨A.bP, 7, none⟩ = some (.slice a2 ou.length k2) := by rw [← hvo]; exact hpm.row.cell_of rfl
  have cx : w.cell? ⟨A.bX, 0, none⟩ = some (.iface A.tE (.pointer (some ⟨A.bN, 0, none⟩))) := hpm.obj.cell_of rfl
  have hm := xo.mOr
  have hc := xo.cOr
  have HO := hide (xo.or _ _ _ hpm.x (hlim.mono hK))
  have hdl : ds.length ≤ 64000000000 := Nat.le_trans (hpi.count_le h64 (fun t ht => Nat.le_trans (hlim.1 t ht) hK)) (by omega)
  have HPI := hide hpi
  have HX := hide xo
  have HN := hide hon
  have HOU := hide hoo
  have HC := hide (And.intro c1 (And.intro c4 (And.intro c5 (And.intro c6 c7))))
  clear hpm hpi hlim xo ht hkd hst hco hvn hvo hon hoo c1 c4 c5 c6 c7 hK h64
  go_enter Tryz.func35, Tryz.ntmps35
  go_wp2_with fail
  refine HO.out.mono ?_
  rintro e w1 ⟨va, rfl, ho, hb1⟩
  obtain ⟨⟨a, cp, rfl⟩, hmx⟩ := owns_form ho
  have hml : Y.order.length ≤ 9223372036854775807 := hmx
  have c1 := cell_later hb1 HC.out.1
  have c4 := cell_later hb1 HC.out.2.1
  have c5 := cell_later hb1 HC.out.2.2.1
  have c6 := cell_later hb1 HC.out.2.2.2.1
  have c7 := cell_later hb1 HC.out.2.2.2.2
  have HB1 := hide hb1
  have HOW := hide ho
  clear ho hb1 c0 cx hm hc hmx HO HC
  go_upto_region 2 with fail
  go_cut [4] (fun p w' => p = .pointer (some ⟨w1.heap.size, 0, none⟩) ∧ Below w1.heap.size w1 w' ∧ Row w' w1.heap.size 132 [.int .i64 5, .int .i64 st, .int .i64 co, .slice a1 nx.length k1, .slice a2 ou.length k2, .int .i64 0, .slice none 0 0])
  case first =>
    go_region
    all_goals
      go_wp2
      go_meet
      case rel => exact ⟨rfl, (Below.drew (Below.refl _ _)).alloc (Nat.le_refl _) _, Row.new' rfl⟩
  case rest =>
    obtain ⟨rfl, hb2, rH⟩ := hcut
    obtain ⟨ad, cd0, e8⟩ := (HPS.out.below HX.out (Below.next HB1.out hb2 HB1.out.size)).len
    have hmk := fun w => run_make_zeros (P := Tryz.prog) 133 4 (.bool false) 1 Tryz.underlying133 info_bool1 rfl (ds.length : Int) ds.length rfl (by omega) (by omega) w
    have HR := hide (And.intro hb2 rH)
    clear hb2 rH
    go_upto_region 4 with fail
    obtain ⟨hb2, rH⟩ := HR.out
    generalize hW : World.alloc wc _ = W
    have hbW : Below wc.heap.size wc W := by rw [← hW]; exact below_alloc wc _
    have rS : Row W wc.heap.size 4 (bls (List.replicate ds.length false)) := by rw [← hW, ← zeros_bls]; exact Row.new wc _ _
    have rH1 := rH.old hbW
    have hO := owns_later (owns_later HOW.out hb2) hbW
    have hBW := Below.next (Below.next HB1.out hb2 HB1.out.size) hbW (Below.next HB1.out hb2 HB1.out.size).size
    have hz1 := HB1.out.size
    have hz2 := hb2.size
    have hHS : w1.heap.size ≠ wc.heap.size := by have := rH.lt; omega
    have hH0 : w.heap.size ≤ w1.heap.size := hz1
    have hS0 : w.heap.size ≤ wc.heap.size := by omega
    generalize w1.heap.size = bH at *
    generalize wc.heap.size = bS at *
    have HJ0 := hide (show WJ st co nx ou (.slice a1 nx.length k1) (.slice a2 ou.length k2) Y ds w W bH bS 0 0 (List.replicate ds.length false) W from ⟨.inl ⟨rfl, rfl⟩, Nat.le_refl _, Sn.new Y ds, rH1, rS, ⟨Int.le_refl _, table_pos HT.out⟩, hBW, Fr.refl _ _⟩)
    have HO2 := hide hO
    have HOA := hide (show ∀ q, (Value.slice a Y.order.length cp).ownBlock = some q → ¬ (q = bH ∨ q = bS) from fun q e hq => by
      rcases hq with rfl | rfl
      · exact owns_apart hO rH1 (by decide) e
      · exact owns_apart hO rS (by decide) e)
    clear HR HOW HB1 hW hbW rS rH1 rH hO hBW hb2 e8 hmk hz1 hz2 c1 c4 c5 c6 c7
    go_wp2
    go_loopw [6, 7] (fun p i w' => ∃ (k pb : Nat) (sn : List Bool), k ≤ Y.order.length ∧ i = .int .i64 (k : Int) ∧ p = .int .i64 (pb : Int) ∧ WJ st co nx ou (.slice a1 nx.length k1) (.slice a2 ou.length k2) Y ds w W bH bS k pb sn w') (fun _ i _ => Y.order.length - (intOf i).toNat)
    case atStart => exact ⟨0, 0, _, Nat.zero_le _, rfl, rfl, HJ0.out⟩
    case round =>
      clear HJ0
      obtain ⟨k, pb, sn, hk, rfl, rfl, hJ⟩ := hrel
      by_cases hlt : k < Y.order.length
      · have hlt' : (k : Int) < (Y.order.length : Int) := by omega
        have hk0 : (0 : Int) ≤ (k : Int) := by omega
        have hmk : Y.order[k]? = some Y.order[k] := List.getElem?_eq_getElem hlt
        generalize Y.order[k] = m at hmk
        have hOr : wr.ownsRow w.heap.size 81 3 (.slice a Y.order.length cp) Y.order.length (markcs Y.order) := owns_block HO2.out fun q e => hJ.fr.block q (HO2.out.lt q e).2 (HOA.out q e)
        obtain ⟨og, oc, q1, m0, m1, m2⟩ := mark_cells hOr hmk
        injection q1 with q1 _ q2
        subst q1 q2
        obtain ⟨i, d, gd, cd, hd, hpl, e8, hcs, -, hcl⟩ := (HPS.out.below HX.out hJ.bl).deed hmk
        have hil : i < ds.length := (List.getElem?_eq_some_iff.mp hd).1
        have hil' : (i : Int) < (ds.length : Int) := by omega
        have hi0 : (0 : Int) ≤ (i : Int) := by omega
        have hin : decide ((i : Int) < 0) = false := decide_eq_false (by omega)
        have HCL := hide hcl
        have HE8 := hide e8
        have HCS := hide hcs
        have HOR := hide hOr
        have HJ := hide hJ
        clear hcl hcs hJ hOr e8
        go_wp2_with fail
        refine HCL.out.mono ?_
        rintro e w2 ⟨rfl, hb2⟩
        have s0 : w2.cell? ⟨bS, i, none⟩ = some (.bool false) := cell_later hb2 (HJ.out.rs.cell_of (bls_get (HJ.out.ss.not hd hpl)))
        have f0 := (HJ.out.rs.old hb2).frozen i
        have HB2 := hide hb2
        clear hb2 HCL m0 m1 m2
        go_upto_region 12 with fail
        have hK5 := ((WK.mk HJ.out.rh HJ.out.rs HJ.out.bl HJ.out.fr).later HB2.out).put hHS hS0 i
        generalize World.setCell w2 _ _ = W5 at *
        have HK5 := hide hK5
        have HST := hide (show m.b = pb + 1 ∨ (m.b = pb ∧ ∃ (k' : Nat) (m' : M.Mark), k = k' + 1 ∧ Y.order[k']? = some m' ∧ m'.t < m.t) by
          rcases HJ.out.po with ⟨q1, q2⟩ | ⟨k', m', q1, q2, q3⟩
          · subst q1
            exact .inl (by rw [M.order_first HPI.out.bo hmk, q2])
          · subst q1
            rcases M.order_step HPI.out.bo q2 hmk with q | q
            · exact .inl (by omega)
            · exact .inr ⟨by omega, k', m', rfl, q2, q.2⟩)
        have hO5 : W5.ownsRow w.heap.size 81 3 (.slice (some ⟨og, 0, none⟩) Y.order.length cp) Y.order.length (markcs Y.order) := owns_block HO2.out fun q e => hK5.fr.block q (HO2.out.lt q e).2 (HOA.out q e)
        obtain ⟨og', oc', q1, m0, m1, -⟩ := mark_cells hO5 hmk
        injection q1 with q1 _ q9
        injection q1 with q1
        injection q1 with q1 _ _
        subst q1 q9
        have hpk := HJ.out.pk
        have HPK := hide hpk
        have hw1 : IntKind.i64.wrap ((pb : Int) + 1) = (pb : Int) + 1 := wrapi _ (by omega) (by omega)
        have HO5 := hide hO5
        clear hK5 hO5 s0 f0 HE8 HCS HOR hpk
        rcases HST.out with hA | ⟨hA, k', m', hkk, hm', htt⟩
        case' inl =>
          have HA := hide hA
          rw [hA] at m0
          replace m0 : W5.cell? ⟨og, k * 3, none⟩ = some (.int .i64 ((pb : Int) + 1)) := m0
          have hA2 : ((pb : Int) + 1 == (pb : Int)) = false := by simp; omega
          clear hA
          go_upto_region 13 with fail
          go_quiet (fail)
          go_upto_region 17 with fail
        case' inr =>
          obtain ⟨og', oc', q1, -, m1', -⟩ := mark_cells HO5.out hm'
          injection q1 with q1 _ q9
          injection q1 with q1
          injection q1 with q1 _ _
          subst q1 q9
          have HA := hide hA
          rw [hA] at m0
          have hB1 : ((pb : Int) == (pb : Int) + 1) = false := by simp; omega
          have hk1 : (0 : Int) < (k : Int) := by omega
          have hk2 : (0 < k) = True := eq_true (by omega)
          have hwk : IntKind.i64.wrap ((k : Int) - 1) = (k' : Int) := by rw [wrapi _ (by omega) (by omega)]; omega
          have hk'0 : (0 : Int) ≤ (k' : Int) := by omega
          have hk'1 : (k' : Int) < (Y.order.length : Int) := by omega
          have htt1 : (m'.t : Int) < (m.t : Int) := by omega
          have htt2 : (m'.t < m.t) = True := eq_true htt
          have HKK := hide hkk
          clear hA hkk htt
          go_upto_region 13 with fail
          go_quiet (fail)
          go_upto_region 17 with fail
        all_goals
          generalize hW6 : World.drewN W5 _ = W6
          have hK6 : WK st co (.slice a1 nx.length k1) (.slice a2 ou.length k2) w W bH bS (rpAt (tableP co nx ou) Y k).st (sn.set i true) W6 := by rw [← hW6]; exact HK5.out.drewN _
          obtain ⟨ge, ce, e8, hcs⟩ := (HPS.out.below HX.out hK6.bl).cells hd
          have o0 : W6.cell? ⟨ge, i * 12, none⟩ = some (.int .i64 d.op.c) := hcs 0 _ rfl
          have o1 : W6.cell? ⟨ge, i * 12 + 1, none⟩ = some (.int .i64 d.op.a) := hcs 1 _ rfl
          have o2 : W6.cell? ⟨ge, i * 12 + 2, none⟩ = some (.int .i64 d.op.b) := hcs 2 _ rfl
          have HH := hide (heap_w HT.out HJ.out.sr.1 HJ.out.sr.2 (owns_later HN.out hK6.bl) (owns_later HOU.out hK6.bl) hK6.rh d.op)
          have HK6 := hide hK6
          clear hK6 hcs hW6 HK5 HO5 HST m0 m1 HB2
          try clear m1'
          go_wp2_with fail
          refine HH.out.mono ?_
          rintro e w7 ⟨rfl, rh7, fr7, s0, s1⟩
          have HK7 := hide (HK6.out.heap hHS hH0 rh7 fr7)
          have HSR := hide (And.intro s0 s1)
          clear rh7 fr7 s0 s1 HK6 HH e8 o0 o1 o2
          go_upto_region 18 with fail
          generalize hA8 : World.alloc w7 _ = W8
          have b8 : Below w7.heap.size w7 W8 := by rw [← hA8]; exact below_alloc _ _
          have r8 : Row W8 w7.heap.size 94 [.int .i64 ((tableP co nx ou).apply (rpAt (tableP co nx ou) Y k).st d.op).2.s, .int .i64 ((tableP co nx ou).apply (rpAt (tableP co nx ou) Y k).st d.op).2.v] := by rw [← hA8]; exact Row.new' rfl
          have hK8 := HK7.out.later b8
          obtain ⟨gf, cf, e8, hcs⟩ := (HPS.out.below HX.out hK8.bl).cells hd
          have j7 := hcs 7 _ rfl
          have j10 := hcs 10 _ rfl
          have j11 := hcs 11 _ rfl
          have x0 := r8.cell_of (i := 0) rfl
          have x1 := r8.cell_of (i := 1) rfl
          obtain ⟨hr1, hr2⟩ := rpAt_deed HPI.out hd hpl
          have HF := hide (show WJ st co nx ou (.slice a1 nx.length k1) (.slice a2 ou.length k2) Y ds w W bH bS (k + 1) m.b (sn.set i true) W8 from ⟨.inr ⟨k, m, rfl, hmk, rfl⟩, by have := HA.out; have := HPK.out; omega, HJ.out.ss.put HPI.out hd hpl, by rw [hr1]; exact hK8.rh, hK8.rs, by rw [hr1]; exact HSR.out, hK8.bl, hK8.fr⟩)
          have HPB := hide HA.out
          clear hA8 b8 r8 hK8 HK7 HSR hcs hr1 HJ
          generalize ((tableP co nx ou).apply (rpAt (tableP co nx ou) Y k).st d.op).2 = an at *
          by_cases hen : 0 < d.en
          · have hen1 : (0 : Int) < (d.en : Int) := by omega
            have hen2 : (0 < d.en) = True := eq_true hen
            rw [hr2 hen] at j10 j11
            clear hr2
            go_quiet (fail)
            go_wp2
            go_roundw
            case rel => exact ⟨k + 1, m.b, _, by omega, by go_num, by have := HPB.out; congr 1; omega, HF.out.drewN _⟩
            case measure => simp [intOf]; omega
          · have hen2 : (0 < d.en) = False := eq_false hen
            have hen1 : decide ((0 : Int) < (d.en : Int)) = false := decide_eq_false (by omega)
            clear hr2
            go_quiet (fail)
            go_wp2
            go_roundw
            case rel => exact ⟨k + 1, m.b, _, by omega, by go_num, by have := HPB.out; congr 1; omega, HF.out.drewN _⟩
            case measure => simp [intOf]; omega
      · have hlt' : ¬ (k : Int) < (Y.order.length : Int) := by omega
        obtain rfl : k = Y.order.length := by omega
        have HJ := hide hJ
        clear hJ
        go_wp2
        go_loopw [12] (fun i w' => ∃ q : Nat, q ≤ ds.length ∧ i = .int .i64 (q : Int) ∧ Below wr.heap.size wr w') (fun i _ => ds.length - (intOf i).toNat)
        case atStart => exact ⟨0, Nat.zero_le _, rfl, Below.refl _ _⟩
        case round =>
          rename_i w9
          obtain ⟨q, hq, rfl, hbq⟩ := hrel
          have hB := Below.next HJ.out.bl hbq HJ.out.bl.size
          by_cases hqt : q < ds.length
          · have hqt' : (q : Int) < (ds.length : Int) := by omega
            have hq0 : (0 : Int) ≤ (q : Int) := by omega
            have hd : ds[q]? = some ds[q] := List.getElem?_eq_getElem hqt
            generalize ds[q] = d at hd
            obtain ⟨gf, cf, e8, hcs⟩ := (HPS.out.below HX.out hB).cells hd
            have j7 := hcs 7 _ rfl
            have HBQ := hide hbq
            by_cases hen : 0 < d.en
            · have hen1 : (0 : Int) < (d.en : Int) := by omega
              have hen2 : (0 < d.en) = True := eq_true hen
              have s0 := cell_later hbq (HJ.out.rs.cell_of (bls_get (HJ.out.ss.all HPI.out hd hen)))
              clear hB hbq hcs hd
              go_wp2
              go_roundw
              case rel => exact ⟨q + 1, by omega, by go_num, HBQ.out⟩
              case measure => simp [intOf]; omega
            · have hen2 : (0 < d.en) = False := eq_false hen
              have hen1 : decide ((0 : Int) < (d.en : Int)) = false := decide_eq_false (by omega)
              clear hB hbq hcs hd
              go_wp2
              go_roundw
              case rel => exact ⟨q + 1, by omega, by go_num, HBQ.out⟩
              case measure => simp [intOf]; omega
          · have hqt' : ¬ (q : Int) < (ds.length : Int) := by omega
            obtain ⟨ah, ch, e8⟩ := (HPS.out.below HX.out hB).len
            have HB := hide hB
            clear hB hbq
            go_wp2
            go_ret
            exact ⟨rfl, HB.out⟩
end
end Go.Proofs.YtefjhnhdagolhaaGreat
namespace Go.Proofs.YtefjhnhdagolhaaGreat
open Go.RowKit
attribute [local go_sem ↓] Go.wp_at_zero Go.wp_at_succ
theorem ListAt.of_owns {w : World} {base g k : Nat} {l : List Int} (h : w.ownsRow base 3 1 (.slice (some ⟨g, 0, none⟩) l.length k) l.length (ints l)) : ListAt w g l := by
  refine ⟨(h.lt g rfl).2, fun i x hx => ?_⟩
  obtain ⟨g', c', e, hc⟩ := owns_at h (i := i) (u := .int .i64 x) (by simp [ints, hx])
  injection e with e1
  injection e1 with e1
  injection e1 with e1
  rw [e1]
  exact hc
end Go.Proofs.YtefjhnhdagolhaaGreat
namespace Go.Proofs.YtefjhnhdagolhaaGreat
open Go.ChangeShapes Go.WideShapes Go.ChangeAt Go.RowKit Go.Joins Go.Deep
theorem array7 {α : Type} {cs : Array α} (h : cs.size = 7) : ∃ c0 c1 c2 c3 c4 c5 c6, cs = #[c0, c1, c2, c3, c4, c5, c6] := by
  obtain ⟨l⟩ := cs
  match l, h with
  | [c0, c1, c2, c3, c4, c5, c6], _ => exact ⟨c0, c1, c2, c3, c4, c5, c6, rfl⟩
theorem cellsConfig : Tryz.prog.cellsOf 26 = 7 := by kernel_rfl
theorem cellsAuto : Tryz.prog.cellsOf 24 = 4 := by kernel_rfl
theorem cellsI : Tryz.prog.cellsOf 3 = 1 := by kernel_rfl
theorem cellsIs : Tryz.prog.cellsOf 22 = 1 := by kernel_rfl
section
variable {H : Type} {enc : TypeId × Value → H} {W : World}
theorem open_sl {fuel : Nat} {c : Value} {y : DataW H × List MemPlace} (h : DataW.trod enc Tryz.prog W 0 (fun _ => true) true fuel 22 [c] = some y) : ∃ xs : List Int, Sl W c (ints xs) ∧ sliceLen y.1 = xs.length ∧ ∀ x ∈ xs, (Lit.int .i64 x).wf = true := by
  rcases open_ints Tryz.underlying22 Tryz.underlying3 cellsI h with ⟨hcs, hx⟩ | ⟨a, len, cap, zs, hcs, -, hl, hm, hz, hx, hcell, hwz⟩
  · simp at hcs
    subst hcs
    subst hx
    exact ⟨[], Sl.nil W, rfl, by simp⟩
  · simp at hcs
    subst hcs
    subst hx
    simp only [if_true] at hz
    have hlen : (ints (zs.take len)).length = len := by simp [ints]; omega
    refine ⟨zs.take len, ⟨some a, cap, by rw [hlen], by rw [hlen]; exact hl, hm, ?_⟩, ?_, fun x hx => hwz x (List.mem_of_mem_take hx)⟩
    · by_cases h0 : len = 0
      · left; subst h0; simp [ints]
      · right
        obtain ⟨b, off, spot⟩ := a
        have hspot : spot = none := by simpa [Addr.add] using World.cell?_spot (hcell 0 (by omega))
        subst hspot
        refine ⟨b, off, rfl, fun j x hj => ?_⟩
        have hjl : j < len := by
          have := (List.getElem?_eq_some_iff.1 hj).1
          omega
        have h2 := hcell j (by omega)
        rw [getElem?_ints, List.getElem?_take, if_pos hjl, List.getElem?_eq_getElem (by omega)] at hj
        simp at hj
        subst hj
        rw [List.getD_eq_getElem?_getD, List.getElem?_eq_getElem (by omega)] at h2
        by_cases hj0 : j = 0
        · subst hj0
          simpa [Addr.add] using h2
        · simpa [Addr.add, hj0] using h2
    · show (lits .i64 (zs.take len)).length = _
      simp [lits]
set_option maxRecDepth 100000 in
theorem open_config {base : Nat} {v : Value} {d : DataW H} {p : List MemPlace} (hv : Value.okWide Tryz.prog W .any base 26 v) (h : DataW.Trod enc Tryz.prog W 0 (fun _ => true) true 26 v d p) :
    ∃ (kind th cap st co : Int) (nx ou : List Int) (vn vo : Value) (dn dou : DataW H), v = .agg #[.int .i64 kind, .int .i64 th, .int .i64 cap, .int .i64 st, .int .i64 co, vn, vo] ∧ Sl W vn (ints nx) ∧ Sl W vo (ints ou) ∧
      d = .agg [.lit (.int .i64 kind), .lit (.int .i64 th), .lit (.int .i64 cap), .agg [.lit (.int .i64 st), .lit (.int .i64 co), dn, dou]] ∧ sliceLen dn = nx.length ∧ sliceLen dou = ou.length ∧
      (∀ x ∈ [kind, th, cap, st, co] ++ nx ++ ou, (Lit.int .i64 x).wf = true) := by
  obtain ⟨cs, rfl, hsz⟩ := okWide_struct Tryz.underlying26 hv
  obtain ⟨c0, c1, c2, c3, c4, c5, c6, rfl⟩ := array7 (hsz.trans cellsConfig)
  obtain ⟨fuel, hf⟩ := h
  obtain ⟨y0, y1, y2, y3, m, hx, -, h0, h1, h2, h3⟩ := trod_struct4 Tryz.underlying26 hf
  obtain ⟨z0, z1, z2, z3, m', hx3, -, k0, k1, k2, k3⟩ := trod_struct4 Tryz.underlying24 h3
  simp only [cellsI, Value.cells, List.drop_succ_cons, List.drop_zero, List.take_succ_cons, List.take_zero] at h0 h1 h2
  simp only [cellsI, cellsIs, cellsAuto, Value.cells, List.drop_succ_cons, List.drop_zero, List.take_succ_cons, List.take_zero] at k0 k1 k2 k3
  obtain ⟨kind, e0, rfl, w0⟩ := DataW.trod_int Tryz.underlying3 h0
  obtain ⟨th, e1, rfl, w1⟩ := DataW.trod_int Tryz.underlying3 h1
  obtain ⟨cap, e2, rfl, w2⟩ := DataW.trod_int Tryz.underlying3 h2
  obtain ⟨st, e3, rfl, w3⟩ := DataW.trod_int Tryz.underlying3 k0
  obtain ⟨co, e4, rfl, w4⟩ := DataW.trod_int Tryz.underlying3 k1
  obtain ⟨nx, s1, l1, x1⟩ := open_sl k2
  obtain ⟨ou, s2, l2, x2⟩ := open_sl k3
  simp only [List.cons.injEq, and_true] at e0 e1 e2 e3 e4
  subst e0 e1 e2 e3 e4
  simp only [Prod.mk.injEq] at hx
  subst hx3
  refine ⟨kind, th, cap, st, co, nx, ou, c5, c6, z2.1, z3.1, rfl, s1, s2, hx.1, l1, l2, ?_⟩
  intro x hxm
  simp only [List.mem_append, List.mem_cons, List.not_mem_nil, or_false] at hxm
  rcases hxm with ((rfl | rfl | rfl | rfl | rfl) | h) | h
  · exact w0
  · exact w1
  · exact w2
  · exact w3
  · exact w4
  · exact x1 x h
  · exact x2 x h
end
end Go.Proofs.YtefjhnhdagolhaaGreat
namespace Go.Proofs.YtefjhnhdagolhaaGreat
open Go.ChangeShapes Go.WideShapes Go.ChangeAt Go.RowKit Go.Joins Go.Deep
theorem cellsAct : Tryz.prog.cellsOf 38 = 6 := by kernel_rfl
theorem cellsOp : Tryz.prog.cellsOf 36 = 3 := by kernel_rfl
theorem list6 {α : Type} {l : List α} (h : l.length = 6) : ∃ c0 c1 c2 c3 c4 c5, l = [c0, c1, c2, c3, c4, c5] := by
  match l, h with
  | [c0, c1, c2, c3, c4, c5], _ => exact ⟨c0, c1, c2, c3, c4, c5, rfl⟩
theorem cells_get {W : World} {base : Nat} {a : Addr} {n : Nat} {cs : List Value} (h : W.cells? base a n = some cs) (i : Nat) (hi : i < n) : W.cell? (a.add i) = cs[i]? := by
  unfold World.cells? at h
  split at h
  · exact mapM_some_get h i i (by simp [hi])
  · cases h
theorem wf_i64 {x : Int} (h : (Lit.int .i64 x).wf = true) : I64 x := by
  have m1 : IntKind.min .i64 = -9223372036854775808 := by decide +kernel
  have m2 : IntKind.max .i64 = 9223372036854775807 := by decide +kernel
  simp [Lit.wf] at h
  unfold I64
  omega
section
variable {H : Type} {enc : TypeId × Value → H} {W : World}
set_option maxRecDepth 100000 in
theorem open_act {fuel : Nat} {cs : List Value} {y : DataW H × List MemPlace} (h : DataW.trod enc Tryz.prog W 0 (fun _ => true) true fuel 38 cs = some y) :
    ∃ x : ActV, cs = [.int .i64 x.k, .int .i64 x.t, .int .i64 x.n, .int .i64 x.c, .int .i64 x.a, .int .i64 x.b] ∧ I64 x.t ∧ I64 x.n ∧ 8 ≤ Rows.uptoBulk y.1 := by
  obtain ⟨y0, y1, y2, y3, m, rfl, hl, h0, h1, h2, h3⟩ := trod_struct4 Tryz.underlying38 h
  obtain ⟨z0, z1, z2, m', hx3, -, k0, k1, k2⟩ := trod_struct3 Tryz.underlying36 h3
  obtain ⟨c0, c1, c2, c3, c4, c5, rfl⟩ := list6 (hl.trans cellsAct)
  simp only [cellsI, List.drop_succ_cons, List.drop_zero, List.take_succ_cons, List.take_zero] at h0 h1 h2
  simp only [cellsI, cellsOp, List.drop_succ_cons, List.drop_zero, List.take_succ_cons, List.take_zero] at k0 k1 k2
  obtain ⟨x0, e0, rfl, -⟩ := DataW.trod_int Tryz.underlying3 h0
  obtain ⟨x1, e1, rfl, w1⟩ := DataW.trod_int Tryz.underlying3 h1
  obtain ⟨x2, e2, rfl, w2⟩ := DataW.trod_int Tryz.underlying3 h2
  obtain ⟨x3, e3, rfl, -⟩ := DataW.trod_int Tryz.underlying3 k0
  obtain ⟨x4, e4, rfl, -⟩ := DataW.trod_int Tryz.underlying3 k1
  obtain ⟨x5, e5, rfl, -⟩ := DataW.trod_int Tryz.underlying3 k2
  simp only [List.cons.injEq, and_true] at e0 e1 e2 e3 e4 e5
  subst e0 e1 e2 e3 e4 e5 hx3
  exact ⟨⟨x0, x1, x2, x3, x4, x5⟩, rfl, wf_i64 w1, wf_i64 w2, by simp [Rows.uptoBulk, Rows.uptoBulkAll]⟩
theorem bulk_each (k : Nat) (l : List (DataW H)) (h : ∀ d ∈ l, k ≤ Rows.uptoBulk d) : k * l.length ≤ Rows.uptoBulkAll l := by
  induction l with
  | nil => simp [Rows.uptoBulkAll]
  | cons x r ih =>
    have h1 := h x (by simp)
    have h2 := ih fun d hd => h d (by simp [hd])
    simp only [Rows.uptoBulkAll, List.length_cons, Nat.mul_add, Nat.mul_one]
    omega
set_option maxRecDepth 100000 in
theorem open_script {base : Nat} {v : Value} {d : DataW H} {p : List MemPlace} (hv : Value.okWide Tryz.prog W .any base 29 v) (h : DataW.Trod enc Tryz.prog W 0 (fun _ => true) true 29 v d p) :
    ∃ l : List ActV, Scr W v l ∧ (∀ x ∈ l, I64 x.t ∧ I64 x.n) ∧ 8 * l.length ≤ Rows.uptoBulk d := by
  obtain ⟨a0, l0, c0, rfl⟩ := okWide_slice Tryz.underlying29 hv
  obtain ⟨fuel, hf⟩ := h
  rcases DataW.trod_slice Tryz.underlying29 hf with ⟨hcs, hx⟩ | ⟨a, len, cap, elems, rest, n, -, hcs, hx, -, hl, hm, hlen, hel, -, -⟩
  · simp only [Value.cells, List.cons.injEq, Value.slice.injEq, and_true] at hcs
    obtain ⟨rfl, rfl, rfl⟩ := hcs
    exact ⟨[], ⟨none, 0, rfl, fun h => absurd h (by decide)⟩, by simp, by simp⟩
  · simp only [Value.cells, List.cons.injEq, Value.slice.injEq, and_true] at hcs
    obtain ⟨rfl, rfl, rfl⟩ := hcs
    have each : ∀ i, i < l0 → ∃ x : ActV, (∀ j u, [Value.int .i64 x.k, .int .i64 x.t, .int .i64 x.n, .int .i64 x.c, .int .i64 x.a, .int .i64 x.b][j]? = some u → W.cell? ((a.add (i * 6)).add j) = some u) ∧ I64 x.t ∧ I64 x.n ∧ ∃ y, elems[i]? = some y ∧ 8 ≤ Rows.uptoBulk y.1 := by
      intro i hi
      have hi' := hel i hi
      rw [cellsAct, List.getElem?_eq_getElem (by omega), Option.bind_eq_some_iff] at hi'
      obtain ⟨cs, q1, q2⟩ := hi'
      obtain ⟨x, rfl, x1, x2, x3⟩ := open_act q2
      refine ⟨x, fun j u hu => ?_, x1, x2, _, List.getElem?_eq_getElem (by omega), x3⟩
      have hj : j < 6 := by have := (List.getElem?_eq_some_iff.1 hu).1; simpa using this
      rw [cells_get q1 j hj]
      exact hu
    obtain ⟨f, hf'⟩ : ∃ f : Nat → ActV, ∀ i, i < l0 → (∀ j u, [Value.int .i64 (f i).k, .int .i64 (f i).t, .int .i64 (f i).n, .int .i64 (f i).c, .int .i64 (f i).a, .int .i64 (f i).b][j]? = some u → W.cell? ((a.add (i * 6)).add j) = some u) ∧ I64 (f i).t ∧ I64 (f i).n ∧ ∃ y, elems[i]? = some y ∧ 8 ≤ Rows.uptoBulk y.1 := by
      classical
      exact ⟨fun i => if h : i < l0 then (each i h).choose else ⟨0, 0, 0, 0, 0, 0⟩, fun i hi => by simp only [dif_pos hi]; exact (each i hi).choose_spec⟩
    refine ⟨(List.range l0).map f, ⟨some a, c0, by simp, fun h0 => ?_⟩, ?_, ?_⟩
    · have h0' : 0 < l0 := by simpa using h0
      obtain ⟨b, off, spot⟩ := a
      have hspot : spot = none := by
        have := World.cell?_spot ((hf' 0 h0').1 0 _ rfl)
        simpa [Addr.add] using this
      subst hspot
      refine ⟨b, off, rfl, fun i x hx => ?_⟩
      have hi : i < l0 := by have := (List.getElem?_eq_some_iff.1 hx).1; simpa using this
      simp only [List.getElem?_map, List.getElem?_range hi, Option.map_some, Option.some.injEq] at hx
      subst hx
      have q := (hf' i hi).1
      simp only [addr_add] at q
      exact ⟨q 0 _ rfl, q 1 _ rfl, q 2 _ rfl, q 3 _ rfl, q 4 _ rfl, q 5 _ rfl⟩
    · intro x hx
      obtain ⟨i, hi, rfl⟩ := List.mem_map.1 hx
      have := hf' i (List.mem_range.1 hi)
      exact ⟨this.2.1, this.2.2.1⟩
    · have hb : 8 * (elems.map (·.1)).length ≤ Rows.uptoBulkAll (elems.map (·.1)) := bulk_each 8 _ fun d hd => by
        obtain ⟨y, hy, rfl⟩ := List.mem_map.1 hd
        obtain ⟨i, hi⟩ := List.getElem?_of_mem hy
        have hil : i < l0 := by have := (List.getElem?_eq_some_iff.1 hi).1; omega
        obtain ⟨-, -, -, y', q1, q2⟩ := hf' i hil
        rw [hi] at q1
        cases q1
        exact q2
      simp only [Prod.mk.injEq] at hx
      rw [hx.1]
      simp only [Rows.uptoBulk, List.length_map, List.length_range] at hb ⊢
      omega
end
end Go.Proofs.YtefjhnhdagolhaaGreat
