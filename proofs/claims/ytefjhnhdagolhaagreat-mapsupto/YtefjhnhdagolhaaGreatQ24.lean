import Derived.Test.YtefjhnhdagolhaaGreatQ23
import Derived.Test.YtefjhnhdagolhaaGreatQ11
import Derived.Deep.LoopGhost
namespace Go.Proofs.YtefjhnhdagolhaaGreat
open Go.RowKit
open M (upd upd_same upd_other RSt RTh cnt marks tagged num)
attribute [local go_sem ↓] Go.wp_at_zero Go.wp_at_succ
structure AskOk {σ : Type} (L : DL) (P : M.Plain σ) (tell : σ → List Int) (sz : σ → Nat) (HM : World → Value → σ → Prop) (Au : Nat → World → Prop) (Y : RSt) (w : World) : Prop where
  d : DOk L P tell sz HM Au
  mem : ∀ b ∈ Y.bs, ∀ k ∈ b, k < L.n
  ops : ∀ t, t < L.n → cnt Y.bs t ≤ (Y.th t).ops.length
  all : Y.bs.flatten.length ≤ 100000000000
  au : ∃ B, B ≤ w.heap.size ∧ Au B w
  vn : ∃ a l c, L.vn = .slice a l c
  vo : ∃ a l c, L.vo = .slice a l c
section
variable {σ : Type} {L : DL} {P : M.Plain σ} {tell : σ → List Int} {sz : σ → Nat} {HM : World → Value → σ → Prop} {Au : Nat → World → Prop} {S : Nat → Prop} {Y : RSt} {w : World} {lab : Nat → Nat} {vo vp : Nat → Value} {vb : Value} {bv : Nat → Value} {t : Nat}
theorem rp_sz (hD : DOk L P tell sz HM Au) (Y : RSt) : ∀ u, u ≤ Y.bs.flatten.length → sz (rpAt P Y u).st ≤ 2 + 2 * u
  | 0, _ => hD.sz0
  | u + 1, h => by
    have := rp_sz hD Y u (by omega)
    rw [rpAt_succ P Y u (by omega)]
    have h2 := hD.szs (rpAt P Y u).st (((Y.th (Y.bs.flatten[u])).ops).getD ((rpAt P Y u).c (Y.bs.flatten[u])) ⟨0, 0, 0⟩)
    exact Nat.le_trans h2 (by omega)
set_option maxRecDepth 20000 in
set_option maxHeartbeats 1000000 in
theorem docState (o : AskOk L P tell sz HM Au Y w) (h : DR L S Y w lab vo vp vb bv) :
    Calls Tryz.prog 56 #[.pointer (some ⟨L.b, 0, none⟩)] w fun e w' => ∃ v, e = .returned v ∧ w'.ownsRow w.heap.size 3 1 v (tell (rpAt P Y Y.order.length).st).length (ints (tell (rpAt P Y Y.order.length).st)) ∧ Below w.heap.size w w' := by
  obtain ⟨a1, l1, c1, hvn⟩ := o.vn
  obtain ⟨a2, l2, c2, hvo⟩ := o.vo
  obtain ⟨B, hB, hAu⟩ := o.au
  have HRp := hide (docReplay o.d h o.mem o.ops o.all B hB hAu a1 a2 l1 c1 l2 c2 hvn hvo (-1) 0)
  have HSZ := hide (show sz (rpAt P Y Y.order.length).st ≤ 1000000000000 by have := rp_sz o.d Y Y.order.length (Nat.le_of_eq (order_len Y)); have := o.all; rw [order_len] at *; omega)
  have HD := hide o.d
  clear o h
  go_enter Tryz.func56, Tryz.ntmps56
  go_wp2_with fail
  refine HRp.out.mono ?_
  rintro e w1 ⟨vh, an, rfl, hM, hfr, hb1, -⟩
  obtain ⟨va, vl, vc, rfl⟩ := HD.out.form _ _ _ hM
  have e9 : plc L (.slice va vl vc) = [.int .i64 L.kind, .int .i64 L.st, .int .i64 L.co, .slice a1 l1 c1, .slice a2 l2 c2, .slice va vl vc] := by unfold plc; rw [hvn, hvo]
  have HE9 := hide e9
  have HM1 := hide hM
  have HB1 := hide hb1
  rw [e9]
  clear hM hfr hb1 e9
  go_wp2_with fail
  generalize hW3 : World.alloc (World.alloc w1 _) _ = W3
  have hb3 : Below w1.heap.size w1 W3 := by rw [← hW3]; exact ((Below.refl _ _).alloc (Nat.le_refl _) _).alloc (by simp) _
  have hP : Row W3 w1.heap.size 159 (plc L (.slice va vl vc)) := by rw [← hW3, HE9.out]; exact (Row.new' rfl).alloc _
  refine (HD.out.tells W3 w1.heap.size _ _ hP (HD.out.stay _ _ _ _ HM1.out (fun k e => hb3.block k (HD.out.lt _ _ _ HM1.out k e))) HSZ.out).mono ?_
  rintro e w2 ⟨v, rfl, hO2, hb2⟩
  have HO2 := hide hO2
  have HB2 := hide (Below.next (Below.next HB1.out hb3 HB1.out.size) hb2 (Nat.le_trans HB1.out.size hb3.size))
  have hz3 : w.heap.size ≤ W3.heap.size := Nat.le_trans HB1.out.size hb3.size
  clear hO2 hb2 hW3 hb3 hP
  go_wp2_with fail
  go_ret
  exact ⟨v, rfl, owns_base HO2.out hz3, HB2.out⟩
set_option maxHeartbeats 400000 in
theorem docAnswer_bad (h : DR L S Y w lab vo vp vb bv) (x : Int) (hx : ¬ (0 ≤ x ∧ x < L.n)) :
    Calls Tryz.prog 54 #[.pointer (some ⟨L.b, 0, none⟩), .int .i64 x] w fun e w' => e = .returned (.tuple #[.agg #[.int .i64 0, .int .i64 0], .int .i64 3]) ∧ Below w.heap.size w w' := by
  have c7 : w.cell? ⟨L.b, 7, none⟩ = some (.slice (some ⟨L.g, 0, none⟩) L.n L.gc) := h.ocell rfl
  have c7' := fun ob => cell_new c7 ob
  have hn := h.n64
  clear h
  by_cases h0 : x < 0
  · go_enter Tryz.func54, Tryz.ntmps54
    go_wp2
    exact bodyPost_ret (v := .tuple #[.agg #[.int .i64 0, .int .i64 0], .int .i64 3]) (by simp [results, Tryz.results54, go_sem]) rfl ⟨rfl, (by repeat (first | exact Below.refl _ _ | assumption | refine Below.drewN ?_ _ | refine Below.alloc ?_ (by simp) _))⟩
  · have h1 : (L.n : Int) ≤ x := by omega
    clear hx
    go_enter Tryz.func54, Tryz.ntmps54
    go_wp2
    exact bodyPost_ret (v := .tuple #[.agg #[.int .i64 0, .int .i64 0], .int .i64 3]) (by simp [results, Tryz.results54, go_sem]) rfl ⟨rfl, (by repeat (first | exact Below.refl _ _ | assumption | refine Below.drewN ?_ _ | refine Below.alloc ?_ (by simp) _))⟩
set_option maxHeartbeats 400000 in
theorem docAnswer_busy (h : DR L S Y w lab vo vp vb bv) (ht : t < L.n) (hp : (Y.th t).part ≠ 0) :
    Calls Tryz.prog 54 #[.pointer (some ⟨L.b, 0, none⟩), .int .i64 (t : Int)] w fun e w' => e = .returned (.tuple #[.agg #[.int .i64 0, .int .i64 0], .int .i64 4]) ∧ Below w.heap.size w w' := by
  have c7' := fun ob => cell_new (show w.cell? ⟨L.b, 7, none⟩ = some (.slice (some ⟨L.g, 0, none⟩) L.n L.gc) from h.ocell rfl) ob
  have hn := h.n64
  have cp := fun ob => cell_new (h.ptr t ht) ob
  have t3 := fun ob => cell_new (show w.cell? ⟨L.bT t, 3, none⟩ = some (.int .i64 ((Y.th t).part : Int)) from h.tcell ht rfl) ob
  have hp0 : ¬ ((Y.th t).part : Int) = 0 := by omega
  have ht0 : (0 : Int) ≤ (t : Int) := by omega
  have ht1 : (t : Int) < (L.n : Int) := by omega
  have ht2 : ¬ (L.n : Int) ≤ (t : Int) := by omega
  clear h
  go_enter Tryz.func54, Tryz.ntmps54
  go_wp2
  exact bodyPost_ret (v := .tuple #[.agg #[.int .i64 0, .int .i64 0], .int .i64 4]) (by simp [results, Tryz.results54, go_sem]) rfl ⟨rfl, (by repeat (first | exact Below.refl _ _ | assumption | refine Below.drewN ?_ _ | refine Below.alloc ?_ (by simp) _))⟩
set_option maxHeartbeats 400000 in
theorem docAnswer_none (h : DR L S Y w lab vo vp vb bv) (ht : t < L.n) (hp : (Y.th t).part = 0) (he : (Y.th t).ended = 0) :
    Calls Tryz.prog 54 #[.pointer (some ⟨L.b, 0, none⟩), .int .i64 (t : Int)] w fun e w' => e = .returned (.tuple #[.agg #[.int .i64 0, .int .i64 0], .int .i64 5]) ∧ Below w.heap.size w w' := by
  have c7' := fun ob => cell_new (show w.cell? ⟨L.b, 7, none⟩ = some (.slice (some ⟨L.g, 0, none⟩) L.n L.gc) from h.ocell rfl) ob
  have hn := h.n64
  have cp := fun ob => cell_new (h.ptr t ht) ob
  have t3 := fun ob => cell_new (show w.cell? ⟨L.bT t, 3, none⟩ = some (.int .i64 ((Y.th t).part : Int)) from h.tcell ht rfl) ob
  have t1 := fun ob => cell_new (show w.cell? ⟨L.bT t, 1, none⟩ = some (.int .i64 ((Y.th t).ended : Int)) from h.tcell ht rfl) ob
  rw [hp] at t3
  rw [he] at t1
  have ht0 : (0 : Int) ≤ (t : Int) := by omega
  have ht1 : (t : Int) < (L.n : Int) := by omega
  have ht2 : ¬ (L.n : Int) ≤ (t : Int) := by omega
  clear h
  go_enter Tryz.func54, Tryz.ntmps54
  go_wp2
  exact bodyPost_ret (v := .tuple #[.agg #[.int .i64 0, .int .i64 0], .int .i64 5]) (by simp [results, Tryz.results54, go_sem]) rfl ⟨rfl, (by repeat (first | exact Below.refl _ _ | assumption | refine Below.drewN ?_ _ | refine Below.alloc ?_ (by simp) _))⟩
set_option maxRecDepth 20000 in
set_option maxHeartbeats 2000000 in
theorem docAnswer_last (o : AskOk L P tell sz HM Au Y w) (h : DR L S Y w lab vo vp vb bv) (ht : t < L.n) (hp : (Y.th t).part = 0) (he : (Y.th t).ended ≠ 0) (hc : (Y.th t).ended = cnt Y.bs t) (hb : (Y.th t).ended ≤ 1000000000) :
    Calls Tryz.prog 54 #[.pointer (some ⟨L.b, 0, none⟩), .int .i64 (t : Int)] w fun e w' => e = .returned (.tuple #[.agg #[.int .i64 ((rpAt P Y Y.order.length).an t).s, .int .i64 ((rpAt P Y Y.order.length).an t).v], .int .i64 0]) ∧ Below w.heap.size w w' := by
  obtain ⟨a1, l1, c1, hvn⟩ := o.vn
  obtain ⟨a2, l2, c2, hvo⟩ := o.vo
  obtain ⟨B, hB, hAu⟩ := o.au
  have hn := h.n64
  have he0 : ¬ ((Y.th t).ended : Int) = 0 := by omega
  have ht0 : (0 : Int) ≤ (t : Int) := by omega
  have ht1 : (t : Int) < (L.n : Int) := by omega
  have ht2 : ¬ (L.n : Int) ≤ (t : Int) := by omega
  have HCT := hide (show (((Y.bs.flatten.take Y.order.length).count t : Nat) : Int) = ((Y.th t).ended : Int) - 1 + 1 by rw [order_len, List.take_length, hc]; unfold cnt; omega)
  have HH := hide h
  have HD := hide o.d
  have HO := hide o
  go_enter Tryz.func54, Tryz.ntmps54
  go_upto_region 1 with fail
  generalize hW0 : World.alloc w _ = W0 at *
  have hb0 : Below w.heap.size w W0 := by rw [← hW0]; exact below_alloc _ _
  have hR0 : Row W0 w.heap.size 94 [.int .i64 0, .int .i64 0] := by rw [← hW0]; exact Row.new' (by simp)
  have q0 : DR L S Y W0 lab vo vp vb bv := h.stay (fun k hS => hb0.block k (h.lt k hS)) (fun _ h => h) (fun k hS => Nat.lt_of_lt_of_le (h.lt k hS) hb0.size)
  have o0 : AskOk L P tell sz HM Au Y W0 := ⟨o.d, o.mem, o.ops, o.all, ⟨B, Nat.le_trans hB hb0.size, o.d.au B w W0 hAu (fun k hk => hb0.block k (by omega))⟩, o.vn, o.vo⟩
  have HRp := hide (docReplay o0.d q0 o0.mem o0.ops o0.all B (Nat.le_trans hB hb0.size) (o.d.au B w W0 hAu (fun k hk => hb0.block k (by omega))) a1 a2 l1 c1 l2 c2 hvn hvo (t : Int) (((Y.th t).ended : Int) - 1))
  have c7 : W0.cell? ⟨L.b, 7, none⟩ = some (.slice (some ⟨L.g, 0, none⟩) L.n L.gc) := q0.ocell rfl
  have cp := q0.ptr t ht
  have t3 : W0.cell? ⟨L.bT t, 3, none⟩ = some (.int .i64 ((Y.th t).part : Int)) := q0.tcell ht rfl
  have t1 : W0.cell? ⟨L.bT t, 1, none⟩ = some (.int .i64 ((Y.th t).ended : Int)) := q0.tcell ht rfl
  rw [hp] at t3
  have HR0 := hide hR0
  have HB0 := hide hb0
  have hz0 : w.heap.size < W0.heap.size := hR0.lt
  clear hW0 h o q0 o0 hb0 hR0 hc he
  go_wp2_with fail
  refine HRp.out.mono ?_
  rintro e w1 ⟨vh, an, rfl, hM, hfr, hb1, hAn⟩
  obtain ⟨va, vl, vc, rfl⟩ := HD.out.form _ _ _ hM
  have e9 : plc L (.slice va vl vc) = [.int .i64 L.kind, .int .i64 L.st, .int .i64 L.co, .slice a1 l1 c1, .slice a2 l2 c2, .slice va vl vc] := by unfold plc; rw [hvn, hvo]
  have hAN := hAn t rfl HCT.out
  subst hAN
  have hr1 := HR0.out.old hb1
  have y0 := hr1.cell_of (i := 0) rfl
  have y1 := hr1.cell_of (i := 1) rfl
  have z0 := hr1.frozen 0
  have z1 := hr1.frozen 1
  have HR1 := hide hr1
  have HB1 := hide (Below.next HB0.out hb1 HB0.out.size)
  have hz1 : w.heap.size < w1.heap.size := hr1.lt
  rw [e9]
  clear hM hfr hb1 e9 hAn hr1
  go_wp2_with fail
  have q2 := (((HR1.out.set 0 (.int .i64 ((rpAt P Y Y.order.length).an t).s)).set 1 (.int .i64 ((rpAt P Y Y.order.length).an t).v)).alloc (.cells #[.int .i64 L.kind, .int .i64 L.st, .int .i64 L.co, .slice a1 l1 c1, .slice a2 l2 c2, .slice va vl vc] 159)).alloc (.cells #[.int .i64 ((rpAt P Y Y.order.length).an t).s, .int .i64 ((rpAt P Y Y.order.length).an t).v] 94)
  have x1 := q2.cell_of (i := 0) rfl
  have x2 := q2.cell_of (i := 1) rfl
  refine bodyPost_ret (v := .tuple #[.agg #[.int .i64 ((rpAt P Y Y.order.length).an t).s, .int .i64 ((rpAt P Y Y.order.length).an t).v], .int .i64 0]) (by simp [results, Tryz.results54, go_sem, x1, x2]) rfl ⟨rfl, ?_⟩
  exact (((HB1.out.setCell (by simp) _).setCell (by simp) _).alloc (by simp; omega) _).alloc (by simp; omega) _
end
end Go.Proofs.YtefjhnhdagolhaaGreat
namespace Go.Proofs.YtefjhnhdagolhaaGreat
open Go.RowKit
open M (upd upd_same upd_other RSt RTh cnt marks tagged num YI)
attribute [local go_sem ↓] Go.wp_at_zero Go.wp_at_succ
structure DW {σ : Type} (P : M.Plain σ) (Au : Nat → World → Prop) (L : DL) (S : Nat → Prop) (Y : RSt) (w : World) : Prop where
  doc : Doc L S Y w
  yi : YI P L.n L.cap Y
  au : ∃ B, (∀ k, S k → B ≤ k) ∧ B ≤ w.heap.size ∧ Au B w
structure DS {σ : Type} (P : M.Plain σ) (tell : σ → List Int) (sz : σ → Nat) (HM : World → Value → σ → Prop) (Au : Nat → World → Prop) (L : DL) : Prop where
  d : DOk L P tell sz HM (AuL L)
  au : ∀ B w w', Au B w → (∀ k, k < B → w'.heap[k]? = w.heap[k]?) → Au B w'
  vn : ∃ a l c, L.vn = .slice a l c
  vo : ∃ a l c, L.vo = .slice a l c
structure DGo {σ : Type} (P : M.Plain σ) (Au : Nat → World → Prop) (L : DL) (S : Nat → Prop) (w : World) (Y' : RSt) (w' : World) : Prop where
  dw : DW P Au L (Grow S w w') Y' w'
  fr : Fr S w w'
def Lim (L : DL) (K : Nat) (Y : RSt) : Prop := (∀ t, t < L.n → (Y.th t).ops.length ≤ K) ∧ Y.bs.length ≤ K
section
variable {σ : Type} {L : DL} {P : M.Plain σ} {tell : σ → List Int} {sz : σ → Nat} {HM : World → Value → σ → Prop} {Au : Nat → World → Prop} {S : Nat → Prop} {Y Y' Y'' : RSt} {w w1 w2 : World} {t K : Nat}
theorem DW.n (h : DW P Au L S Y w) : 1 ≤ L.n ∧ L.n ≤ 64 ∧ L.cap ≤ 64 := by obtain ⟨lab, vo, vp, vb, bv, q⟩ := h.doc; exact ⟨q.n1, q.n64, q.c64⟩
theorem DW.left (ds : DS P tell sz HM Au L) (h : DW P Au L S Y w) (hl : DLeft L S w Y' w1) (hy : YI P L.n L.cap Y') : DGo P Au L S w Y' w1 := by
  obtain ⟨B, h1, h2, h3⟩ := h.au
  refine ⟨⟨hl.doc, hy, B, fun k hk => ?_, Nat.le_trans h2 hl.fr.size, ds.au B w w1 h3 fun k hk => hl.fr.block k (by omega) fun c => by have := h1 k c; omega⟩, hl.fr⟩
  rcases hk with hk | hk
  · exact h1 k hk
  · omega
theorem DW.below (ds : DS P tell sz HM Au L) (h : DW P Au L S Y w) (hb : Below w.heap.size w w1) : DGo P Au L S w Y w1 := h.left ds (DLeft.below h.doc hb) h.yi
theorem DGo.next (h : DGo P Au L S w Y' w1) (h' : DGo P Au L (Grow S w w1) w1 Y'' w2) : DGo P Au L S w Y'' w2 := by
  have hl := DLeft.next (⟨h.dw.doc, h.fr⟩ : DLeft L S w Y' w1) ⟨h'.dw.doc, h'.fr⟩
  obtain ⟨B, h1, h2, h3⟩ := h'.dw.au
  refine ⟨⟨hl.doc, h'.dw.yi, B, fun k hk => ?_, h2, h3⟩, hl.fr⟩
  rcases hk with hk | hk
  · exact h1 k (.inl (.inl hk))
  · rcases Nat.lt_or_ge k w1.heap.size with q | q
    · exact h1 k (.inl (.inr ⟨hk.1, q⟩))
    · exact h1 k (.inr ⟨q, hk.2⟩)
theorem DW.stay (ds : DS P tell sz HM Au L) (h : DW P Au L S Y w) (hk : ∀ k, S k ∨ (∀ j, S j → k < j) → k < w.heap.size → w1.heap[k]? = w.heap[k]?) (hz : w.heap.size ≤ w1.heap.size) : DW P Au L S Y w1 := by
  obtain ⟨B, h1, h2, h3⟩ := h.au
  refine ⟨h.doc.stay (fun k hS => hk k (.inl hS) (h.doc.lt k hS)) (fun _ h => h) (fun k hS => Nat.lt_of_lt_of_le (h.doc.lt k hS) hz), h.yi, B, h1, Nat.le_trans h2 hz, ds.au B w w1 h3 fun k hkB => hk k (.inr fun j hj => Nat.lt_of_lt_of_le hkB (h1 j hj)) (by omega)⟩
theorem DW.stok (h : DW P Au L S Y w) (hK : Lim L 1000000000 Y) (ht : t < L.n) (hp : (Y.th t).part ≠ 0) : StOk L Y t := by
  have y := h.yi.ok
  have T := y.th t ht
  obtain ⟨q1, q2, q3⟩ := h.n
  have f := y.fl t ht
  have b := hK.1 t ht
  refine ⟨(T.p2 hp).1, (T.p2 hp).2, by omega, T.p1, by omega, by omega, T.bc, hK.2, fun h8 h10 => Nat.le_trans (y.pl t ht h8 h10) q2, fun h7 k hk => ?_⟩
  have := y.ops k hk
  have := hK.1 k hk
  have := y.rd t ht (by omega) (by omega) k hk
  have := (y.fl k hk).1
  omega
theorem DW.ask (ds : DS P tell sz HM Au L) (h : DW P Au L S Y w) (hK : Lim L 1000000000 Y) : AskOk L P tell sz HM (AuL L) Y w := by
  obtain ⟨lab, vo, vp, vb, bv, q⟩ := h.doc
  have := h.yi.all h.n.2.1 hK.1
  refine ⟨ds.d, h.yi.ok.mem, h.yi.ok.ops, by omega, ⟨w.heap.size, Nat.le_refl _, fun k5 => ?_⟩, ds.vn, ds.vo⟩
  obtain ⟨g1, g2, h1, h2, h3, h4, -⟩ := q.au k5
  exact ⟨g1, g2, h1, h2, h3, h4, h3.lt, h4.lt⟩
theorem Begin_d (ds : DS P tell sz HM Au L) (h : DW P Au L S Y w) (hK : Lim L 1000000000 Y) (o : M.Op) :
    (∀ x : Int, ¬ (0 ≤ x ∧ x < L.n) → Calls Tryz.prog 43 #[.pointer (some ⟨L.b, 0, none⟩), .int .i64 x, .agg #[.int .i64 o.c, .int .i64 o.a, .int .i64 o.b]] w fun e w' => e = .returned (.int .i64 3) ∧ DGo P Au L S w Y w')
    ∧ (∀ t, t < L.n → (Y.th t).part ≠ 0 → Calls Tryz.prog 43 #[.pointer (some ⟨L.b, 0, none⟩), .int .i64 (t : Int), .agg #[.int .i64 o.c, .int .i64 o.a, .int .i64 o.b]] w fun e w' => e = .returned (.int .i64 4) ∧ DGo P Au L S w Y w')
    ∧ ∀ t, t < L.n → (Y.th t).part = 0 → Calls Tryz.prog 43 #[.pointer (some ⟨L.b, 0, none⟩), .int .i64 (t : Int), .agg #[.int .i64 o.c, .int .i64 o.a, .int .i64 o.b]] w fun e w' => e = .returned (.int .i64 0) ∧ DGo P Au L S w (M.rbegin Y t o) w' := by
  obtain ⟨lab, vo, vp, vb, bv, q⟩ := h.doc
  refine ⟨fun x hx => ?_, fun t ht hp => ?_, fun t ht hp => ?_⟩
  · refine (docBegin_bad q x hx o).mono ?_
    rintro e w' ⟨rfl, hb⟩
    exact ⟨rfl, h.below ds hb⟩
  · refine (docBegin_busy q ht hp o).mono ?_
    rintro e w' ⟨rfl, hb⟩
    exact ⟨rfl, h.below ds hb⟩
  · refine (docBegin_idle q ht hp o (hK.1 t ht)).mono ?_
    rintro e w' ⟨rfl, hb⟩
    exact ⟨rfl, h.left ds hb (h.yi.begin ht hp o)⟩
theorem Step_d (ds : DS P tell sz HM Au L) (h : DW P Au L S Y w) (hK : Lim L 1000000000 Y) :
    (∀ x : Int, ¬ (0 ≤ x ∧ x < L.n) → Calls Tryz.prog 53 #[.pointer (some ⟨L.b, 0, none⟩), .int .i64 x] w fun e w' => e = .returned (.tuple #[.int .i64 0, .int .i64 3]) ∧ DGo P Au L S w Y w')
    ∧ (∀ t, t < L.n → (Y.th t).part = 0 → Calls Tryz.prog 53 #[.pointer (some ⟨L.b, 0, none⟩), .int .i64 (t : Int)] w fun e w' => e = .returned (.tuple #[.int .i64 0, .int .i64 5]) ∧ DGo P Au L S w Y w')
    ∧ ∀ t, t < L.n → (Y.th t).part ≠ 0 → Calls Tryz.prog 53 #[.pointer (some ⟨L.b, 0, none⟩), .int .i64 (t : Int)] w fun e w' => e = .returned (.tuple #[.int .i64 (endW (M.rstep L.n L.cap Y t).2), .int .i64 0]) ∧ DGo P Au L S w (M.rstep L.n L.cap Y t).1 w' := by
  obtain ⟨lab, vo, vp, vb, bv, q⟩ := h.doc
  refine ⟨fun x hx => ?_, fun t ht hp => ?_, fun t ht hp => ?_⟩
  · refine (docStep_bad q x hx).mono ?_
    rintro e w' ⟨rfl, rfl⟩
    exact ⟨rfl, h.below ds (Below.refl _ _)⟩
  · refine (docStep_idle q ht hp).mono ?_
    rintro e w' ⟨rfl, rfl⟩
    exact ⟨rfl, h.below ds (Below.refl _ _)⟩
  · refine (docStep_busy q ht (h.stok hK ht hp)).mono ?_
    rintro e w' ⟨rfl, hb⟩
    exact ⟨rfl, h.left ds hb (h.yi.step (Nat.lt_of_lt_of_le (by decide) h.n.1) ht hp)⟩
def ansD (P : M.Plain σ) (Y : RSt) (t : Nat) : M.Ans := (M.replay P (fun k i => ((Y.th k).ops).getD i ⟨0, 0, 0⟩) Y.bs).an t
theorem ansD_eq (P : M.Plain σ) (Y : RSt) (t : Nat) : (rpAt P Y Y.order.length).an t = ansD P Y t := by rw [order_len, rpAt_all]; rfl
def ansW (P : M.Plain σ) (Y : RSt) (t : Nat) : Value := if (Y.th t).part ≠ 0 then .tuple #[.agg #[.int .i64 0, .int .i64 0], .int .i64 4] else if (Y.th t).ended = 0 then .tuple #[.agg #[.int .i64 0, .int .i64 0], .int .i64 5] else .tuple #[.agg #[.int .i64 (ansD P Y t).s, .int .i64 (ansD P Y t).v], .int .i64 0]
theorem Answer_d (ds : DS P tell sz HM Au L) (h : DW P Au L S Y w) (hK : Lim L 1000000000 Y) :
    (∀ x : Int, ¬ (0 ≤ x ∧ x < L.n) → Calls Tryz.prog 54 #[.pointer (some ⟨L.b, 0, none⟩), .int .i64 x] w fun e w' => e = .returned (.tuple #[.agg #[.int .i64 0, .int .i64 0], .int .i64 3]) ∧ Below w.heap.size w w')
    ∧ ∀ t, t < L.n → Calls Tryz.prog 54 #[.pointer (some ⟨L.b, 0, none⟩), .int .i64 (t : Int)] w fun e w' => e = .returned (ansW P Y t) ∧ Below w.heap.size w w' := by
  obtain ⟨lab, vo, vp, vb, bv, q⟩ := h.doc
  refine ⟨fun x hx => docAnswer_bad q x hx, fun t ht => ?_⟩
  unfold ansW
  by_cases hp : (Y.th t).part = 0
  · rw [if_neg (by simpa using hp)]
    by_cases he : (Y.th t).ended = 0
    · rw [if_pos he]
      exact docAnswer_none q ht hp he
    · rw [if_neg he, ← ansD_eq]
      have := h.yi.ok.fl t ht
      have := hK.1 t ht
      exact docAnswer_last (h.ask ds hK) q ht hp he (h.yi.ok.idle t ht hp) (by omega)
  · rw [if_pos hp]
    exact docAnswer_busy q ht hp
theorem Order_d (ds : DS P tell sz HM Au L) (h : DW P Au L S Y w) (hK : Lim L 1000000000 Y) :
    Calls Tryz.prog 55 #[.pointer (some ⟨L.b, 0, none⟩)] w fun e w' => ∃ v, e = .returned v ∧ w'.ownsRow w.heap.size 81 3 v Y.order.length (markcs Y.order) ∧ Below w.heap.size w w' := by
  obtain ⟨lab, vo, vp, vb, bv, q⟩ := h.doc
  exact docOrder q (Nat.le_trans (h.ask ds hK).all (by decide))
theorem State_d (ds : DS P tell sz HM Au L) (h : DW P Au L S Y w) (hK : Lim L 1000000000 Y) :
    Calls Tryz.prog 56 #[.pointer (some ⟨L.b, 0, none⟩)] w fun e w' => ∃ v, e = .returned v ∧ w'.ownsRow w.heap.size 3 1 v (tell (rpAt P Y Y.order.length).st).length (ints (tell (rpAt P Y Y.order.length).st)) ∧ Below w.heap.size w w' := by
  obtain ⟨lab, vo, vp, vb, bv, q⟩ := h.doc
  exact docState (h.ask ds hK) q
end
end Go.Proofs.YtefjhnhdagolhaaGreat
namespace Go.Proofs.YtefjhnhdagolhaaGreat
open Go.RowKit
open M (upd upd_same upd_other RSt RTh cnt marks tagged num YI)
attribute [local go_sem ↓] Go.wp_at_zero Go.wp_at_succ
theorem Lim.mono {L : DL} {K K' : Nat} {Y : RSt} (h : Lim L K Y) (hk : K ≤ K') : Lim L K' Y := ⟨fun t ht => Nat.le_trans (h.1 t ht) hk, Nat.le_trans h.2 hk⟩
theorem Lim.step {L : DL} {K : Nat} {Y : RSt} (h : Lim L K Y) (t : Nat) : Lim L (K + 1) (M.rstep L.n L.cap Y t).1 :=
  ⟨fun k hk => by rw [M.rstep_ops]; exact Nat.le_succ_of_le (h.1 k hk), Nat.le_trans (M.rstep_bs _ _ _ _).1 (Nat.succ_le_succ h.2)⟩
theorem Lim.begin {L : DL} {K : Nat} {Y : RSt} (h : Lim L K Y) (t : Nat) (o : M.Op) : Lim L (K + 1) (M.rbegin Y t o) := by
  refine ⟨fun k hk => ?_, Nat.le_succ_of_le h.2⟩
  unfold M.rbegin M.RSt.set
  by_cases e : k = t
  · subst e
    simp only [upd_same, List.length_append, List.length_singleton]
    exact Nat.succ_le_succ (h.1 k hk)
  · simp only [upd_other _ _ e]
    exact Nat.le_succ_of_le (h.1 k hk)
structure Going {σ : Type} (P : M.Plain σ) (L : DL) (t K : Nat) (Y' : RSt) (g : Nat) (Y : RSt) : Prop where
  yi : YI P L.n L.cap Y
  fin : M.fin L.n L.cap t Y = Y'
  rank : (Y.th t).rank L.n L.cap ≤ g
  gl : g ≤ 5000
  lim : Lim L (K + (5000 - g)) Y
  ops : (Y.th t).ops ≠ []
theorem Going.step {σ : Type} {P : M.Plain σ} {L : DL} {t K g : Nat} {Y Y' : RSt} (h : Going P L t K Y' g Y) (hn : 0 < L.n) (ht : t < L.n) (hp : (Y.th t).part ≠ 0) : 0 < g ∧ Going P L t K Y' (g - 1) (M.rstep L.n L.cap Y t).1 := by
  have h1 := M.rank_step hn (h.yi.ok.th t ht) hp
  have h2 := h.rank
  have h3 := h.gl
  refine ⟨by omega, h.yi.step hn ht hp, (M.fin_step hn ht h.yi (by omega) hp).trans h.fin, by omega, by omega, (h.lim.step t).mono (by omega), by rw [M.rstep_ops]; exact h.ops⟩
theorem Going.end {σ : Type} {P : M.Plain σ} {L : DL} {t K g : Nat} {Y Y' : RSt} (h : Going P L t K Y' g Y) (hp : (Y.th t).part = 0) : Y = Y' := (M.fin_idle hp).symm.trans h.fin
theorem Going.begin {σ : Type} {P : M.Plain σ} {L : DL} {t K : Nat} {Y : RSt} (hy : YI P L.n L.cap Y) (h64 : L.n ≤ 64) (hc : L.cap ≤ 64) (ht : t < L.n) (hp : (Y.th t).part = 0) (hK : Lim L K Y) (o : M.Op) : Going P L t (K + 1) (M.fin L.n L.cap t (M.rbegin Y t o)) 5000 (M.rbegin Y t o) := by
  refine ⟨hy.begin ht hp o, rfl, ?_, Nat.le_refl _, (hK.begin t o).mono (by omega), ?_⟩
  · rw [M.rank_begin]; have := M.bound_le h64 hc; omega
  · unfold M.rbegin M.RSt.set
    simp [upd_same]
section
variable {σ : Type} {L : DL} {P : M.Plain σ} {tell : σ → List Int} {sz : σ → Nat} {HM : World → Value → σ → Prop} {Au : Nat → World → Prop} {S : Nat → Prop} {Y : RSt} {w : World} {t K : Nat}
def doW (P : M.Plain σ) (n cap : Nat) (Y : RSt) (t : Nat) (o : M.Op) : Value := if (Y.th t).part ≠ 0 then .tuple #[.agg #[.int .i64 0, .int .i64 0], .int .i64 4] else .tuple #[.agg #[.int .i64 (ansD P (M.fin n cap t (M.rbegin Y t o)) t).s, .int .i64 (ansD P (M.fin n cap t (M.rbegin Y t o)) t).v], .int .i64 0]
def doY (n cap : Nat) (Y : RSt) (t : Nat) (o : M.Op) : RSt := if (Y.th t).part ≠ 0 then Y else M.fin n cap t (M.rbegin Y t o)
set_option maxRecDepth 20000 in
set_option maxHeartbeats 1000000 in
theorem docDo_err (x er : Int) (o : M.Op) (her : er ≠ 0)
    (hc : ∀ W, Below w.heap.size w W → Calls Tryz.prog 43 #[.pointer (some ⟨L.b, 0, none⟩), .int .i64 x, .agg #[.int .i64 o.c, .int .i64 o.a, .int .i64 o.b]] W fun e w' => e = .returned (.int .i64 er) ∧ Below W.heap.size W w') :
    Calls Tryz.prog 47 #[.pointer (some ⟨L.b, 0, none⟩), .int .i64 x, .agg #[.int .i64 o.c, .int .i64 o.a, .int .i64 o.b]] w fun e w' => e = .returned (.tuple #[.agg #[.int .i64 0, .int .i64 0], .int .i64 er]) ∧ Below w.heap.size w w' := by
  have her' : (er == 0) = false := by simp [her]
  go_enter Tryz.func47, Tryz.ntmps47
  go_upto_region 1 with fail
  generalize hW : World.alloc (World.alloc w _) _ = W
  have hb : Below w.heap.size w W := by rw [← hW]; exact ((Below.refl _ _).alloc (Nat.le_refl _) _).alloc (by simp) _
  have r0 : Row W w.heap.size 36 [.int .i64 o.c, .int .i64 o.a, .int .i64 o.b] := by rw [← hW]; exact (Row.new' rfl).alloc _
  have r1 : Row W (w.heap.size + 1) 94 [.int .i64 0, .int .i64 0] := by rw [← hW]; exact Row.new' (by simp)
  have x0 := r0.cell_of (i := 0) rfl
  have x1 := r0.cell_of (i := 1) rfl
  have x2 := r0.cell_of (i := 2) rfl
  have HR1 := hide r1
  have HB := hide hb
  have HC := hide (hc W hb)
  clear hW r0 r1 hb hc
  go_wp2_with fail
  refine HC.out.mono ?_
  rintro e w3 ⟨rfl, hb3⟩
  have r3 := HR1.out.old hb3
  have y0 := r3.cell_of (i := 0) rfl
  have y1 := r3.cell_of (i := 1) rfl
  have z0 := r3.frozen 0
  have z1 := r3.frozen 1
  have HRo := hide (r3.set 0 (.int .i64 0) |>.set 1 (.int .i64 0))
  have HB3 := hide (Below.next HB.out hb3 HB.out.size)
  clear hb3 r3
  go_wp2_with fail
  have q1 := HRo.out.cell_of (i := 0) rfl
  have q2 := HRo.out.cell_of (i := 1) rfl
  exact bodyPost_ret (v := .tuple #[.agg #[.int .i64 0, .int .i64 0], .int .i64 er]) (by simp [results, Tryz.results47, go_sem, q1, q2]) rfl ⟨rfl, (HB3.out.setCell (by simp) _).setCell (by simp) _⟩
structure DoI (P : M.Plain σ) (Au : Nat → World → Prop) (L : DL) (S : Nat → Prop) (w : World) (t K : Nat) (Y' : RSt) (g : Nat) (Y : RSt) (how : Value) (w' : World) : Prop where
  go : Going P L t K Y' g Y
  dg : DGo P Au L S w Y w'
  how : (how = .int .i64 1 ∧ (Y.th t).part ≠ 0) ∨ (how = .int .i64 2 ∧ (Y.th t).part = 0)
def DoL (P : M.Plain σ) (Au : Nat → World → Prop) (L : DL) (S : Nat → Prop) (w : World) (t K : Nat) (Y' : RSt) (g : Nat) (how : Value) (w' : World) : Prop := ∃ Y, DoI P Au L S w t K Y' g Y how w'
set_option maxRecDepth 20000 in
set_option maxHeartbeats 2000000 in
theorem docDo_idle (ds : DS P tell sz HM Au L) (h : DW P Au L S Y w) (hK : Lim L K Y) (hK9 : K + 6000 ≤ 1000000000) (ht : t < L.n) (hp : (Y.th t).part = 0) (o : M.Op) :
    Calls Tryz.prog 47 #[.pointer (some ⟨L.b, 0, none⟩), .int .i64 (t : Int), .agg #[.int .i64 o.c, .int .i64 o.a, .int .i64 o.b]] w fun e w' => e = .returned (.tuple #[.agg #[.int .i64 (ansD P (M.fin L.n L.cap t (M.rbegin Y t o)) t).s, .int .i64 (ansD P (M.fin L.n L.cap t (M.rbegin Y t o)) t).v], .int .i64 0]) ∧ DGo P Au L S w (M.fin L.n L.cap t (M.rbegin Y t o)) w' := by
  obtain ⟨hn1, hn64, hc64⟩ := h.n
  have hGo := Going.begin h.yi hn64 hc64 ht hp hK o
  have hr1 : ((M.rbegin Y t o).th t).part ≠ 0 := by unfold M.rbegin M.RSt.set; simp [upd_same]
  generalize hY1 : M.rbegin Y t o = Y1 at *
  generalize hY' : M.fin L.n L.cap t Y1 = Y' at *
  go_enter Tryz.func47, Tryz.ntmps47
  go_upto_region 1 with fail
  generalize hW : World.alloc (World.alloc w _) _ = W
  have hb : Below w.heap.size w W := by rw [← hW]; exact ((Below.refl _ _).alloc (Nat.le_refl _) _).alloc (by simp) _
  have r0 : Row W w.heap.size 36 [.int .i64 o.c, .int .i64 o.a, .int .i64 o.b] := by rw [← hW]; exact (Row.new' rfl).alloc _
  have r1 : Row W (w.heap.size + 1) 94 [.int .i64 0, .int .i64 0] := by rw [← hW]; exact Row.new' (by simp)
  have x0 := r0.cell_of (i := 0) rfl
  have x1 := r0.cell_of (i := 1) rfl
  have x2 := r0.cell_of (i := 2) rfl
  have HB := hide hb
  -- the object's blocks in W are its elder ones
  have hW1 : DW P Au L S Y W := h.stay ds (fun k _ hk => hb.block k hk) hb.size
  have HBg := hide (((Begin_d ds hW1 (hK.mono (by omega)) o).2.2 t ht hp))
  rw [hY1] at HBg
  have hnS : ¬ S (w.heap.size + 1) := fun c => by have := h.doc.lt _ c; omega
  have HFr0 := hide (show Fr S w W from Fr.of_below hb)
  have HR1 := hide r1
  have HDS := hide ds
  have HGo := hide hGo
  have hzW : w.heap.size + 1 < W.heap.size := r1.lt
  have hzw : w.heap.size ≤ W.heap.size := hb.size
  have HH := hide h
  clear hW r0 r1 hb h ds hGo hY1 hY' hK hW1
  go_wp2_with fail
  refine HBg.out.mono ?_
  rintro e w3 ⟨rfl, hg3⟩
  have HG3 := hide hg3
  clear hg3
  go_wp2_with fail
  go_loopg [9] 5000 (fun g how w' => DoL P Au L S W t (K + 1) Y' g how w')
  case atStart => exact ⟨Y1, HGo.out, HG3.out, .inl ⟨rfl, hr1⟩⟩
  case round =>
    obtain ⟨Yc, hI⟩ := hrel
    have hgc := hI.go
    have hdg := hI.dg
    have hl : Lim L 1000000000 Yc := hgc.lim.mono (by have := hgc.gl; omega)
    rcases hI.how with ⟨rfl, hpc⟩ | ⟨rfl, hpc⟩
    · have HS := hide ((Step_d HDS.out hdg.dw hl).2.2 t ht hpc)
      have hst := hgc.step (by omega) ht hpc
      have hwd := hgc.yi.word (by omega) ht hpc
      have hpost := hide (show ∀ w', DGo P Au L (Grow S W wr) wr (M.rstep L.n L.cap Yc t).1 w' → DoL P Au L S W t (K + 1) Y' (gk - 1) (.int .i64 (endW (M.rstep L.n L.cap Yc t).2)) w' from fun w' hd => ⟨_, hst.2, hdg.next hd, by
        rw [hwd]
        by_cases q : ((M.rstep L.n L.cap Yc t).1.th t).part = 0
        · exact .inr ⟨by simp [endW, q], q⟩
        · exact .inl ⟨by simp [endW, q], q⟩⟩)
      have hgk : 0 < gk := hst.1
      clear hI hgc hdg hst hwd hl
      go_wp2_with fail
      refine HS.out.mono ?_
      rintro e w5 ⟨rfl, hd5⟩
      have HP := hide (hpost.out w5 hd5)
      clear hd5
      generalize endW (M.rstep L.n L.cap Yc t).2 = ew at *
      go_wp2_with fail
      go_roundg (gk - 1)
      case measure => omega
      case rel => exact HP.out
    · have hYe := hgc.end hpc
      subst hYe
      have hen : (Yc.th t).ended ≠ 0 := by
        rw [hgc.yi.ok.ide t ht hpc]
        exact fun c => hgc.ops (List.eq_nil_of_length_eq_zero c)
      have HA := hide ((Answer_d HDS.out hdg.dw hl).2 t ht)
      have e9 : ansW P Yc t = .tuple #[.agg #[.int .i64 (ansD P Yc t).s, .int .i64 (ansD P Yc t).v], .int .i64 0] := by unfold ansW; rw [if_neg (by simpa using hpc), if_neg hen]
      rw [e9] at HA
      have hr : Row wr (w.heap.size + 1) 94 [.int .i64 0, .int .i64 0] := HR1.out.of_block (hdg.fr.block _ HR1.out.lt hnS)
      have hzr : W.heap.size ≤ wr.heap.size := hdg.fr.size
      have HDG := hide hdg
      have HR := hide hr
      clear hI hgc hdg hl hpc hen e9 hr HG3 HGo
      go_wp2_with fail
      refine HA.out.mono ?_
      rintro e w5 ⟨rfl, hb5⟩
      have r5 := HR.out.old hb5
      have y0 := r5.cell_of (i := 0) rfl
      have y1 := r5.cell_of (i := 1) rfl
      have z0 := r5.frozen 0
      have z1 := r5.frozen 1
      have HRo := hide (r5.set 0 (.int .i64 (ansD P Yc t).s) |>.set 1 (.int .i64 (ansD P Yc t).v))
      have HB5 := hide hb5
      clear hb5 r5
      go_wp2_with fail
      have q1 := HRo.out.cell_of (i := 0) rfl
      have q2 := HRo.out.cell_of (i := 1) rfl
      refine bodyPost_ret (v := .tuple #[.agg #[.int .i64 (ansD P Yc t).s, .int .i64 (ansD P Yc t).v], .int .i64 0]) (by simp [results, Tryz.results47, go_sem, q1, q2]) rfl ⟨rfl, ?_⟩
      refine HH.out.left HDS.out ⟨?_, ?_⟩ HDG.out.dw.yi
      · have hd := HDG.out.dw.doc
        have hsz5 := HB5.out.size
        refine hd.stay (fun k hk => ?_) (fun k hk => ?_) (fun k hk => ?_)
        · have hkr := hd.lt k hk
          have hne : k ≠ w.heap.size + 1 := by
            rintro rfl
            rcases hk with c | c
            · exact hnS c
            · omega
          rw [Below.heap_setCell _ _ _ k hne, Below.heap_setCell _ _ _ k hne]
          exact HB5.out.block k hkr
        · rcases hk with c | c
          · exact .inl c
          · exact .inr ⟨by omega, by simp [World.setCell]; omega⟩
        · rcases hk with c | c
          · have := HH.out.doc.lt k c
            simp [World.setCell]; omega
          · exact c.2
      · refine ((HFr0.out.trans HDG.out.fr).trans (Fr.of_below HB5.out)).grow (own' := fun k => k = w.heap.size + 1) (((Fr.refl (fun k => k = w.heap.size + 1) _).here (b := w.heap.size + 1) rfl _ _).here (b := w.heap.size + 1) rfl _ _) (fun k hk => .inr (by omega))
theorem Do_d (ds : DS P tell sz HM Au L) (h : DW P Au L S Y w) (hK : Lim L K Y) (hK9 : K + 6000 ≤ 1000000000) (o : M.Op) :
    (∀ x : Int, ¬ (0 ≤ x ∧ x < L.n) → Calls Tryz.prog 47 #[.pointer (some ⟨L.b, 0, none⟩), .int .i64 x, .agg #[.int .i64 o.c, .int .i64 o.a, .int .i64 o.b]] w fun e w' => e = .returned (.tuple #[.agg #[.int .i64 0, .int .i64 0], .int .i64 3]) ∧ DGo P Au L S w Y w')
    ∧ ∀ t, t < L.n → Calls Tryz.prog 47 #[.pointer (some ⟨L.b, 0, none⟩), .int .i64 (t : Int), .agg #[.int .i64 o.c, .int .i64 o.a, .int .i64 o.b]] w fun e w' => e = .returned (doW P L.n L.cap Y t o) ∧ DGo P Au L S w (doY L.n L.cap Y t o) w' := by
  obtain ⟨lab, vo, vp, vb, bv, q⟩ := h.doc
  have st : ∀ W, Below w.heap.size w W → DR L S Y W lab vo vp vb bv := fun W hb => q.stay (fun k hS => hb.block k (q.lt k hS)) (fun _ h => h) (fun k hS => Nat.lt_of_lt_of_le (q.lt k hS) hb.size)
  refine ⟨fun x hx => ?_, fun t ht => ?_⟩
  · refine (docDo_err (w := w) (L := L) x 3 o (by decide) fun W hb => docBegin_bad (st W hb) x hx o).mono ?_
    rintro e w' ⟨rfl, hb⟩
    exact ⟨rfl, h.below ds hb⟩
  · unfold doW doY
    by_cases hp : (Y.th t).part = 0
    · rw [if_neg (by simpa using hp), if_neg (by simpa using hp)]
      exact docDo_idle ds h hK hK9 ht hp o
    · rw [if_pos hp, if_pos hp]
      refine (docDo_err (w := w) (L := L) (t : Int) 4 o (by decide) fun W hb => docBegin_busy (st W hb) ht hp o).mono ?_
      rintro e w' ⟨rfl, hb⟩
      exact ⟨rfl, h.below ds hb⟩
end
end Go.Proofs.YtefjhnhdagolhaaGreat
