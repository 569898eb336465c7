import Derived.Test.YtefjhnhdagolhaaGreatQ38
import Derived.Deep.LoopGhost
namespace Go.Proofs.YtefjhnhdagolhaaGreat
open Go.RowKit
attribute [local go_sem ↓] Go.wp_at_zero Go.wp_at_succ
section
variable {I : Nat → Prop} {B : Nat} {w w' : World} {p pl pr : Option Addr} {s sl sr : Prs} {h hl hr : Nat} {e : Int × Int}
set_option maxRecDepth 20000 in
set_option maxHeartbeats 2000000 in
theorem turnedLeft_w (q1 : Tr (JB I B w) w pl sl hl) (q2 : Tr (JB I B w) w pr sr hr) (hB : B ≤ w.heap.size) (hz : sl.length + sr.length ≤ 1000000000000) (hh : hl + 1 < hr) :
    Calls Tryz.prog 386 #[.pointer pl, .agg #[.int .i64 e.1, .int .i64 e.2], .pointer pr] w (TrRes I B w (sl ++ e :: sr)) := by
  rcases q2.cases with ⟨-, -, rfl⟩ | ⟨b1, prl, prr, re, srl, srr, hrl, hrr, rfl, -, hR1, tl, tr, rfl, -⟩
  · omega
  have hz1 : sl.length + srl.length + srr.length ≤ 1000000000000 := by simp only [List.length_append, List.length_cons] at hz; omega
  unfold tnode at hR1
  by_cases hc : hrl ≤ hrr
  · have hc' : (hrl : Int) ≤ (hrr : Int) := by omega
    go_enter Tryz.func386, Tryz.ntmps386
    go_upto_region 1 with fail
    generalize hW : World.alloc w _ = W
    have hb0 : Below w.heap.size w W := by rw [← hW]; exact below_alloc _ _
    have r4 : Row W w.heap.size 373 [.int .i64 e.1, .int .i64 e.2] := by rw [← hW]; exact Row.new' rfl
    have d0 := r4.cell_of (i := 0) rfl
    have d1 := r4.cell_of (i := 1) rfl
    have r1 := hR1.old hb0
    have c0 := r1.cell_of (i := 0) rfl
    have c1 := r1.cell_of (i := 1) rfl
    have c2 := r1.cell_of (i := 2) rfl
    have c3 := r1.cell_of (i := 3) rfl
    have HB0 := hide hb0
    have HL := hide (q1.later hb0)
    have HM := hide (tl.later hb0)
    have HR := hide (tr.later hb0)
    have hlt := r4.lt
    clear hW hb0 r4 r1 hR1 q1 q2 tl tr
    go_upto_region 2 with fail
    go_wp2_with fail
    refine (tall_w HR.out).mono ?_
    rintro e' w2 ⟨rfl, rfl⟩
    go_wp2_with fail
    refine (tall_w HM.out).mono ?_
    rintro e' w2 ⟨rfl, rfl⟩
    go_upto_region 3 with fail
    refine rg0 (S := (fun w' => w'.cell? ⟨w.heap.size, 0, none⟩ = some (.int .i64 e.1) ∧ w'.cell? ⟨w.heap.size, 1, none⟩ = some (.int .i64 e.2) ∧ w'.cell? ⟨b1, 0, none⟩ = some (.int .i64 re.1) ∧ w'.cell? ⟨b1, 1, none⟩ = some (.int .i64 re.2) ∧ w'.cell? ⟨b1, 3, none⟩ = some (.pointer prr) ∧ Below w2.heap.size w2 w')) 14 rfl (by kernel_rfl) ?_ (fun hHeld => ?_)
    · exact ⟨d0, d1, c0, c1, c3, (Below.refl _ _).drew⟩
    iterate 3 (refine tk 13 (by rfl) (by kernel_rfl) (by exact fun _ _ _ h => h) (.inl ⟨by rfl, fun w hS => by (try dsimp only at hS); go_simp; (try with_reducible rfl)⟩) (by assumption) ?_; try go_frame)
    iterate 8 (refine tk 14 (by rfl) (by kernel_rfl) (by exact fun _ _ _ h => h) (.inl ⟨by rfl, fun w hS => by (try dsimp only at hS); go_simp; (try with_reducible rfl)⟩) (by assumption) ?_; try go_frame)
    refine rd1 3 (by rfl) (by kernel_rfl) (fun K hK => ?_)
    go_simp
    refine (joined_w (I := I) (B := B) (HL.out.later hHeld.2.2.2.2.2) (HM.out.later hHeld.2.2.2.2.2) (by have := hHeld.2.2.2.2.2.size; omega) (by omega)).mono ?_
    rintro e' w3 ⟨b3, rfl, t3, hb3⟩
    go_wp2_with fail
    refine hK.out _ _ ?_ (fun hHeld => ?_)
    · exact ⟨cell_later hb3 hHeld.1, cell_later hb3 hHeld.2.1, cell_later hb3 hHeld.2.2.1, cell_later hb3 hHeld.2.2.2.1, cell_later hb3 hHeld.2.2.2.2.1, Below.next hHeld.2.2.2.2.2 hb3 hHeld.2.2.2.2.2.size⟩
    clear hK K
    (try go_frame)
    refine rd1 12 (by rfl) (by kernel_rfl) (fun K hK => ?_)
    go_simp
    refine (joined_w (I := I) (B := B) t3 (HR.out.later hHeld.2.2.2.2.2) (by have := hHeld.2.2.2.2.2.size; omega) (by simp only [List.length_append, List.length_cons]; omega)).mono ?_
    rintro e' w4 ⟨b4, rfl, t4, hb4⟩
    have HT := hide t4
    clear t4
    go_wp2_with fail
    refine hK.out _ _ ?_ (fun hHeld => ?_)
    · exact ⟨cell_later hb4 hHeld.1, cell_later hb4 hHeld.2.1, cell_later hb4 hHeld.2.2.1, cell_later hb4 hHeld.2.2.2.1, cell_later hb4 hHeld.2.2.2.2.1, Below.next hHeld.2.2.2.2.2 hb4 hHeld.2.2.2.2.2.size⟩
    clear hK K
    (try go_frame)
    iterate 1 (refine tk 13 (by rfl) (by kernel_rfl) (by exact fun _ _ _ h => h) (.inl ⟨by rfl, fun w hS => by (try dsimp only at hS); go_simp; (try with_reducible rfl)⟩) (by assumption) ?_; try go_frame)
    refine wpAnyH_done (by kernel_rfl) ?_ _
    go_wp2_with fail
    go_ret
    exact ⟨_, _, rfl, by have := HT.out; simpa using this, Below.next HB0.out hHeld.2.2.2.2.2 HB0.out.size⟩
  · rcases tl.cases with ⟨-, -, rfl⟩ | ⟨b2, pml, pmr, me, sml, smr, hml, hmr, rfl, -, hR2, tml, tmr, rfl, -⟩
    · omega
    have hc' : ¬ (hrl : Int) ≤ (hrr : Int) := by omega
    have hz2 : sl.length + sml.length + smr.length + srr.length ≤ 1000000000000 := by simp only [List.length_append, List.length_cons] at hz1; omega
    unfold tnode at hR2
    go_enter Tryz.func386, Tryz.ntmps386
    go_upto_region 1 with fail
    generalize hW : World.alloc w _ = W
    have hb0 : Below w.heap.size w W := by rw [← hW]; exact below_alloc _ _
    have r4 : Row W w.heap.size 373 [.int .i64 e.1, .int .i64 e.2] := by rw [← hW]; exact Row.new' rfl
    have d0 := r4.cell_of (i := 0) rfl
    have d1 := r4.cell_of (i := 1) rfl
    have r1 := hR1.old hb0
    have c0 := r1.cell_of (i := 0) rfl
    have c1 := r1.cell_of (i := 1) rfl
    have c2 := r1.cell_of (i := 2) rfl
    have c3 := r1.cell_of (i := 3) rfl
    have r2 := hR2.old hb0
    have m0 := r2.cell_of (i := 0) rfl
    have m1 := r2.cell_of (i := 1) rfl
    have m2 := r2.cell_of (i := 2) rfl
    have m3 := r2.cell_of (i := 3) rfl
    have HB0 := hide hb0
    have HL := hide (q1.later hb0)
    have HM := hide (tl.later hb0)
    have HML := hide (tml.later hb0)
    have HMR := hide (tmr.later hb0)
    have HR := hide (tr.later hb0)
    have hlt := r4.lt
    clear hW hb0 r4 r1 r2 hR1 hR2 q1 q2 tl tr tml tmr
    go_upto_region 2 with fail
    go_wp2_with fail
    refine (tall_w HR.out).mono ?_
    rintro e' w2 ⟨rfl, rfl⟩
    go_wp2_with fail
    refine (tall_w HM.out).mono ?_
    rintro e' w2 ⟨rfl, rfl⟩
    go_upto_region 4 with fail
    refine rg0 (S := (fun w' => Below w2.heap.size w2 w' ∧ w'.cell? ⟨w.heap.size, 0, none⟩ = some (.int .i64 e.1) ∧ w'.cell? ⟨w.heap.size, 1, none⟩ = some (.int .i64 e.2) ∧ w'.cell? ⟨b1, 0, none⟩ = some (.int .i64 re.1) ∧ w'.cell? ⟨b1, 1, none⟩ = some (.int .i64 re.2) ∧ w'.cell? ⟨b1, 3, none⟩ = some (.pointer prr) ∧ w'.cell? ⟨b2, 0, none⟩ = some (.int .i64 me.1) ∧ w'.cell? ⟨b2, 1, none⟩ = some (.int .i64 me.2) ∧ w'.cell? ⟨b2, 2, none⟩ = some (.pointer pml) ∧ w'.cell? ⟨b2, 3, none⟩ = some (.pointer pmr))) 26 rfl (by kernel_rfl) ?_ (fun hHeld => ?_)
    · exact ⟨(Below.refl _ _).drew, d0, d1, c0, c1, c3, m0, m1, m2, m3⟩
    iterate 6 (refine tk 25 (by rfl) (by kernel_rfl) (by exact fun _ _ _ h => h) (.inl ⟨by rfl, fun w hS => by (try dsimp only at hS); go_simp; (try with_reducible rfl)⟩) (by assumption) ?_; try go_frame)
    iterate 16 (refine tk 26 (by rfl) (by kernel_rfl) (by exact fun _ _ _ h => h) (.inl ⟨by rfl, fun w hS => by (try dsimp only at hS); go_simp; (try with_reducible rfl)⟩) (by assumption) ?_; try go_frame)
    refine rd1 6 (by rfl) (by kernel_rfl) (fun K hK => ?_)
    go_simp
    refine (joined_w (I := I) (B := B) (HL.out.later hHeld.1) (HML.out.later hHeld.1) (by have := hHeld.1.size; omega) (by omega)).mono ?_
    rintro e' w5 ⟨b5, rfl, t5, hb5⟩
    go_wp2_with fail
    refine hK.out _ _ ?_ (fun hHeld => ?_)
    · exact keepT9 hb5 hHeld
    clear hK K
    (try go_frame)
    refine rd1 23 (by rfl) (by kernel_rfl) (fun K hK => ?_)
    go_simp
    refine (joined_w (I := I) (B := B) (HMR.out.later hHeld.1) (HR.out.later hHeld.1) (by have := hHeld.1.size; omega) (by omega)).mono ?_
    rintro e' w6 ⟨b6, rfl, t6, hb6⟩
    go_wp2_with fail
    refine hK.out _ _ ?_ (fun hHeld => ?_)
    · exact keepT9 hb6 hHeld
    clear hK K
    (try go_frame)
    refine rd1 24 (by rfl) (by kernel_rfl) (fun K hK => ?_)
    go_simp
    refine (joined_w (I := I) (B := B) (by first | exact t5 | exact t5.later hb6) (by first | exact t6 | exact t6.later hb5) (by have := hHeld.1.size; omega) (by simp only [List.length_append, List.length_cons]; omega)).mono ?_
    rintro e' w7 ⟨b7, rfl, t7, hb7⟩
    have HT := hide t7
    clear t7
    go_wp2_with fail
    refine hK.out _ _ ?_ (fun hHeld => ?_)
    · exact keepT9 hb7 hHeld
    clear hK K
    (try go_frame)
    iterate 1 (refine tk 25 (by rfl) (by kernel_rfl) (by exact fun _ _ _ h => h) (.inl ⟨by rfl, fun w hS => by (try dsimp only at hS); go_simp; (try with_reducible rfl)⟩) (by assumption) ?_; try go_frame)
    refine wpAnyH_done (by kernel_rfl) ?_ _
    go_wp2_with fail
    go_ret
    exact ⟨_, _, rfl, by have := HT.out; simpa using this, Below.next HB0.out hHeld.1 HB0.out.size⟩
set_option maxRecDepth 20000 in
set_option maxHeartbeats 2000000 in
theorem balanced_w (q1 : Tr (JB I B w) w pl sl hl) (q2 : Tr (JB I B w) w pr sr hr) (hB : B ≤ w.heap.size) (hz : sl.length + sr.length ≤ 1000000000000) :
    Calls Tryz.prog 383 #[.pointer pl, .agg #[.int .i64 e.1, .int .i64 e.2], .pointer pr] w (TrRes I B w (sl ++ e :: sr)) := by
  have l1 := q1.len
  have l2 := q2.len
  have wr1 : IntKind.i64.wrap ((hr : Int) + 1) = (hr : Int) + 1 := wrapi _ (by omega) (by omega)
  have wl1 : IntKind.i64.wrap ((hl : Int) + 1) = (hl : Int) + 1 := wrapi _ (by omega) (by omega)
  go_enter Tryz.func383, Tryz.ntmps383
  go_upto_region 1 with fail
  generalize hW : World.alloc w _ = W
  have hb0 : Below w.heap.size w W := by rw [← hW]; exact below_alloc _ _
  have r4 : Row W w.heap.size 373 [.int .i64 e.1, .int .i64 e.2] := by rw [← hW]; exact Row.new' rfl
  have d0 := r4.cell_of (i := 0) rfl
  have d1 := r4.cell_of (i := 1) rfl
  have HB0 := hide hb0
  have HL := hide (q1.later hb0)
  have HR := hide (q2.later hb0)
  have hlt := r4.lt
  clear hW hb0 r4 q1 q2
  go_wp2_with fail
  refine (tall_w HL.out).mono ?_
  rintro e' w2 ⟨rfl, rfl⟩
  go_wp2_with fail
  refine (tall_w HR.out).mono ?_
  rintro e' w2 ⟨rfl, rfl⟩
  by_cases c1 : hr + 1 < hl
  · have c1' : (hr : Int) + 1 < (hl : Int) := by omega
    go_wp2_with fail
    refine (turnedRight_w (I := I) (B := B) HL.out HR.out (by omega) hz c1).mono ?_
    rintro e' w3 ⟨p3, h3, rfl, t3, hb3⟩
    have HT := hide t3
    have HB3 := hide hb3
    clear t3 hb3
    go_wp2_with fail
    go_ret
    exact ⟨_, _, rfl, HT.out, Below.next HB0.out HB3.out HB0.out.size⟩
  · have c1' : ¬ (hr : Int) + 1 < (hl : Int) := by omega
    go_wp2_with fail
    refine (tall_w HR.out).mono ?_
    rintro e' w2 ⟨rfl, rfl⟩
    go_wp2_with fail
    refine (tall_w HL.out).mono ?_
    rintro e' w2 ⟨rfl, rfl⟩
    by_cases c2 : hl + 1 < hr
    · have c2' : (hl : Int) + 1 < (hr : Int) := by omega
      go_wp2_with fail
      refine (turnedLeft_w (I := I) (B := B) HL.out HR.out (by omega) hz c2).mono ?_
      rintro e' w3 ⟨p3, h3, rfl, t3, hb3⟩
      have HT := hide t3
      have HB3 := hide hb3
      clear t3 hb3
      go_wp2_with fail
      go_ret
      exact ⟨_, _, rfl, HT.out, Below.next HB0.out HB3.out HB0.out.size⟩
    · have c2' : ¬ (hl : Int) + 1 < (hr : Int) := by omega
      go_wp2_with fail
      refine (joined_w (I := I) (B := B) HL.out HR.out (by omega) (by omega)).mono ?_
      rintro e' w3 ⟨p3, rfl, t3, hb3⟩
      have HT := hide t3
      have HB3 := hide hb3
      clear t3 hb3
      go_wp2_with fail
      go_ret
      exact ⟨_, _, rfl, HT.out, Below.next HB0.out HB3.out HB0.out.size⟩
end
end Go.Proofs.YtefjhnhdagolhaaGreat
namespace Go.Proofs.YtefjhnhdagolhaaGreat
open Go.RowKit
attribute [local go_sem ↓] Go.wp_at_zero Go.wp_at_succ
theorem TrAt.later {I : Nat → Prop} {B d : Nat} {w w' : World} {p : Option Addr} {s : Prs} {h : Nat} (q : TrAt (JB I B w) w d p s h) (hb : Below w.heap.size w w') : TrAt (JB I B w') w' d p s h :=
  q.stay fun k hk hl => ⟨by
    rcases hk with hk | hk
    · exact .inl hk
    · exact .inr ⟨hk.1, Nat.lt_of_lt_of_le hk.2 hb.size⟩, hb.block k hl⟩
theorem keepT6 {w0 w w' : World} {a1 a2 a3 a4 a5 a6 : Addr} {v1 v2 v3 v4 v5 v6 : Value} (hb : Below w.heap.size w w')
    (h : Below w0.heap.size w0 w ∧ w.cell? a1 = some v1 ∧ w.cell? a2 = some v2 ∧ w.cell? a3 = some v3 ∧ w.cell? a4 = some v4 ∧ w.cell? a5 = some v5 ∧ w.cell? a6 = some v6) :
    Below w0.heap.size w0 w' ∧ w'.cell? a1 = some v1 ∧ w'.cell? a2 = some v2 ∧ w'.cell? a3 = some v3 ∧ w'.cell? a4 = some v4 ∧ w'.cell? a5 = some v5 ∧ w'.cell? a6 = some v6 :=
  let ⟨h0, h1, h2, h3, h4, h5, h6⟩ := h
  ⟨Below.next h0 hb h0.size, cell_later hb h1, cell_later hb h2, cell_later hb h3, cell_later hb h4, cell_later hb h5, cell_later hb h6⟩
section
variable {I : Nat → Prop} {B : Nat} {a b : Int}
set_option maxHeartbeats 1000000 in
theorem with_nil {w : World} (hB : B ≤ w.heap.size) : Calls Tryz.prog 378 #[.pointer none, .agg #[.int .i64 a, .int .i64 b]] w (TrRes I B w [(a, b)]) := by
  go_enter Tryz.func378, Tryz.ntmps378
  go_upto_region 1 with fail
  generalize hW : World.alloc w _ = W
  have hb0 : Below w.heap.size w W := by rw [← hW]; exact below_alloc _ _
  have r4 : Row W w.heap.size 373 [.int .i64 a, .int .i64 b] := by rw [← hW]; exact Row.new' rfl
  have d0 := r4.cell_of (i := 0) rfl
  have d1 := r4.cell_of (i := 1) rfl
  have hlt := r4.lt
  have HB0 := hide hb0
  clear hW hb0 r4
  go_wp2_with fail
  refine (joined_w (I := I) (B := B) (e := (a, b)) Tr.nil Tr.nil (by omega) (by simp)).mono ?_
  rintro e' w3 ⟨p3, rfl, t3, hb3⟩
  have HT := hide t3
  have HB3 := hide hb3
  clear t3 hb3
  go_wp2_with fail
  go_ret
  exact ⟨_, _, rfl, HT.out, Below.next HB0.out HB3.out HB0.out.size⟩
set_option maxRecDepth 20000 in
set_option maxHeartbeats 4000000 in
theorem with_at : ∀ (d : Nat) (w : World) (p : Option Addr) (s : Prs) (h : Nat), TrAt (JB I B w) w d p s h → Asc s → B ≤ w.heap.size → s.length ≤ 500000000000 →
    Calls Tryz.prog 378 #[.pointer p, .agg #[.int .i64 a, .int .i64 b]] w (TrRes I B w (mput s a b))
  | 0, w, p, s, h, q, hs, hB, hz => by
    obtain ⟨rfl, rfl, -⟩ := q
    exact with_nil hB
  | d + 1, w, p, s, h, q, hs, hB, hz => by
    have IH := hide (with_at d)
    rcases q with ⟨rfl, rfl, -⟩ | ⟨b1, pl, pr, e, sl, sr, hl, hr, rfl, -, hR1, tl, tr, rfl, -⟩
    · exact with_nil hB
    have hzl : sl.length + sr.length + 1 ≤ 500000000000 := by simp only [List.length_append, List.length_cons] at hz; omega
    obtain ⟨as1, as2, -, -⟩ := asc_mid.mp hs
    have ln1 := put_len sl a b
    have ln2 := put_len sr a b
    have HAs := hide hs
    have HA1 := hide as1
    have HA2 := hide as2
    clear hs as1 as2 hz
    unfold tnode at hR1
    by_cases ca : a < e.1
    · have HPT := hide (put_left (b := b) HAs.out ca)
      rw [HPT.out]
      go_enter Tryz.func378, Tryz.ntmps378
      go_upto_region 1 with fail
      generalize hW : World.alloc w _ = W
      have hb0 : Below w.heap.size w W := by rw [← hW]; exact below_alloc _ _
      have r4 : Row W w.heap.size 373 [.int .i64 a, .int .i64 b] := by rw [← hW]; exact Row.new' rfl
      have d0 := r4.cell_of (i := 0) rfl
      have d1 := r4.cell_of (i := 1) rfl
      have r1 := hR1.old hb0
      have c0 := r1.cell_of (i := 0) rfl
      have c1 := r1.cell_of (i := 1) rfl
      have c2 := r1.cell_of (i := 2) rfl
      have c3 := r1.cell_of (i := 3) rfl
      have hlt := r4.lt
      have HB0 := hide hb0
      have HL := hide (tl.later hb0)
      have HR := hide (tr.later hb0)
      clear hW hb0 r4 r1 hR1 tl tr
      go_upto_region 3 with fail
      go_quiet (fail)
      generalize hW2 : World.drewN W nq = W2
      replace HB0 := hide (show Below w.heap.size w W2 by rw [← hW2]; exact Below.drewN HB0.out _)
      replace d0 : W2.cell? ⟨w.heap.size, 0, none⟩ = some (.int .i64 a) := by rw [← hW2]; exact d0
      replace d1 : W2.cell? ⟨w.heap.size, 1, none⟩ = some (.int .i64 b) := by rw [← hW2]; exact d1
      replace c0 : W2.cell? ⟨b1, 0, none⟩ = some (.int .i64 e.1) := by rw [← hW2]; exact c0
      replace c1 : W2.cell? ⟨b1, 1, none⟩ = some (.int .i64 e.2) := by rw [← hW2]; exact c1
      replace c2 : W2.cell? ⟨b1, 2, none⟩ = some (.pointer pl) := by rw [← hW2]; exact c2
      replace c3 : W2.cell? ⟨b1, 3, none⟩ = some (.pointer pr) := by rw [← hW2]; exact c3
      replace HL := hide (show TrAt (JB I B W2) W2 d pl sl hl by rw [← hW2]; exact HL.out.later (Below.drewN (Below.refl _ _) _))
      replace HR := hide (show TrAt (JB I B W2) W2 d pr sr hr by rw [← hW2]; exact HR.out.later (Below.drewN (Below.refl _ _) _))
      replace hlt : w.heap.size < W2.heap.size := by rw [← hW2]; exact hlt
      clear hW2
      go_upto_region 4 with fail
      refine rg0 (S := (fun w' => Below W2.heap.size W2 w' ∧ w'.cell? ⟨w.heap.size, 0, none⟩ = some (.int .i64 a) ∧ w'.cell? ⟨w.heap.size, 1, none⟩ = some (.int .i64 b) ∧ w'.cell? ⟨b1, 0, none⟩ = some (.int .i64 e.1) ∧ w'.cell? ⟨b1, 1, none⟩ = some (.int .i64 e.2) ∧ w'.cell? ⟨b1, 2, none⟩ = some (.pointer pl) ∧ w'.cell? ⟨b1, 3, none⟩ = some (.pointer pr))) 16 rfl (by kernel_rfl) ?_ (fun hHeld => ?_)
      · exact ⟨(Below.refl _ _).drew, d0, d1, c0, c1, c2, c3⟩
      iterate 5 (refine tk 15 (by rfl) (by kernel_rfl) (by exact fun _ _ _ h => h) (.inl ⟨by rfl, fun w hS => by (try dsimp only at hS); go_simp; (try with_reducible rfl)⟩) (by assumption) ?_; try go_frame)
      iterate 8 (refine tk 16 (by rfl) (by kernel_rfl) (by exact fun _ _ _ h => h) (.inl ⟨by rfl, fun w hS => by (try dsimp only at hS); go_simp; (try with_reducible rfl)⟩) (by assumption) ?_; try go_frame)
      refine rd1 5 (by rfl) (by kernel_rfl) (fun K hK => ?_)
      go_simp
      refine (IH.out _ _ _ _ (HL.out.later hHeld.1) HA1.out (by have := hHeld.1.size; omega) (by omega)).mono ?_
      rintro e' w3 ⟨p3, h3, rfl, t3, hb3⟩
      go_wp2_with fail
      refine hK.out _ _ ?_ (fun hHeld => ?_)
      · exact keepT6 hb3 hHeld
      clear hK K
      (try go_frame)
      refine rd1 14 (by rfl) (by kernel_rfl) (fun K hK => ?_)
      go_simp
      refine (balanced_w (I := I) (B := B) t3 ⟨d, HR.out.later hHeld.1⟩ (by have := hHeld.1.size; omega) (by omega)).mono ?_
      rintro e' w4 ⟨p4, h4, rfl, t4, hb4⟩
      have HT := hide t4
      clear t4
      go_wp2_with fail
      refine hK.out _ _ ?_ (fun hHeld => ?_)
      · exact keepT6 hb4 hHeld
      clear hK K
      (try go_frame)
      iterate 1 (refine tk 15 (by rfl) (by kernel_rfl) (by exact fun _ _ _ h => h) (.inl ⟨by rfl, fun w hS => by (try dsimp only at hS); go_simp; (try with_reducible rfl)⟩) (by assumption) ?_; try go_frame)
      refine wpAnyH_done (by kernel_rfl) ?_ _
      go_wp2_with fail
      go_ret
      exact ⟨_, _, rfl, HT.out, Below.next HB0.out hHeld.1 HB0.out.size⟩
    · by_cases cb : e.1 < a
      · have HPT := hide (put_right (b := b) HAs.out cb)
        rw [HPT.out]
        go_enter Tryz.func378, Tryz.ntmps378
        go_upto_region 1 with fail
        generalize hW : World.alloc w _ = W
        have hb0 : Below w.heap.size w W := by rw [← hW]; exact below_alloc _ _
        have r4 : Row W w.heap.size 373 [.int .i64 a, .int .i64 b] := by rw [← hW]; exact Row.new' rfl
        have d0 := r4.cell_of (i := 0) rfl
        have d1 := r4.cell_of (i := 1) rfl
        have r1 := hR1.old hb0
        have c0 := r1.cell_of (i := 0) rfl
        have c1 := r1.cell_of (i := 1) rfl
        have c2 := r1.cell_of (i := 2) rfl
        have c3 := r1.cell_of (i := 3) rfl
        have hlt := r4.lt
        have HB0 := hide hb0
        have HL := hide (tl.later hb0)
        have HR := hide (tr.later hb0)
        clear hW hb0 r4 r1 hR1 tl tr
        go_upto_region 3 with fail
        go_quiet (fail)
        generalize hW2 : World.drewN W nq = W2
        replace HB0 := hide (show Below w.heap.size w W2 by rw [← hW2]; exact Below.drewN HB0.out _)
        replace d0 : W2.cell? ⟨w.heap.size, 0, none⟩ = some (.int .i64 a) := by rw [← hW2]; exact d0
        replace d1 : W2.cell? ⟨w.heap.size, 1, none⟩ = some (.int .i64 b) := by rw [← hW2]; exact d1
        replace c0 : W2.cell? ⟨b1, 0, none⟩ = some (.int .i64 e.1) := by rw [← hW2]; exact c0
        replace c1 : W2.cell? ⟨b1, 1, none⟩ = some (.int .i64 e.2) := by rw [← hW2]; exact c1
        replace c2 : W2.cell? ⟨b1, 2, none⟩ = some (.pointer pl) := by rw [← hW2]; exact c2
        replace c3 : W2.cell? ⟨b1, 3, none⟩ = some (.pointer pr) := by rw [← hW2]; exact c3
        replace HL := hide (show TrAt (JB I B W2) W2 d pl sl hl by rw [← hW2]; exact HL.out.later (Below.drewN (Below.refl _ _) _))
        replace HR := hide (show TrAt (JB I B W2) W2 d pr sr hr by rw [← hW2]; exact HR.out.later (Below.drewN (Below.refl _ _) _))
        replace hlt : w.heap.size < W2.heap.size := by rw [← hW2]; exact hlt
        clear hW2
        go_upto_region 5 with fail
        go_quiet (fail)
        generalize hW3 : World.drewN W2 _ = W3
        replace HB0 := hide (show Below w.heap.size w W3 by rw [← hW3]; exact Below.drewN HB0.out _)
        replace d0 : W3.cell? ⟨w.heap.size, 0, none⟩ = some (.int .i64 a) := by rw [← hW3]; exact d0
        replace d1 : W3.cell? ⟨w.heap.size, 1, none⟩ = some (.int .i64 b) := by rw [← hW3]; exact d1
        replace c0 : W3.cell? ⟨b1, 0, none⟩ = some (.int .i64 e.1) := by rw [← hW3]; exact c0
        replace c1 : W3.cell? ⟨b1, 1, none⟩ = some (.int .i64 e.2) := by rw [← hW3]; exact c1
        replace c2 : W3.cell? ⟨b1, 2, none⟩ = some (.pointer pl) := by rw [← hW3]; exact c2
        replace c3 : W3.cell? ⟨b1, 3, none⟩ = some (.pointer pr) := by rw [← hW3]; exact c3
        replace HL := hide (show TrAt (JB I B W3) W3 d pl sl hl by rw [← hW3]; exact HL.out.later (Below.drewN (Below.refl _ _) _))
        replace HR := hide (show TrAt (JB I B W3) W3 d pr sr hr by rw [← hW3]; exact HR.out.later (Below.drewN (Below.refl _ _) _))
        replace hlt : w.heap.size < W3.heap.size := by rw [← hW3]; exact hlt
        clear hW3
        go_upto_region 6 with fail
        refine rg0 (S := (fun w' => Below W3.heap.size W3 w' ∧ w'.cell? ⟨w.heap.size, 0, none⟩ = some (.int .i64 a) ∧ w'.cell? ⟨w.heap.size, 1, none⟩ = some (.int .i64 b) ∧ w'.cell? ⟨b1, 0, none⟩ = some (.int .i64 e.1) ∧ w'.cell? ⟨b1, 1, none⟩ = some (.int .i64 e.2) ∧ w'.cell? ⟨b1, 2, none⟩ = some (.pointer pl) ∧ w'.cell? ⟨b1, 3, none⟩ = some (.pointer pr))) 16 rfl (by kernel_rfl) ?_ (fun hHeld => ?_)
        · exact ⟨(Below.refl _ _).drew, d0, d1, c0, c1, c2, c3⟩
        iterate 13 (refine tk 15 (by rfl) (by kernel_rfl) (by exact fun _ _ _ h => h) (.inl ⟨by rfl, fun w hS => by (try dsimp only at hS); go_simp; (try with_reducible rfl)⟩) (by assumption) ?_; try go_frame)
        refine rd1 13 (by rfl) (by kernel_rfl) (fun K hK => ?_)
        go_simp
        refine (IH.out _ _ _ _ (HR.out.later hHeld.1) HA2.out (by have := hHeld.1.size; omega) (by omega)).mono ?_
        rintro e' w3 ⟨p3, h3, rfl, t3, hb3⟩
        go_wp2_with fail
        refine hK.out _ _ ?_ (fun hHeld => ?_)
        · exact keepT6 hb3 hHeld
        clear hK K
        (try go_frame)
        refine rd1 14 (by rfl) (by kernel_rfl) (fun K hK => ?_)
        go_simp
        refine (balanced_w (I := I) (B := B) ⟨d, HL.out.later (Below.next hHeld.1 (Below.refl _ _) hHeld.1.size)⟩ t3 (by have := hHeld.1.size; omega) (by omega)).mono ?_
        rintro e' w4 ⟨p4, h4, rfl, t4, hb4⟩
        have HT := hide t4
        clear t4
        go_wp2_with fail
        refine hK.out _ _ ?_ (fun hHeld => ?_)
        · exact keepT6 hb4 hHeld
        clear hK K
        (try go_frame)
        iterate 1 (refine tk 15 (by rfl) (by kernel_rfl) (by exact fun _ _ _ h => h) (.inl ⟨by rfl, fun w hS => by (try dsimp only at hS); go_simp; (try with_reducible rfl)⟩) (by assumption) ?_; try go_frame)
        refine wpAnyH_done (by kernel_rfl) ?_ _
        go_wp2_with fail
        go_ret
        exact ⟨_, _, rfl, HT.out, Below.next HB0.out hHeld.1 HB0.out.size⟩
      · have ce : e.1 = a := by omega
        have HPT := hide (put_mid (b := b) HAs.out ce)
        rw [HPT.out]
        clear ce
        go_enter Tryz.func378, Tryz.ntmps378
        go_upto_region 1 with fail
        generalize hW : World.alloc w _ = W
        have hb0 : Below w.heap.size w W := by rw [← hW]; exact below_alloc _ _
        have r4 : Row W w.heap.size 373 [.int .i64 a, .int .i64 b] := by rw [← hW]; exact Row.new' rfl
        have d0 := r4.cell_of (i := 0) rfl
        have d1 := r4.cell_of (i := 1) rfl
        have r1 := hR1.old hb0
        have c0 := r1.cell_of (i := 0) rfl
        have c1 := r1.cell_of (i := 1) rfl
        have c2 := r1.cell_of (i := 2) rfl
        have c3 := r1.cell_of (i := 3) rfl
        have hlt := r4.lt
        have HB0 := hide hb0
        have HL := hide (tl.later hb0)
        have HR := hide (tr.later hb0)
        clear hW hb0 r4 r1 hR1 tl tr
        go_upto_region 3 with fail
        go_quiet (fail)
        generalize hW2 : World.drewN W nq = W2
        replace HB0 := hide (show Below w.heap.size w W2 by rw [← hW2]; exact Below.drewN HB0.out _)
        replace d0 : W2.cell? ⟨w.heap.size, 0, none⟩ = some (.int .i64 a) := by rw [← hW2]; exact d0
        replace d1 : W2.cell? ⟨w.heap.size, 1, none⟩ = some (.int .i64 b) := by rw [← hW2]; exact d1
        replace c0 : W2.cell? ⟨b1, 0, none⟩ = some (.int .i64 e.1) := by rw [← hW2]; exact c0
        replace c1 : W2.cell? ⟨b1, 1, none⟩ = some (.int .i64 e.2) := by rw [← hW2]; exact c1
        replace c2 : W2.cell? ⟨b1, 2, none⟩ = some (.pointer pl) := by rw [← hW2]; exact c2
        replace c3 : W2.cell? ⟨b1, 3, none⟩ = some (.pointer pr) := by rw [← hW2]; exact c3
        replace HL := hide (show TrAt (JB I B W2) W2 d pl sl hl by rw [← hW2]; exact HL.out.later (Below.drewN (Below.refl _ _) _))
        replace HR := hide (show TrAt (JB I B W2) W2 d pr sr hr by rw [← hW2]; exact HR.out.later (Below.drewN (Below.refl _ _) _))
        replace hlt : w.heap.size < W2.heap.size := by rw [← hW2]; exact hlt
        clear hW2
        go_upto_region 5 with fail
        go_quiet (fail)
        generalize hW3 : World.drewN W2 _ = W3
        replace HB0 := hide (show Below w.heap.size w W3 by rw [← hW3]; exact Below.drewN HB0.out _)
        replace d0 : W3.cell? ⟨w.heap.size, 0, none⟩ = some (.int .i64 a) := by rw [← hW3]; exact d0
        replace d1 : W3.cell? ⟨w.heap.size, 1, none⟩ = some (.int .i64 b) := by rw [← hW3]; exact d1
        replace c0 : W3.cell? ⟨b1, 0, none⟩ = some (.int .i64 e.1) := by rw [← hW3]; exact c0
        replace c1 : W3.cell? ⟨b1, 1, none⟩ = some (.int .i64 e.2) := by rw [← hW3]; exact c1
        replace c2 : W3.cell? ⟨b1, 2, none⟩ = some (.pointer pl) := by rw [← hW3]; exact c2
        replace c3 : W3.cell? ⟨b1, 3, none⟩ = some (.pointer pr) := by rw [← hW3]; exact c3
        replace HL := hide (show TrAt (JB I B W3) W3 d pl sl hl by rw [← hW3]; exact HL.out.later (Below.drewN (Below.refl _ _) _))
        replace HR := hide (show TrAt (JB I B W3) W3 d pr sr hr by rw [← hW3]; exact HR.out.later (Below.drewN (Below.refl _ _) _))
        replace hlt : w.heap.size < W3.heap.size := by rw [← hW3]; exact hlt
        clear hW3
        go_upto_region 7 with fail
        refine rg0 (S := (fun w' => Below W3.heap.size W3 w' ∧ w'.cell? ⟨w.heap.size, 0, none⟩ = some (.int .i64 a) ∧ w'.cell? ⟨w.heap.size, 1, none⟩ = some (.int .i64 b) ∧ w'.cell? ⟨b1, 0, none⟩ = some (.int .i64 e.1) ∧ w'.cell? ⟨b1, 1, none⟩ = some (.int .i64 e.2) ∧ w'.cell? ⟨b1, 2, none⟩ = some (.pointer pl) ∧ w'.cell? ⟨b1, 3, none⟩ = some (.pointer pr))) 11 rfl (by kernel_rfl) ?_ (fun hHeld => ?_)
        · exact ⟨(Below.refl _ _).drew, d0, d1, c0, c1, c2, c3⟩
        iterate 9 (refine tk 10 (by rfl) (by kernel_rfl) (by exact fun _ _ _ h => h) (.inl ⟨by rfl, fun w hS => by (try dsimp only at hS); go_simp; (try with_reducible rfl)⟩) (by assumption) ?_; try go_frame)
        refine rd1 9 (by rfl) (by kernel_rfl) (fun K hK => ?_)
        go_simp
        refine (joined_w (I := I) (B := B) (e := (a, b)) ⟨d, HL.out.later hHeld.1⟩ ⟨d, HR.out.later hHeld.1⟩ (by have := hHeld.1.size; omega) (by omega)).mono ?_
        rintro e' w4 ⟨p4, rfl, t4, hb4⟩
        have HT := hide t4
        clear t4
        go_wp2_with fail
        refine hK.out _ _ ?_ (fun hHeld => ?_)
        · exact keepT6 hb4 hHeld
        clear hK K
        (try go_frame)
        iterate 1 (refine tk 10 (by rfl) (by kernel_rfl) (by exact fun _ _ _ h => h) (.inl ⟨by rfl, fun w hS => by (try dsimp only at hS); go_simp; (try with_reducible rfl)⟩) (by assumption) ?_; try go_frame)
        refine wpAnyH_done (by kernel_rfl) ?_ _
        go_wp2_with fail
        go_ret
        exact ⟨_, _, rfl, HT.out, Below.next HB0.out hHeld.1 HB0.out.size⟩
end
end Go.Proofs.YtefjhnhdagolhaaGreat
namespace Go.Proofs.YtefjhnhdagolhaaGreat
open Go.RowKit
attribute [local go_sem ↓] Go.wp_at_zero Go.wp_at_succ
section
variable {I : Nat → Prop} {B : Nat} {w : World} {p : Option Addr} {s : Prs} {h : Nat} {a b : Int}
def findV (o : Option Int) : Value := match o with | some v => .tuple #[.int .i64 v, .bool true] | none => .tuple #[.int .i64 0, .bool false]
set_option maxRecDepth 20000 in
set_option maxHeartbeats 2000000 in
theorem find_w (q : Tr I w p s h) (hs : Asc s) : Calls Tryz.prog 377 #[.pointer p, .int .i64 a] w fun e w' => e = .returned (findV (mget s a)) ∧ w' = w := by
  obtain ⟨d, q⟩ := q
  have HQ := hide q
  have HS := hide hs
  clear q hs
  go_enter Tryz.func377, Tryz.ntmps377
  go_wp2
  go_loopg [0] d (fun g v w' => ∃ p' s1 h1, v = .pointer p' ∧ w' = w ∧ TrAt I w g p' s1 h1 ∧ Asc s1 ∧ mget s a = mget s1 a)
  case atStart => exact ⟨p, s, h, rfl, rfl, HQ.out, HS.out, rfl⟩
  case round =>
    obtain ⟨p', s1, h1, rfl, rfl, hq, hA, hm⟩ := hrel
    have HM := hide hm
    have HA := hide hA
    have hc : (p' = none ∧ s1 = [] ∧ h1 = 0) ∨ ∃ d' b1 pl pr e sl sr hl hr, gk = d' + 1 ∧ p' = some ⟨b1, 0, none⟩ ∧ Row wr b1 375 (tnode e pl pr h1) ∧ TrAt I wr d' pl sl hl ∧ TrAt I wr d' pr sr hr ∧ s1 = sl ++ e :: sr := by
      cases gk with
      | zero => exact .inl hq
      | succ d' =>
        rcases hq with q | ⟨b1, pl, pr, e, sl, sr, hl, hr, h1, -, h3, h4, h5, h6, -⟩
        · exact .inl q
        · exact .inr ⟨d', b1, pl, pr, e, sl, sr, hl, hr, rfl, h1, h3, h4, h5, h6⟩
    clear hq hA hm
    rcases hc with ⟨rfl, rfl, -⟩ | ⟨d', b1, pl, pr, e, sl, sr, hl, hr, rfl, rfl, hR, tl, tr, rfl⟩
    · have e0 : mget ([] : Prs) a = none := rfl
      go_wp2
      go_ret2
      rw [HM.out, e0]
      exact ⟨rfl, rfl⟩
    · unfold tnode at hR
      have c0 := hR.cell_of (i := 0) rfl
      have c1 := hR.cell_of (i := 1) rfl
      have c2 := hR.cell_of (i := 2) rfl
      have c3 := hR.cell_of (i := 3) rfl
      obtain ⟨as1, as2, -, -⟩ := asc_mid.mp HA.out
      have HTL := hide (And.intro tl as1)
      have HTR := hide (And.intro tr as2)
      clear tl tr as1 as2 hR
      by_cases ce : e.1 = a
      · have HG := hide (get_mid HA.out ce)
        subst ce
        go_wp2
        go_ret2
        rw [HM.out, HG.out]
        exact ⟨rfl, rfl⟩
      · by_cases ca : a < e.1
        · have HG := hide (get_left HA.out ca)
          go_wp2
          go_roundg d'
          case measure => omega
          case rel => exact ⟨pl, sl, hl, rfl, rfl, HTL.out.1, HTL.out.2, HM.out.trans HG.out⟩
        · have HG := hide (get_right HA.out (show e.1 < a by omega))
          go_wp2
          go_roundg d'
          case measure => omega
          case rel => exact ⟨pr, sr, hr, rfl, rfl, HTR.out.1, HTR.out.2, HM.out.trans HG.out⟩
set_option maxRecDepth 20000 in
set_option maxHeartbeats 2000000 in
theorem least_w {e : Int × Int} {s' : Prs} (q : Tr I w p (e :: s') h) : Calls Tryz.prog 384 #[.pointer p] w fun e' w' => e' = .returned (.agg #[.int .i64 e.1, .int .i64 e.2]) ∧ Below w.heap.size w w' := by
  obtain ⟨d, q⟩ := q
  go_enter Tryz.func384, Tryz.ntmps384
  go_upto_region 1 with fail
  generalize hW : World.alloc w _ = W
  have hb0 : Below w.heap.size w W := by rw [← hW]; exact below_alloc _ _
  have r4 : Row W w.heap.size 373 [.int .i64 0, .int .i64 0] := by rw [← hW]; exact Row.new' (by simp)
  have HQ := hide (show TrAt I W d p (e :: s') h from q.stay fun k hk hl => ⟨hk, hb0.block k hl⟩)
  have HB := hide hb0
  have HR := hide r4
  clear q hW hb0 r4
  go_loopg [0] d (fun g v w' => ∃ p' s1 h1, v = .pointer p' ∧ w' = W ∧ TrAt I W g p' (e :: s1) h1)
  case atStart => exact ⟨p, s', h, rfl, rfl, HQ.out⟩
  case round =>
    obtain ⟨p', s1, h1, rfl, rfl, hq⟩ := hrel
    have hc : ∃ d' b1 pl pr e' sl sr hl, gk = d' + 1 ∧ p' = some ⟨b1, 0, none⟩ ∧ Row wr b1 375 (tnode e' pl pr h1) ∧ TrAt I wr d' pl sl hl ∧ e :: s1 = sl ++ e' :: sr := by
      cases gk with
      | zero => exact absurd hq.2.1 (by simp)
      | succ d' =>
        rcases hq with q | ⟨b1, pl, pr, e', sl, sr, hl, hr, h1, -, h3, h4, -, h6, -⟩
        · exact absurd q.2.1 (by simp)
        · exact ⟨d', b1, pl, pr, e', sl, sr, hl, rfl, h1, h3, h4, h6⟩
    clear hq
    obtain ⟨d', b1, pl, pr, e', sl, sr, hl, rfl, rfl, hR, tl, hse⟩ := hc
    unfold tnode at hR
    have c0 := hR.cell_of (i := 0) rfl
    have c1 := hR.cell_of (i := 1) rfl
    have c2 := hR.cell_of (i := 2) rfl
    rcases Tr.cases ⟨d', tl⟩ with ⟨rfl, rfl, -⟩ | ⟨b2, -, -, e2, sl2, sr2, -, -, rfl, -, -, -, -, rfl, -⟩
    · have ee : e = e' := by simpa using (List.cons.inj hse).1
      subst ee
      have y0 := HR.out.cell_of (i := 0) rfl
      have y1 := HR.out.cell_of (i := 1) rfl
      have z0 := HR.out.frozen 0
      have z1 := HR.out.frozen 1
      have HRo := hide (HR.out.set 0 (.int .i64 e.1) |>.set 1 (.int .i64 e.2))
      clear hse tl hR
      go_wp2
      have q1 := HRo.out.cell_of (i := 0) rfl
      have q2 := HRo.out.cell_of (i := 1) rfl
      exact bodyPost_ret (v := .agg #[.int .i64 e.1, .int .i64 e.2]) (by simp [results, Tryz.results384, go_sem, q1, q2]) rfl ⟨rfl, (HB.out.setCell (by simp) _).setCell (by simp) _⟩
    · have hx : ∃ s9, e :: s9 = sl2 ++ e2 :: sr2 := by
        cases sl2 with
        | nil => simp at hse; exact ⟨sr2, by rw [hse.1]; rfl⟩
        | cons x l => simp at hse; exact ⟨l ++ e2 :: sr2, by rw [hse.1]; rfl⟩
      obtain ⟨s9, hx⟩ := hx
      rw [← hx] at tl
      have HTL := hide tl
      clear tl hse hx hR
      go_wp2
      go_roundg d'
      case measure => omega
      case rel => exact ⟨_, s9, hl, rfl, rfl, HTL.out⟩
end
end Go.Proofs.YtefjhnhdagolhaaGreat
