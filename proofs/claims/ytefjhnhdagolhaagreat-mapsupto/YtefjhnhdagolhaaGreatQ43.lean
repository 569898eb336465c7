import Derived.Test.YtefjhnhdagolhaaGreatQ42
namespace Go.Proofs.YtefjhnhdagolhaaGreat
open Go.RowKit
attribute [local go_sem ↓] Go.wp_at_zero Go.wp_at_succ
def TrRes (I : Nat → Prop) (B : Nat) (w : World) (s : Prs) (e : Ending) (w' : World) : Prop := ∃ p h, e = .returned (.pointer p) ∧ Tr (JB I B w') w' p s h ∧ Below w.heap.size w w'
theorem keepT9 {w0 w w' : World} {a1 a2 a3 a4 a5 a6 a7 a8 a9 : Addr} {v1 v2 v3 v4 v5 v6 v7 v8 v9 : Value} (hb : Below w.heap.size w w')
    (h : Below w0.heap.size w0 w ∧ w.cell? a1 = some v1 ∧ w.cell? a2 = some v2 ∧ w.cell? a3 = some v3 ∧ w.cell? a4 = some v4 ∧ w.cell? a5 = some v5 ∧ w.cell? a6 = some v6 ∧ w.cell? a7 = some v7 ∧ w.cell? a8 = some v8 ∧ w.cell? a9 = some v9) :
    Below w0.heap.size w0 w' ∧ w'.cell? a1 = some v1 ∧ w'.cell? a2 = some v2 ∧ w'.cell? a3 = some v3 ∧ w'.cell? a4 = some v4 ∧ w'.cell? a5 = some v5 ∧ w'.cell? a6 = some v6 ∧ w'.cell? a7 = some v7 ∧ w'.cell? a8 = some v8 ∧ w'.cell? a9 = some v9 :=
  let ⟨h0, h1, h2, h3, h4, h5, h6, h7, h8, h9⟩ := h
  ⟨Below.next h0 hb h0.size, cell_later hb h1, cell_later hb h2, cell_later hb h3, cell_later hb h4, cell_later hb h5, cell_later hb h6, cell_later hb h7, cell_later hb h8, cell_later hb h9⟩
section
variable {I : Nat → Prop} {B : Nat} {w w' : World} {p pl pr : Option Addr} {s sl sr : Prs} {h hl hr : Nat} {e : Int × Int}
set_option maxRecDepth 20000 in
set_option maxHeartbeats 2000000 in
theorem turnedRight_w (q1 : Tr (JB I B w) w pl sl hl) (q2 : Tr (JB I B w) w pr sr hr) (hB : B ≤ w.heap.size) (hz : sl.length + sr.length ≤ 1000000000000) (hh : hr + 1 < hl) :
    Calls Tryz.prog 385 #[.pointer pl, .agg #[.int .i64 e.1, .int .i64 e.2], .pointer pr] w (TrRes I B w (sl ++ e :: sr)) := by
  rcases q1.cases with ⟨-, -, rfl⟩ | ⟨b1, pll, plr, le, sll, slr, hll, hlr, rfl, -, hR1, tl, tr, rfl, -⟩
  · omega
  have hz1 : sll.length + slr.length + sr.length ≤ 1000000000000 := by simp only [List.length_append, List.length_cons] at hz; omega
  unfold tnode at hR1
  by_cases hc : hlr ≤ hll
  · have hc' : (hlr : Int) ≤ (hll : Int) := by omega
    go_enter Tryz.func385, Tryz.ntmps385
    go_upto_region 1 with fail
    generalize hW : World.alloc w _ = W
    have hb0 : Below w.heap.size w W := by rw [← hW]; exact below_alloc _ _
    have r4 : Row W w.heap.size 373 [.int .i64 e.1, .int .i64 e.2] := by rw [← hW]; exact Row.new' rfl
    have d0 := r4.cell_of (i := 0) rfl
    have d1 := r4.cell_of (i := 1) rfl
    have r1 := hR1.old hb0
    have c0 := r1.cell_of (i := 0) rfl
    have c1 := r1.cell_of (i := 1) rfl
    have c2 := r1.cell_of (i := 2) rfl
    have c3 := r1.cell_of (i := 3) rfl
    have HB0 := hide hb0
    have HL := hide (tl.later hb0)
    have HM := hide (tr.later hb0)
    have HR := hide (q2.later hb0)
    have hlt := r4.lt
    clear hW hb0 r4 r1 hR1 q1 q2 tl tr
    go_upto_region 2 with fail
    go_wp2_with fail
    refine (tall_w HL.out).mono ?_
    rintro e' w2 ⟨rfl, rfl⟩
    go_wp2_with fail
    refine (tall_w HM.out).mono ?_
    rintro e' w2 ⟨rfl, rfl⟩
    go_upto_region 3 with fail
    refine wp_region_held_drew (S := (fun w' => w'.cell? ⟨w.heap.size, 0, none⟩ = some (.int .i64 e.1) ∧ w'.cell? ⟨w.heap.size, 1, none⟩ = some (.int .i64 e.2) ∧ w'.cell? ⟨b1, 0, none⟩ = some (.int .i64 le.1) ∧ w'.cell? ⟨b1, 1, none⟩ = some (.int .i64 le.2) ∧ w'.cell? ⟨b1, 2, none⟩ = some (.pointer pll) ∧ Below w2.heap.size w2 w')) (by kernel_rfl) ?_ (fun hHeld => ?_)
    · exact ⟨d0, d1, c0, c1, c2, (Below.refl _ _).drew⟩
    refine tk1 0 ⟨some 20, .move (.tmp 0), 149, "tree.go:90", #[], none⟩ _ ?_
    (try go_frame)
    refine tk1 1 ⟨some 21, .nilCheck (.tmp 20), 0, "tree.go:90", #[⟨0, .data⟩], none⟩ _ ?_
    (try go_frame)
    refine tk1 2 ⟨some 22, .fieldAddr 375 (.tmp 21) 1, 0, "tree.go:90", #[⟨1, .data⟩], none⟩ _ ?_
    (try go_frame)
    refine tk1 3 ⟨some 23, .load 149 (.tmp 22), 149, "tree.go:90", #[⟨2, .data⟩], none⟩ _ ?_
    (try go_frame)
    refine tk1 4 ⟨some 24, .move (.tmp 0), 149, "tree.go:90", #[], none⟩ _ ?_
    (try go_frame)
    refine tk1 5 ⟨some 25, .nilCheck (.tmp 24), 0, "tree.go:90", #[⟨4, .data⟩], none⟩ _ ?_
    (try go_frame)
    refine tk1 6 ⟨some 26, .fieldAddr 375 (.tmp 25) 0, 0, "tree.go:90", #[⟨5, .data⟩], none⟩ _ ?_
    (try go_frame)
    refine tk1 7 ⟨some 27, .load 373 (.tmp 26), 373, "tree.go:90", #[⟨6, .data⟩], none⟩ _ ?_
    (try go_frame)
    refine tk1 8 ⟨some 28, .move (.tmp 7), 149, "tree.go:90", #[], none⟩ _ ?_
    (try go_frame)
    refine tk1 9 ⟨some 29, .load 373 (.tmp 4), 373, "tree.go:90", #[], none⟩ _ ?_
    (try go_frame)
    refine tk1 10 ⟨some 30, .move (.tmp 2), 149, "tree.go:90", #[], none⟩ _ ?_
    (try go_frame)
    refine wpAnyH_ready (rs := [11]) (by kernel_rfl) (by simp) ?_
    refine AllReadyH.cons (o := ⟨some 31, .call ⟨.value (.func 382), #[.tmp 28, .tmp 29, .tmp 30], #[149, 373, 149]⟩, 149, "tree.go:90", #[⟨8, .data⟩, ⟨9, .data⟩, ⟨10, .data⟩], none⟩) (by rfl) (fun K hK => ?_) AllReadyH.nil
    go_simp
    refine (joined_w (I := I) (B := B) (HM.out.later hHeld.2.2.2.2.2) (HR.out.later hHeld.2.2.2.2.2) (by have := hHeld.2.2.2.2.2.size; omega) (by omega)).mono ?_
    rintro e' w3 ⟨b3, rfl, t3, hb3⟩
    go_wp2_with fail
    refine hK.out _ _ ?_ (fun hHeld => ?_)
    · exact ⟨cell_later hb3 hHeld.1, cell_later hb3 hHeld.2.1, cell_later hb3 hHeld.2.2.1, cell_later hb3 hHeld.2.2.2.1, cell_later hb3 hHeld.2.2.2.2.1, Below.next hHeld.2.2.2.2.2 hb3 hHeld.2.2.2.2.2.size⟩
    clear hK K
    (try go_frame)
    refine wpAnyH_ready (rs := [12]) (by kernel_rfl) (by simp) ?_
    refine AllReadyH.cons (o := ⟨some 32, .call ⟨.value (.func 382), #[.tmp 23, .tmp 27, .tmp 31], #[149, 373, 149]⟩, 149, "tree.go:90", #[⟨3, .data⟩, ⟨7, .data⟩, ⟨11, .data⟩, ⟨11, .chain⟩], none⟩) (by rfl) (fun K hK => ?_) AllReadyH.nil
    go_simp
    refine (joined_w (I := I) (B := B) (HL.out.later hHeld.2.2.2.2.2) t3 (by have := hHeld.2.2.2.2.2.size; omega) (by simp only [List.length_append, List.length_cons]; omega)).mono ?_
    rintro e' w4 ⟨b4, rfl, t4, hb4⟩
    have HT := hide t4
    clear t4
    go_wp2_with fail
    refine hK.out _ _ ?_ (fun hHeld => ?_)
    · exact ⟨cell_later hb4 hHeld.1, cell_later hb4 hHeld.2.1, cell_later hb4 hHeld.2.2.1, cell_later hb4 hHeld.2.2.2.1, cell_later hb4 hHeld.2.2.2.2.1, Below.next hHeld.2.2.2.2.2 hb4 hHeld.2.2.2.2.2.size⟩
    clear hK K
    (try go_frame)
    refine tk1 13 ⟨some 6, .assign (.tmp 32), 149, "tree.go:90", #[⟨12, .data⟩, ⟨12, .chain⟩, ⟨0, .phase⟩, ⟨1, .phase⟩, ⟨2, .phase⟩, ⟨3, .phase⟩, ⟨4, .phase⟩, ⟨5, .phase⟩, ⟨6, .phase⟩, ⟨7, .phase⟩, ⟨8, .phase⟩, ⟨9, .phase⟩, ⟨10, .phase⟩, ⟨11, .phase⟩, ⟨12, .phase⟩], none⟩ _ ?_
    (try go_frame)
    refine wpAnyH_done (by kernel_rfl) ?_ _
    go_wp2_with fail
    go_ret
    exact ⟨_, _, rfl, by have := HT.out; simpa using this, Below.next HB0.out hHeld.2.2.2.2.2 HB0.out.size⟩
  · rcases tr.cases with ⟨-, -, rfl⟩ | ⟨b2, pml, pmr, me, sml, smr, hml, hmr, rfl, -, hR2, tml, tmr, rfl, -⟩
    · omega
    have hc' : ¬ (hlr : Int) ≤ (hll : Int) := by omega
    have hz2 : sll.length + sml.length + smr.length + sr.length ≤ 1000000000000 := by simp only [List.length_append, List.length_cons] at hz1; omega
    unfold tnode at hR2
    go_enter Tryz.func385, Tryz.ntmps385
    go_upto_region 1 with fail
    generalize hW : World.alloc w _ = W
    have hb0 : Below w.heap.size w W := by rw [← hW]; exact below_alloc _ _
    have r4 : Row W w.heap.size 373 [.int .i64 e.1, .int .i64 e.2] := by rw [← hW]; exact Row.new' rfl
    have d0 := r4.cell_of (i := 0) rfl
    have d1 := r4.cell_of (i := 1) rfl
    have r1 := hR1.old hb0
    have c0 := r1.cell_of (i := 0) rfl
    have c1 := r1.cell_of (i := 1) rfl
    have c2 := r1.cell_of (i := 2) rfl
    have c3 := r1.cell_of (i := 3) rfl
    have r2 := hR2.old hb0
    have m0 := r2.cell_of (i := 0) rfl
    have m1 := r2.cell_of (i := 1) rfl
    have m2 := r2.cell_of (i := 2) rfl
    have m3 := r2.cell_of (i := 3) rfl
    have HB0 := hide hb0
    have HL := hide (tl.later hb0)
    have HM := hide (tr.later hb0)
    have HML := hide (tml.later hb0)
    have HMR := hide (tmr.later hb0)
    have HR := hide (q2.later hb0)
    have hlt := r4.lt
    clear hW hb0 r4 r1 r2 hR1 hR2 q1 q2 tl tr tml tmr
    go_upto_region 2 with fail
    go_wp2_with fail
    refine (tall_w HL.out).mono ?_
    rintro e' w2 ⟨rfl, rfl⟩
    go_wp2_with fail
    refine (tall_w HM.out).mono ?_
    rintro e' w2 ⟨rfl, rfl⟩
    go_upto_region 4 with fail
    refine wp_region_held_drew (S := (fun w' => Below w2.heap.size w2 w' ∧ w'.cell? ⟨w.heap.size, 0, none⟩ = some (.int .i64 e.1) ∧ w'.cell? ⟨w.heap.size, 1, none⟩ = some (.int .i64 e.2) ∧ w'.cell? ⟨b1, 0, none⟩ = some (.int .i64 le.1) ∧ w'.cell? ⟨b1, 1, none⟩ = some (.int .i64 le.2) ∧ w'.cell? ⟨b1, 2, none⟩ = some (.pointer pll) ∧ w'.cell? ⟨b2, 0, none⟩ = some (.int .i64 me.1) ∧ w'.cell? ⟨b2, 1, none⟩ = some (.int .i64 me.2) ∧ w'.cell? ⟨b2, 2, none⟩ = some (.pointer pml) ∧ w'.cell? ⟨b2, 3, none⟩ = some (.pointer pmr))) (by kernel_rfl) ?_ (fun hHeld => ?_)
    · exact ⟨(Below.refl _ _).drew, d0, d1, c0, c1, c2, m0, m1, m2, m3⟩
    refine tk1 0 ⟨some 33, .move (.tmp 0), 149, "tree.go:92", #[], none⟩ _ ?_
    (try go_frame)
    refine tk1 1 ⟨some 34, .nilCheck (.tmp 33), 0, "tree.go:92", #[⟨0, .data⟩], none⟩ _ ?_
    (try go_frame)
    refine tk1 2 ⟨some 35, .fieldAddr 375 (.tmp 34) 1, 0, "tree.go:92", #[⟨1, .data⟩], none⟩ _ ?_
    (try go_frame)
    refine tk1 3 ⟨some 36, .load 149 (.tmp 35), 149, "tree.go:92", #[⟨2, .data⟩], none⟩ _ ?_
    (try go_frame)
    refine tk1 4 ⟨some 37, .move (.tmp 0), 149, "tree.go:92", #[], none⟩ _ ?_
    (try go_frame)
    refine tk1 5 ⟨some 38, .nilCheck (.tmp 37), 0, "tree.go:92", #[⟨4, .data⟩], none⟩ _ ?_
    (try go_frame)
    refine tk1 6 ⟨some 39, .fieldAddr 375 (.tmp 38) 0, 0, "tree.go:92", #[⟨5, .data⟩], none⟩ _ ?_
    (try go_frame)
    refine tk1 7 ⟨some 40, .load 373 (.tmp 39), 373, "tree.go:92", #[⟨6, .data⟩], none⟩ _ ?_
    (try go_frame)
    refine tk1 8 ⟨some 41, .move (.tmp 7), 149, "tree.go:92", #[], none⟩ _ ?_
    (try go_frame)
    refine tk1 9 ⟨some 42, .nilCheck (.tmp 41), 0, "tree.go:92", #[⟨8, .data⟩], none⟩ _ ?_
    (try go_frame)
    refine tk1 10 ⟨some 43, .fieldAddr 375 (.tmp 42) 1, 0, "tree.go:92", #[⟨9, .data⟩], none⟩ _ ?_
    (try go_frame)
    refine tk1 11 ⟨some 44, .load 149 (.tmp 43), 149, "tree.go:92", #[⟨10, .data⟩], none⟩ _ ?_
    (try go_frame)
    refine tk1 13 ⟨some 46, .move (.tmp 7), 149, "tree.go:92", #[], none⟩ _ ?_
    (try go_frame)
    refine tk1 14 ⟨some 47, .nilCheck (.tmp 46), 0, "tree.go:92", #[⟨13, .data⟩], none⟩ _ ?_
    (try go_frame)
    refine tk1 15 ⟨some 48, .fieldAddr 375 (.tmp 47) 0, 0, "tree.go:92", #[⟨14, .data⟩], none⟩ _ ?_
    (try go_frame)
    refine tk1 16 ⟨some 49, .load 373 (.tmp 48), 373, "tree.go:92", #[⟨15, .data⟩], none⟩ _ ?_
    (try go_frame)
    refine tk1 17 ⟨some 50, .move (.tmp 7), 149, "tree.go:92", #[], none⟩ _ ?_
    (try go_frame)
    refine tk1 18 ⟨some 51, .nilCheck (.tmp 50), 0, "tree.go:92", #[⟨17, .data⟩], none⟩ _ ?_
    (try go_frame)
    refine tk1 19 ⟨some 52, .fieldAddr 375 (.tmp 51) 2, 0, "tree.go:92", #[⟨18, .data⟩], none⟩ _ ?_
    (try go_frame)
    refine tk1 20 ⟨some 53, .load 149 (.tmp 52), 149, "tree.go:92", #[⟨19, .data⟩], none⟩ _ ?_
    (try go_frame)
    refine tk1 21 ⟨some 54, .load 373 (.tmp 4), 373, "tree.go:92", #[], none⟩ _ ?_
    (try go_frame)
    refine tk1 22 ⟨some 55, .move (.tmp 2), 149, "tree.go:92", #[], none⟩ _ ?_
    (try go_frame)
    refine wpAnyH_ready (rs := [12]) (by kernel_rfl) (by simp) ?_
    refine AllReadyH.cons (o := ⟨some 45, .call ⟨.value (.func 382), #[.tmp 36, .tmp 40, .tmp 44], #[149, 373, 149]⟩, 149, "tree.go:92", #[⟨3, .data⟩, ⟨7, .data⟩, ⟨11, .data⟩], none⟩) (by rfl) (fun K hK => ?_) AllReadyH.nil
    go_simp
    refine (joined_w (I := I) (B := B) (HL.out.later hHeld.1) (HML.out.later hHeld.1) (by have := hHeld.1.size; omega) (by omega)).mono ?_
    rintro e' w5 ⟨b5, rfl, t5, hb5⟩
    go_wp2_with fail
    refine hK.out _ _ ?_ (fun hHeld => ?_)
    · exact keepT9 hb5 hHeld
    clear hK K
    (try go_frame)
    refine wpAnyH_ready (rs := [23]) (by kernel_rfl) (by simp) ?_
    refine AllReadyH.cons (o := ⟨some 56, .call ⟨.value (.func 382), #[.tmp 53, .tmp 54, .tmp 55], #[149, 373, 149]⟩, 149, "tree.go:92", #[⟨20, .data⟩, ⟨21, .data⟩, ⟨22, .data⟩, ⟨12, .chain⟩], none⟩) (by rfl) (fun K hK => ?_) AllReadyH.nil
    go_simp
    refine (joined_w (I := I) (B := B) (HMR.out.later hHeld.1) (HR.out.later hHeld.1) (by have := hHeld.1.size; omega) (by omega)).mono ?_
    rintro e' w6 ⟨b6, rfl, t6, hb6⟩
    go_wp2_with fail
    refine hK.out _ _ ?_ (fun hHeld => ?_)
    · exact keepT9 hb6 hHeld
    clear hK K
    (try go_frame)
    refine wpAnyH_ready (rs := [24]) (by kernel_rfl) (by simp) ?_
    refine AllReadyH.cons (o := ⟨some 57, .call ⟨.value (.func 382), #[.tmp 45, .tmp 49, .tmp 56], #[149, 373, 149]⟩, 149, "tree.go:92", #[⟨12, .data⟩, ⟨16, .data⟩, ⟨23, .data⟩, ⟨23, .chain⟩], none⟩) (by rfl) (fun K hK => ?_) AllReadyH.nil
    go_simp
    refine (joined_w (I := I) (B := B) (by first | exact t5 | exact t5.later hb6) (by first | exact t6 | exact t6.later hb5) (by have := hHeld.1.size; omega) (by simp only [List.length_append, List.length_cons]; omega)).mono ?_
    rintro e' w7 ⟨b7, rfl, t7, hb7⟩
    have HT := hide t7
    clear t7
    go_wp2_with fail
    refine hK.out _ _ ?_ (fun hHeld => ?_)
    · exact keepT9 hb7 hHeld
    clear hK K
    (try go_frame)
    refine tk1 25 ⟨some 6, .assign (.tmp 57), 149, "tree.go:92", #[⟨24, .data⟩, ⟨24, .chain⟩, ⟨0, .phase⟩, ⟨1, .phase⟩, ⟨2, .phase⟩, ⟨3, .phase⟩, ⟨4, .phase⟩, ⟨5, .phase⟩, ⟨6, .phase⟩, ⟨7, .phase⟩, ⟨8, .phase⟩, ⟨9, .phase⟩, ⟨10, .phase⟩, ⟨11, .phase⟩, ⟨12, .phase⟩, ⟨13, .phase⟩, ⟨14, .phase⟩, ⟨15, .phase⟩, ⟨16, .phase⟩, ⟨17, .phase⟩, ⟨18, .phase⟩, ⟨19, .phase⟩, ⟨20, .phase⟩, ⟨21, .phase⟩, ⟨22, .phase⟩, ⟨23, .phase⟩, ⟨24, .phase⟩], none⟩ _ ?_
    (try go_frame)
    refine wpAnyH_done (by kernel_rfl) ?_ _
    go_wp2_with fail
    go_ret
    exact ⟨_, _, rfl, by have := HT.out; simpa using this, Below.next HB0.out hHeld.1 HB0.out.size⟩
end
end Go.Proofs.YtefjhnhdagolhaaGreat
namespace Go.Proofs.YtefjhnhdagolhaaGreat
open Go.RowKit
attribute [local go_sem ↓] Go.wp_at_zero Go.wp_at_succ
section
variable {I : Nat → Prop} {B : Nat} {w w' : World} {p pl pr : Option Addr} {s sl sr : Prs} {h hl hr : Nat} {e : Int × Int}
set_option maxRecDepth 20000 in
set_option maxHeartbeats 2000000 in
theorem turnedLeft_w (q1 : Tr (JB I B w) w pl sl hl) (q2 : Tr (JB I B w) w pr sr hr) (hB : B ≤ w.heap.size) (hz : sl.length + sr.length ≤ 1000000000000) (hh : hl + 1 < hr) :
    Calls Tryz.prog 386 #[.pointer pl, .agg #[.int .i64 e.1, .int .i64 e.2], .pointer pr] w (TrRes I B w (sl ++ e :: sr)) := by
  rcases q2.cases with ⟨-, -, rfl⟩ | ⟨b1, prl, prr, re, srl, srr, hrl, hrr, rfl, -, hR1, tl, tr, rfl, -⟩
  · omega
  have hz1 : sl.length + srl.length + srr.length ≤ 1000000000000 := by simp only [List.length_append, List.length_cons] at hz; omega
  unfold tnode at hR1
  by_cases hc : hrl ≤ hrr
  · have hc' : (hrl : Int) ≤ (hrr : Int) := by omega
    go_enter Tryz.func386, Tryz.ntmps386
    go_upto_region 1 with fail
    generalize hW : World.alloc w _ = W
    have hb0 : Below w.heap.size w W := by rw [← hW]; exact below_alloc _ _
    have r4 : Row W w.heap.size 373 [.int .i64 e.1, .int .i64 e.2] := by rw [← hW]; exact Row.new' rfl
    have d0 := r4.cell_of (i := 0) rfl
    have d1 := r4.cell_of (i := 1) rfl
    have r1 := hR1.old hb0
    have c0 := r1.cell_of (i := 0) rfl
    have c1 := r1.cell_of (i := 1) rfl
    have c2 := r1.cell_of (i := 2) rfl
    have c3 := r1.cell_of (i := 3) rfl
    have HB0 := hide hb0
    have HL := hide (q1.later hb0)
    have HM := hide (tl.later hb0)
    have HR := hide (tr.later hb0)
    have hlt := r4.lt
    clear hW hb0 r4 r1 hR1 q1 q2 tl tr
    go_upto_region 2 with fail
    go_wp2_with fail
    refine (tall_w HR.out).mono ?_
    rintro e' w2 ⟨rfl, rfl⟩
    go_wp2_with fail
    refine (tall_w HM.out).mono ?_
    rintro e' w2 ⟨rfl, rfl⟩
    go_upto_region 3 with fail
    refine wp_region_held_drew (S := (fun w' => w'.cell? ⟨w.heap.size, 0, none⟩ = some (.int .i64 e.1) ∧ w'.cell? ⟨w.heap.size, 1, none⟩ = some (.int .i64 e.2) ∧ w'.cell? ⟨b1, 0, none⟩ = some (.int .i64 re.1) ∧ w'.cell? ⟨b1, 1, none⟩ = some (.int .i64 re.2) ∧ w'.cell? ⟨b1, 3, none⟩ = some (.pointer prr) ∧ Below w2.heap.size w2 w')) (by kernel_rfl) ?_ (fun hHeld => ?_)
    · exact ⟨d0, d1, c0, c1, c3, (Below.refl _ _).drew⟩
    refine tk1 0 ⟨some 20, .move (.tmp 0), 149, "tree.go:99", #[], none⟩ _ ?_
    (try go_frame)
    refine tk1 1 ⟨some 21, .load 373 (.tmp 4), 373, "tree.go:99", #[], none⟩ _ ?_
    (try go_frame)
    refine tk1 2 ⟨some 22, .move (.tmp 7), 149, "tree.go:99", #[], none⟩ _ ?_
    (try go_frame)
    refine tk1 4 ⟨some 24, .move (.tmp 2), 149, "tree.go:99", #[], none⟩ _ ?_
    (try go_frame)
    refine tk1 5 ⟨some 25, .nilCheck (.tmp 24), 0, "tree.go:99", #[⟨4, .data⟩], none⟩ _ ?_
    (try go_frame)
    refine tk1 6 ⟨some 26, .fieldAddr 375 (.tmp 25) 0, 0, "tree.go:99", #[⟨5, .data⟩], none⟩ _ ?_
    (try go_frame)
    refine tk1 7 ⟨some 27, .load 373 (.tmp 26), 373, "tree.go:99", #[⟨6, .data⟩], none⟩ _ ?_
    (try go_frame)
    refine tk1 8 ⟨some 28, .move (.tmp 2), 149, "tree.go:99", #[], none⟩ _ ?_
    (try go_frame)
    refine tk1 9 ⟨some 29, .nilCheck (.tmp 28), 0, "tree.go:99", #[⟨8, .data⟩], none⟩ _ ?_
    (try go_frame)
    refine tk1 10 ⟨some 30, .fieldAddr 375 (.tmp 29) 2, 0, "tree.go:99", #[⟨9, .data⟩], none⟩ _ ?_
    (try go_frame)
    refine tk1 11 ⟨some 31, .load 149 (.tmp 30), 149, "tree.go:99", #[⟨10, .data⟩], none⟩ _ ?_
    (try go_frame)
    refine wpAnyH_ready (rs := [3]) (by kernel_rfl) (by simp) ?_
    refine AllReadyH.cons (o := ⟨some 23, .call ⟨.value (.func 382), #[.tmp 20, .tmp 21, .tmp 22], #[149, 373, 149]⟩, 149, "tree.go:99", #[⟨0, .data⟩, ⟨1, .data⟩, ⟨2, .data⟩], none⟩) (by rfl) (fun K hK => ?_) AllReadyH.nil
    go_simp
    refine (joined_w (I := I) (B := B) (HL.out.later hHeld.2.2.2.2.2) (HM.out.later hHeld.2.2.2.2.2) (by have := hHeld.2.2.2.2.2.size; omega) (by omega)).mono ?_
    rintro e' w3 ⟨b3, rfl, t3, hb3⟩
    go_wp2_with fail
    refine hK.out _ _ ?_ (fun hHeld => ?_)
    · exact ⟨cell_later hb3 hHeld.1, cell_later hb3 hHeld.2.1, cell_later hb3 hHeld.2.2.1, cell_later hb3 hHeld.2.2.2.1, cell_later hb3 hHeld.2.2.2.2.1, Below.next hHeld.2.2.2.2.2 hb3 hHeld.2.2.2.2.2.size⟩
    clear hK K
    (try go_frame)
    refine wpAnyH_ready (rs := [12]) (by kernel_rfl) (by simp) ?_
    refine AllReadyH.cons (o := ⟨some 32, .call ⟨.value (.func 382), #[.tmp 23, .tmp 27, .tmp 31], #[149, 373, 149]⟩, 149, "tree.go:99", #[⟨3, .data⟩, ⟨7, .data⟩, ⟨11, .data⟩, ⟨3, .chain⟩], none⟩) (by rfl) (fun K hK => ?_) AllReadyH.nil
    go_simp
    refine (joined_w (I := I) (B := B) t3 (HR.out.later hHeld.2.2.2.2.2) (by have := hHeld.2.2.2.2.2.size; omega) (by simp only [List.length_append, List.length_cons]; omega)).mono ?_
    rintro e' w4 ⟨b4, rfl, t4, hb4⟩
    have HT := hide t4
    clear t4
    go_wp2_with fail
    refine hK.out _ _ ?_ (fun hHeld => ?_)
    · exact ⟨cell_later hb4 hHeld.1, cell_later hb4 hHeld.2.1, cell_later hb4 hHeld.2.2.1, cell_later hb4 hHeld.2.2.2.1, cell_later hb4 hHeld.2.2.2.2.1, Below.next hHeld.2.2.2.2.2 hb4 hHeld.2.2.2.2.2.size⟩
    clear hK K
    (try go_frame)
    refine tk1 13 ⟨some 6, .assign (.tmp 32), 149, "tree.go:99", #[⟨12, .data⟩, ⟨12, .chain⟩, ⟨0, .phase⟩, ⟨1, .phase⟩, ⟨2, .phase⟩, ⟨3, .phase⟩, ⟨4, .phase⟩, ⟨5, .phase⟩, ⟨6, .phase⟩, ⟨7, .phase⟩, ⟨8, .phase⟩, ⟨9, .phase⟩, ⟨10, .phase⟩, ⟨11, .phase⟩, ⟨12, .phase⟩], none⟩ _ ?_
    (try go_frame)
    refine wpAnyH_done (by kernel_rfl) ?_ _
    go_wp2_with fail
    go_ret
    exact ⟨_, _, rfl, by have := HT.out; simpa using this, Below.next HB0.out hHeld.2.2.2.2.2 HB0.out.size⟩
  · rcases tl.cases with ⟨-, -, rfl⟩ | ⟨b2, pml, pmr, me, sml, smr, hml, hmr, rfl, -, hR2, tml, tmr, rfl, -⟩
    · omega
    have hc' : ¬ (hrl : Int) ≤ (hrr : Int) := by omega
    have hz2 : sl.length + sml.length + smr.length + srr.length ≤ 1000000000000 := by simp only [List.length_append, List.length_cons] at hz1; omega
    unfold tnode at hR2
    go_enter Tryz.func386, Tryz.ntmps386
    go_upto_region 1 with fail
    generalize hW : World.alloc w _ = W
    have hb0 : Below w.heap.size w W := by rw [← hW]; exact below_alloc _ _
    have r4 : Row W w.heap.size 373 [.int .i64 e.1, .int .i64 e.2] := by rw [← hW]; exact Row.new' rfl
    have d0 := r4.cell_of (i := 0) rfl
    have d1 := r4.cell_of (i := 1) rfl
    have r1 := hR1.old hb0
    have c0 := r1.cell_of (i := 0) rfl
    have c1 := r1.cell_of (i := 1) rfl
    have c2 := r1.cell_of (i := 2) rfl
    have c3 := r1.cell_of (i := 3) rfl
    have r2 := hR2.old hb0
    have m0 := r2.cell_of (i := 0) rfl
    have m1 := r2.cell_of (i := 1) rfl
    have m2 := r2.cell_of (i := 2) rfl
    have m3 := r2.cell_of (i := 3) rfl
    have HB0 := hide hb0
    have HL := hide (q1.later hb0)
    have HM := hide (tl.later hb0)
    have HML := hide (tml.later hb0)
    have HMR := hide (tmr.later hb0)
    have HR := hide (tr.later hb0)
    have hlt := r4.lt
    clear hW hb0 r4 r1 r2 hR1 hR2 q1 q2 tl tr tml tmr
    go_upto_region 2 with fail
    go_wp2_with fail
    refine (tall_w HR.out).mono ?_
    rintro e' w2 ⟨rfl, rfl⟩
    go_wp2_with fail
    refine (tall_w HM.out).mono ?_
    rintro e' w2 ⟨rfl, rfl⟩
    go_upto_region 4 with fail
    refine wp_region_held_drew (S := (fun w' => Below w2.heap.size w2 w' ∧ w'.cell? ⟨w.heap.size, 0, none⟩ = some (.int .i64 e.1) ∧ w'.cell? ⟨w.heap.size, 1, none⟩ = some (.int .i64 e.2) ∧ w'.cell? ⟨b1, 0, none⟩ = some (.int .i64 re.1) ∧ w'.cell? ⟨b1, 1, none⟩ = some (.int .i64 re.2) ∧ w'.cell? ⟨b1, 3, none⟩ = some (.pointer prr) ∧ w'.cell? ⟨b2, 0, none⟩ = some (.int .i64 me.1) ∧ w'.cell? ⟨b2, 1, none⟩ = some (.int .i64 me.2) ∧ w'.cell? ⟨b2, 2, none⟩ = some (.pointer pml) ∧ w'.cell? ⟨b2, 3, none⟩ = some (.pointer pmr))) (by kernel_rfl) ?_ (fun hHeld => ?_)
    · exact ⟨(Below.refl _ _).drew, d0, d1, c0, c1, c3, m0, m1, m2, m3⟩
    refine tk1 0 ⟨some 33, .move (.tmp 0), 149, "tree.go:101", #[], none⟩ _ ?_
    (try go_frame)
    refine tk1 1 ⟨some 34, .load 373 (.tmp 4), 373, "tree.go:101", #[], none⟩ _ ?_
    (try go_frame)
    refine tk1 2 ⟨some 35, .move (.tmp 7), 149, "tree.go:101", #[], none⟩ _ ?_
    (try go_frame)
    refine tk1 3 ⟨some 36, .nilCheck (.tmp 35), 0, "tree.go:101", #[⟨2, .data⟩], none⟩ _ ?_
    (try go_frame)
    refine tk1 4 ⟨some 37, .fieldAddr 375 (.tmp 36) 1, 0, "tree.go:101", #[⟨3, .data⟩], none⟩ _ ?_
    (try go_frame)
    refine tk1 5 ⟨some 38, .load 149 (.tmp 37), 149, "tree.go:101", #[⟨4, .data⟩], none⟩ _ ?_
    (try go_frame)
    refine tk1 7 ⟨some 40, .move (.tmp 7), 149, "tree.go:101", #[], none⟩ _ ?_
    (try go_frame)
    refine tk1 8 ⟨some 41, .nilCheck (.tmp 40), 0, "tree.go:101", #[⟨7, .data⟩], none⟩ _ ?_
    (try go_frame)
    refine tk1 9 ⟨some 42, .fieldAddr 375 (.tmp 41) 0, 0, "tree.go:101", #[⟨8, .data⟩], none⟩ _ ?_
    (try go_frame)
    refine tk1 10 ⟨some 43, .load 373 (.tmp 42), 373, "tree.go:101", #[⟨9, .data⟩], none⟩ _ ?_
    (try go_frame)
    refine tk1 11 ⟨some 44, .move (.tmp 7), 149, "tree.go:101", #[], none⟩ _ ?_
    (try go_frame)
    refine tk1 12 ⟨some 45, .nilCheck (.tmp 44), 0, "tree.go:101", #[⟨11, .data⟩], none⟩ _ ?_
    (try go_frame)
    refine tk1 13 ⟨some 46, .fieldAddr 375 (.tmp 45) 2, 0, "tree.go:101", #[⟨12, .data⟩], none⟩ _ ?_
    (try go_frame)
    refine tk1 14 ⟨some 47, .load 149 (.tmp 46), 149, "tree.go:101", #[⟨13, .data⟩], none⟩ _ ?_
    (try go_frame)
    refine tk1 15 ⟨some 48, .move (.tmp 2), 149, "tree.go:101", #[], none⟩ _ ?_
    (try go_frame)
    refine tk1 16 ⟨some 49, .nilCheck (.tmp 48), 0, "tree.go:101", #[⟨15, .data⟩], none⟩ _ ?_
    (try go_frame)
    refine tk1 17 ⟨some 50, .fieldAddr 375 (.tmp 49) 0, 0, "tree.go:101", #[⟨16, .data⟩], none⟩ _ ?_
    (try go_frame)
    refine tk1 18 ⟨some 51, .load 373 (.tmp 50), 373, "tree.go:101", #[⟨17, .data⟩], none⟩ _ ?_
    (try go_frame)
    refine tk1 19 ⟨some 52, .move (.tmp 2), 149, "tree.go:101", #[], none⟩ _ ?_
    (try go_frame)
    refine tk1 20 ⟨some 53, .nilCheck (.tmp 52), 0, "tree.go:101", #[⟨19, .data⟩], none⟩ _ ?_
    (try go_frame)
    refine tk1 21 ⟨some 54, .fieldAddr 375 (.tmp 53) 2, 0, "tree.go:101", #[⟨20, .data⟩], none⟩ _ ?_
    (try go_frame)
    refine tk1 22 ⟨some 55, .load 149 (.tmp 54), 149, "tree.go:101", #[⟨21, .data⟩], none⟩ _ ?_
    (try go_frame)
    refine wpAnyH_ready (rs := [6]) (by kernel_rfl) (by simp) ?_
    refine AllReadyH.cons (o := ⟨some 39, .call ⟨.value (.func 382), #[.tmp 33, .tmp 34, .tmp 38], #[149, 373, 149]⟩, 149, "tree.go:101", #[⟨0, .data⟩, ⟨1, .data⟩, ⟨5, .data⟩], none⟩) (by rfl) (fun K hK => ?_) AllReadyH.nil
    go_simp
    refine (joined_w (I := I) (B := B) (HL.out.later hHeld.1) (HML.out.later hHeld.1) (by have := hHeld.1.size; omega) (by omega)).mono ?_
    rintro e' w5 ⟨b5, rfl, t5, hb5⟩
    go_wp2_with fail
    refine hK.out _ _ ?_ (fun hHeld => ?_)
    · exact keepT9 hb5 hHeld
    clear hK K
    (try go_frame)
    refine wpAnyH_ready (rs := [23]) (by kernel_rfl) (by simp) ?_
    refine AllReadyH.cons (o := ⟨some 56, .call ⟨.value (.func 382), #[.tmp 47, .tmp 51, .tmp 55], #[149, 373, 149]⟩, 149, "tree.go:101", #[⟨14, .data⟩, ⟨18, .data⟩, ⟨22, .data⟩, ⟨6, .chain⟩], none⟩) (by rfl) (fun K hK => ?_) AllReadyH.nil
    go_simp
    refine (joined_w (I := I) (B := B) (HMR.out.later hHeld.1) (HR.out.later hHeld.1) (by have := hHeld.1.size; omega) (by omega)).mono ?_
    rintro e' w6 ⟨b6, rfl, t6, hb6⟩
    go_wp2_with fail
    refine hK.out _ _ ?_ (fun hHeld => ?_)
    · exact keepT9 hb6 hHeld
    clear hK K
    (try go_frame)
    refine wpAnyH_ready (rs := [24]) (by kernel_rfl) (by simp) ?_
    refine AllReadyH.cons (o := ⟨some 57, .call ⟨.value (.func 382), #[.tmp 39, .tmp 43, .tmp 56], #[149, 373, 149]⟩, 149, "tree.go:101", #[⟨6, .data⟩, ⟨10, .data⟩, ⟨23, .data⟩, ⟨23, .chain⟩], none⟩) (by rfl) (fun K hK => ?_) AllReadyH.nil
    go_simp
    refine (joined_w (I := I) (B := B) (by first | exact t5 | exact t5.later hb6) (by first | exact t6 | exact t6.later hb5) (by have := hHeld.1.size; omega) (by simp only [List.length_append, List.length_cons]; omega)).mono ?_
    rintro e' w7 ⟨b7, rfl, t7, hb7⟩
    have HT := hide t7
    clear t7
    go_wp2_with fail
    refine hK.out _ _ ?_ (fun hHeld => ?_)
    · exact keepT9 hb7 hHeld
    clear hK K
    (try go_frame)
    refine tk1 25 ⟨some 6, .assign (.tmp 57), 149, "tree.go:101", #[⟨24, .data⟩, ⟨24, .chain⟩, ⟨0, .phase⟩, ⟨1, .phase⟩, ⟨2, .phase⟩, ⟨3, .phase⟩, ⟨4, .phase⟩, ⟨5, .phase⟩, ⟨6, .phase⟩, ⟨7, .phase⟩, ⟨8, .phase⟩, ⟨9, .phase⟩, ⟨10, .phase⟩, ⟨11, .phase⟩, ⟨12, .phase⟩, ⟨13, .phase⟩, ⟨14, .phase⟩, ⟨15, .phase⟩, ⟨16, .phase⟩, ⟨17, .phase⟩, ⟨18, .phase⟩, ⟨19, .phase⟩, ⟨20, .phase⟩, ⟨21, .phase⟩, ⟨22, .phase⟩, ⟨23, .phase⟩, ⟨24, .phase⟩], none⟩ _ ?_
    (try go_frame)
    refine wpAnyH_done (by kernel_rfl) ?_ _
    go_wp2_with fail
    go_ret
    exact ⟨_, _, rfl, by have := HT.out; simpa using this, Below.next HB0.out hHeld.1 HB0.out.size⟩
set_option maxRecDepth 20000 in
set_option maxHeartbeats 2000000 in
theorem balanced_w (q1 : Tr (JB I B w) w pl sl hl) (q2 : Tr (JB I B w) w pr sr hr) (hB : B ≤ w.heap.size) (hz : sl.length + sr.length ≤ 1000000000000) :
    Calls Tryz.prog 383 #[.pointer pl, .agg #[.int .i64 e.1, .int .i64 e.2], .pointer pr] w (TrRes I B w (sl ++ e :: sr)) := by
  have l1 := q1.len
  have l2 := q2.len
  have wr1 : IntKind.i64.wrap ((hr : Int) + 1) = (hr : Int) + 1 := wrapi _ (by omega) (by omega)
  have wl1 : IntKind.i64.wrap ((hl : Int) + 1) = (hl : Int) + 1 := wrapi _ (by omega) (by omega)
  go_enter Tryz.func383, Tryz.ntmps383
  go_upto_region 1 with fail
  generalize hW : World.alloc w _ = W
  have hb0 : Below w.heap.size w W := by rw [← hW]; exact below_alloc _ _
  have r4 : Row W w.heap.size 373 [.int .i64 e.1, .int .i64 e.2] := by rw [← hW]; exact Row.new' rfl
  have d0 := r4.cell_of (i := 0) rfl
  have d1 := r4.cell_of (i := 1) rfl
  have HB0 := hide hb0
  have HL := hide (q1.later hb0)
  have HR := hide (q2.later hb0)
  have hlt := r4.lt
  clear hW hb0 r4 q1 q2
  go_wp2_with fail
  refine (tall_w HL.out).mono ?_
  rintro e' w2 ⟨rfl, rfl⟩
  go_wp2_with fail
  refine (tall_w HR.out).mono ?_
  rintro e' w2 ⟨rfl, rfl⟩
  by_cases c1 : hr + 1 < hl
  · have c1' : (hr : Int) + 1 < (hl : Int) := by omega
    go_wp2_with fail
    refine (turnedRight_w (I := I) (B := B) HL.out HR.out (by omega) hz c1).mono ?_
    rintro e' w3 ⟨p3, h3, rfl, t3, hb3⟩
    have HT := hide t3
    have HB3 := hide hb3
    clear t3 hb3
    go_wp2_with fail
    go_ret
    exact ⟨_, _, rfl, HT.out, Below.next HB0.out HB3.out HB0.out.size⟩
  · have c1' : ¬ (hr : Int) + 1 < (hl : Int) := by omega
    go_wp2_with fail
    refine (tall_w HR.out).mono ?_
    rintro e' w2 ⟨rfl, rfl⟩
    go_wp2_with fail
    refine (tall_w HL.out).mono ?_
    rintro e' w2 ⟨rfl, rfl⟩
    by_cases c2 : hl + 1 < hr
    · have c2' : (hl : Int) + 1 < (hr : Int) := by omega
      go_wp2_with fail
      refine (turnedLeft_w (I := I) (B := B) HL.out HR.out (by omega) hz c2).mono ?_
      rintro e' w3 ⟨p3, h3, rfl, t3, hb3⟩
      have HT := hide t3
      have HB3 := hide hb3
      clear t3 hb3
      go_wp2_with fail
      go_ret
      exact ⟨_, _, rfl, HT.out, Below.next HB0.out HB3.out HB0.out.size⟩
    · have c2' : ¬ (hl : Int) + 1 < (hr : Int) := by omega
      go_wp2_with fail
      refine (joined_w (I := I) (B := B) HL.out HR.out (by omega) (by omega)).mono ?_
      rintro e' w3 ⟨p3, rfl, t3, hb3⟩
      have HT := hide t3
      have HB3 := hide hb3
      clear t3 hb3
      go_wp2_with fail
      go_ret
      exact ⟨_, _, rfl, HT.out, Below.next HB0.out HB3.out HB0.out.size⟩
end
end Go.Proofs.YtefjhnhdagolhaaGreat
