import Derived.Test.YtefjhnhdagolhaaGreatQ44
import Derived.Test.YtefjhnhdagolhaaGreatQ13
import Derived.Test.YtefjhnhdagolhaaGreatQ20
import Derived.Deep.AppendLies
namespace Go.Proofs.YtefjhnhdagolhaaGreat
open Go.RowKit
attribute [local go_sem ↓] Go.wp_at_zero Go.wp_at_succ
theorem keepT4 {w0 w w' : World} {a1 a2 a3 a4 : Addr} {v1 v2 v3 v4 : Value} (hb : Below w.heap.size w w')
    (h : Below w0.heap.size w0 w ∧ w.cell? a1 = some v1 ∧ w.cell? a2 = some v2 ∧ w.cell? a3 = some v3 ∧ w.cell? a4 = some v4) :
    Below w0.heap.size w0 w' ∧ w'.cell? a1 = some v1 ∧ w'.cell? a2 = some v2 ∧ w'.cell? a3 = some v3 ∧ w'.cell? a4 = some v4 :=
  let ⟨h0, h1, h2, h3, h4⟩ := h
  ⟨Below.next h0 hb h0.size, cell_later hb h1, cell_later hb h2, cell_later hb h3, cell_later hb h4⟩
theorem del_first {e : Int × Int} {s : Prs} (h : Asc (e :: s)) : mdel (e :: s) e.1 = s := del_mid (l := []) (e := e) h rfl
theorem del_len (s : Prs) (a : Int) : (mdel s a).length ≤ s.length := List.length_filter_le _ _
section
variable {I : Nat → Prop} {B : Nat}
set_option maxRecDepth 20000 in
set_option maxHeartbeats 4000000 in
theorem without_at : ∀ (d : Nat) (a : Int) (w : World) (p : Option Addr) (s : Prs) (h : Nat), TrAt (JB I B w) w d p s h → Asc s → (mget s a).isSome → B ≤ w.heap.size → s.length ≤ 500000000000 →
    Calls Tryz.prog 379 #[.pointer p, .int .i64 a] w (TrRes I B w (mdel s a))
  | 0, a, w, p, s, h, q, hs, hm, hB, hz => by
    obtain ⟨rfl, rfl, -⟩ := q
    exact absurd hm (by simp [mget])
  | d + 1, a, w, p, s, h, q, hs, hm, hB, hz => by
    have IH := hide (without_at d)
    rcases q with ⟨rfl, rfl, -⟩ | ⟨b1, pl, pr, e, sl, sr, hl, hr, rfl, -, hR1, tl, tr, rfl, -⟩
    · exact absurd hm (by simp [mget])
    have hzl : sl.length + sr.length + 1 ≤ 500000000000 := by simp only [List.length_append, List.length_cons] at hz; omega
    obtain ⟨as1, as2, -, -⟩ := asc_mid.mp hs
    have ln1 := del_len sl a
    have ln2 := del_len sr a
    have HAs := hide hs
    have HA1 := hide as1
    have HA2 := hide as2
    have HM := hide hm
    clear hs as1 as2 hz hm
    unfold tnode at hR1
    have c0 := hR1.cell_of (i := 0) rfl
    have c1 := hR1.cell_of (i := 1) rfl
    have c2 := hR1.cell_of (i := 2) rfl
    have c3 := hR1.cell_of (i := 3) rfl
    have HL := hide tl
    have HR := hide tr
    clear hR1 tl tr
    by_cases ca : a < e.1
    · have HG := hide (get_left HAs.out ca)
      rw [del_left HAs.out ca]
      go_enter Tryz.func379, Tryz.ntmps379
      go_upto_region 2 with fail
      refine wp_region_held_drew (S := (fun w' => Below w.heap.size w w' ∧ w'.cell? ⟨b1, 0, none⟩ = some (.int .i64 e.1) ∧ w'.cell? ⟨b1, 1, none⟩ = some (.int .i64 e.2) ∧ w'.cell? ⟨b1, 2, none⟩ = some (.pointer pl) ∧ w'.cell? ⟨b1, 3, none⟩ = some (.pointer pr))) (by kernel_rfl) ?_ (fun hHeld => ?_)
      · exact ⟨(Below.refl _ _).drew, c0, c1, c2, c3⟩
      refine tk1 0 ⟨some 14, .move (.tmp 0), 149, "tree.go:51", #[], none⟩ _ ?_
      (try go_frame)
      refine tk1 1 ⟨some 15, .nilCheck (.tmp 14), 0, "tree.go:51", #[⟨0, .data⟩], none⟩ _ ?_
      (try go_frame)
      refine tk1 2 ⟨some 16, .fieldAddr 375 (.tmp 15) 1, 0, "tree.go:51", #[⟨1, .data⟩], none⟩ _ ?_
      (try go_frame)
      refine tk1 3 ⟨some 17, .load 149 (.tmp 16), 149, "tree.go:51", #[⟨2, .data⟩], none⟩ _ ?_
      (try go_frame)
      refine tk1 4 ⟨some 18, .move (.tmp 1), 3, "tree.go:51", #[], none⟩ _ ?_
      (try go_frame)
      refine tk1 6 ⟨some 20, .move (.tmp 0), 149, "tree.go:51", #[], none⟩ _ ?_
      (try go_frame)
      refine tk1 7 ⟨some 21, .nilCheck (.tmp 20), 0, "tree.go:51", #[⟨6, .data⟩], none⟩ _ ?_
      (try go_frame)
      refine tk1 8 ⟨some 22, .fieldAddr 375 (.tmp 21) 0, 0, "tree.go:51", #[⟨7, .data⟩], none⟩ _ ?_
      (try go_frame)
      refine tk1 9 ⟨some 23, .load 373 (.tmp 22), 373, "tree.go:51", #[⟨8, .data⟩], none⟩ _ ?_
      (try go_frame)
      refine tk1 10 ⟨some 24, .move (.tmp 0), 149, "tree.go:51", #[], none⟩ _ ?_
      (try go_frame)
      refine tk1 11 ⟨some 25, .nilCheck (.tmp 24), 0, "tree.go:51", #[⟨10, .data⟩], none⟩ _ ?_
      (try go_frame)
      refine tk1 12 ⟨some 26, .fieldAddr 375 (.tmp 25) 2, 0, "tree.go:51", #[⟨11, .data⟩], none⟩ _ ?_
      (try go_frame)
      refine tk1 13 ⟨some 27, .load 149 (.tmp 26), 149, "tree.go:51", #[⟨12, .data⟩], none⟩ _ ?_
      (try go_frame)
      refine wpAnyH_ready (rs := [5]) (by kernel_rfl) (by simp) ?_
      refine AllReadyH.cons (o := ⟨some 19, .call ⟨.value (.func 379), #[.tmp 17, .tmp 18], #[149, 3]⟩, 149, "tree.go:51", #[⟨3, .data⟩, ⟨4, .data⟩], none⟩) (by rfl) (fun K hK => ?_) AllReadyH.nil
      go_simp
      refine (IH.out a _ _ _ _ (HL.out.later hHeld.1) HA1.out (by rw [← HG.out]; exact HM.out) (by have := hHeld.1.size; omega) (by omega)).mono ?_
      rintro e' w3 ⟨p3, h3, rfl, t3, hb3⟩
      go_wp2_with fail
      refine hK.out _ _ ?_ (fun hHeld => ?_)
      · exact keepT4 hb3 hHeld
      clear hK K
      (try go_frame)
      refine wpAnyH_ready (rs := [14]) (by kernel_rfl) (by simp) ?_
      refine AllReadyH.cons (o := ⟨some 28, .call ⟨.value (.func 383), #[.tmp 19, .tmp 23, .tmp 27], #[149, 373, 149]⟩, 149, "tree.go:51", #[⟨5, .data⟩, ⟨9, .data⟩, ⟨13, .data⟩, ⟨5, .chain⟩], none⟩) (by rfl) (fun K hK => ?_) AllReadyH.nil
      go_simp
      refine (balanced_w (I := I) (B := B) t3 ⟨d, HR.out.later hHeld.1⟩ (by have := hHeld.1.size; omega) (by omega)).mono ?_
      rintro e' w4 ⟨p4, h4, rfl, t4, hb4⟩
      have HT := hide t4
      clear t4
      go_wp2_with fail
      refine hK.out _ _ ?_ (fun hHeld => ?_)
      · exact keepT4 hb4 hHeld
      clear hK K
      (try go_frame)
      refine tk1 15 ⟨some 4, .assign (.tmp 28), 149, "tree.go:51", #[⟨14, .data⟩, ⟨14, .chain⟩, ⟨0, .phase⟩, ⟨1, .phase⟩, ⟨2, .phase⟩, ⟨3, .phase⟩, ⟨4, .phase⟩, ⟨5, .phase⟩, ⟨6, .phase⟩, ⟨7, .phase⟩, ⟨8, .phase⟩, ⟨9, .phase⟩, ⟨10, .phase⟩, ⟨11, .phase⟩, ⟨12, .phase⟩, ⟨13, .phase⟩, ⟨14, .phase⟩], none⟩ _ ?_
      (try go_frame)
      refine wpAnyH_done (by kernel_rfl) ?_ _
      go_wp2_with fail
      go_ret
      exact ⟨_, _, rfl, HT.out, hHeld.1⟩
    · by_cases cb : e.1 < a
      · have HG := hide (get_right HAs.out cb)
        rw [del_right HAs.out cb]
        go_enter Tryz.func379, Tryz.ntmps379
        go_upto_region 4 with fail
        refine wp_region_held_drew (S := (fun w' => Below w.heap.size w w' ∧ w'.cell? ⟨b1, 0, none⟩ = some (.int .i64 e.1) ∧ w'.cell? ⟨b1, 1, none⟩ = some (.int .i64 e.2) ∧ w'.cell? ⟨b1, 2, none⟩ = some (.pointer pl) ∧ w'.cell? ⟨b1, 3, none⟩ = some (.pointer pr))) (by kernel_rfl) ?_ (fun hHeld => ?_)
        · exact ⟨(Below.refl _ _).drew, c0, c1, c2, c3⟩
        refine tk1 0 ⟨some 37, .move (.tmp 0), 149, "tree.go:53", #[], none⟩ _ ?_
        (try go_frame)
        refine tk1 1 ⟨some 38, .nilCheck (.tmp 37), 0, "tree.go:53", #[⟨0, .data⟩], none⟩ _ ?_
        (try go_frame)
        refine tk1 2 ⟨some 39, .fieldAddr 375 (.tmp 38) 1, 0, "tree.go:53", #[⟨1, .data⟩], none⟩ _ ?_
        (try go_frame)
        refine tk1 3 ⟨some 40, .load 149 (.tmp 39), 149, "tree.go:53", #[⟨2, .data⟩], none⟩ _ ?_
        (try go_frame)
        refine tk1 4 ⟨some 41, .move (.tmp 0), 149, "tree.go:53", #[], none⟩ _ ?_
        (try go_frame)
        refine tk1 5 ⟨some 42, .nilCheck (.tmp 41), 0, "tree.go:53", #[⟨4, .data⟩], none⟩ _ ?_
        (try go_frame)
        refine tk1 6 ⟨some 43, .fieldAddr 375 (.tmp 42) 0, 0, "tree.go:53", #[⟨5, .data⟩], none⟩ _ ?_
        (try go_frame)
        refine tk1 7 ⟨some 44, .load 373 (.tmp 43), 373, "tree.go:53", #[⟨6, .data⟩], none⟩ _ ?_
        (try go_frame)
        refine tk1 8 ⟨some 45, .move (.tmp 0), 149, "tree.go:53", #[], none⟩ _ ?_
        (try go_frame)
        refine tk1 9 ⟨some 46, .nilCheck (.tmp 45), 0, "tree.go:53", #[⟨8, .data⟩], none⟩ _ ?_
        (try go_frame)
        refine tk1 10 ⟨some 47, .fieldAddr 375 (.tmp 46) 2, 0, "tree.go:53", #[⟨9, .data⟩], none⟩ _ ?_
        (try go_frame)
        refine tk1 11 ⟨some 48, .load 149 (.tmp 47), 149, "tree.go:53", #[⟨10, .data⟩], none⟩ _ ?_
        (try go_frame)
        refine tk1 12 ⟨some 49, .move (.tmp 1), 3, "tree.go:53", #[], none⟩ _ ?_
        (try go_frame)
        refine wpAnyH_ready (rs := [13]) (by kernel_rfl) (by simp) ?_
        refine AllReadyH.cons (o := ⟨some 50, .call ⟨.value (.func 379), #[.tmp 48, .tmp 49], #[149, 3]⟩, 149, "tree.go:53", #[⟨11, .data⟩, ⟨12, .data⟩], none⟩) (by rfl) (fun K hK => ?_) AllReadyH.nil
        go_simp
        refine (IH.out a _ _ _ _ (HR.out.later hHeld.1) HA2.out (by rw [← HG.out]; exact HM.out) (by have := hHeld.1.size; omega) (by omega)).mono ?_
        rintro e' w3 ⟨p3, h3, rfl, t3, hb3⟩
        go_wp2_with fail
        refine hK.out _ _ ?_ (fun hHeld => ?_)
        · exact keepT4 hb3 hHeld
        clear hK K
        (try go_frame)
        refine wpAnyH_ready (rs := [14]) (by kernel_rfl) (by simp) ?_
        refine AllReadyH.cons (o := ⟨some 51, .call ⟨.value (.func 383), #[.tmp 40, .tmp 44, .tmp 50], #[149, 373, 149]⟩, 149, "tree.go:53", #[⟨3, .data⟩, ⟨7, .data⟩, ⟨13, .data⟩, ⟨13, .chain⟩], none⟩) (by rfl) (fun K hK => ?_) AllReadyH.nil
        go_simp
        refine (balanced_w (I := I) (B := B) ⟨d, HL.out.later hHeld.1⟩ t3 (by have := hHeld.1.size; omega) (by omega)).mono ?_
        rintro e' w4 ⟨p4, h4, rfl, t4, hb4⟩
        have HT := hide t4
        clear t4
        go_wp2_with fail
        refine hK.out _ _ ?_ (fun hHeld => ?_)
        · exact keepT4 hb4 hHeld
        clear hK K
        (try go_frame)
        refine tk1 15 ⟨some 4, .assign (.tmp 51), 149, "tree.go:53", #[⟨14, .data⟩, ⟨14, .chain⟩, ⟨0, .phase⟩, ⟨1, .phase⟩, ⟨2, .phase⟩, ⟨3, .phase⟩, ⟨4, .phase⟩, ⟨5, .phase⟩, ⟨6, .phase⟩, ⟨7, .phase⟩, ⟨8, .phase⟩, ⟨9, .phase⟩, ⟨10, .phase⟩, ⟨11, .phase⟩, ⟨12, .phase⟩, ⟨13, .phase⟩, ⟨14, .phase⟩], none⟩ _ ?_
        (try go_frame)
        refine wpAnyH_done (by kernel_rfl) ?_ _
        go_wp2_with fail
        go_ret
        exact ⟨_, _, rfl, HT.out, hHeld.1⟩
      · have ce : e.1 = a := by omega
        rw [del_mid HAs.out ce]
        clear ce
        rcases Tr.cases ⟨d, HL.out⟩ with ⟨rfl, rfl, -⟩ | ⟨b2, -, -, -, -, -, -, -, rfl, -⟩
        · have HP := hide (show TrRes I B w ([] ++ sr) (.returned (.pointer pr)) w from ⟨_, _, rfl, ⟨d, HR.out⟩, Below.refl _ _⟩)
          go_enter Tryz.func379, Tryz.ntmps379
          go_wp2
          go_ret
          exact HP.out
        · rcases Tr.cases ⟨d, HR.out⟩ with ⟨rfl, rfl, -⟩ | ⟨b3, -, -, f, fl, fr, -, -, rfl, -, -, -, -, hsr, -⟩
          · have HP := hide (show TrRes I B w sl (.returned (.pointer (some ⟨b2, 0, none⟩))) w from ⟨_, _, rfl, ⟨d, HL.out⟩, Below.refl _ _⟩)
            rw [List.append_nil]
            go_enter Tryz.func379, Tryz.ntmps379
            go_wp2
            go_ret
            exact HP.out
          · obtain ⟨x, sr', rfl⟩ : ∃ x sr', sr = x :: sr' := by
              cases sr with
              | nil => simp at hsr
              | cons x sr' => exact ⟨x, sr', rfl⟩
            have HX := hide (get_mid (l := []) (e := x) HA2.out rfl)
            have HDF := hide (del_first HA2.out)
            clear hsr ln1 ln2 HAs HM
            go_enter Tryz.func379, Tryz.ntmps379
            go_wp2_with fail
            refine (least_w ⟨d, HR.out⟩).mono ?_
            rintro e' w2 ⟨rfl, hb2⟩
            have HB2 := hide hb2
            clear hb2
            go_upto_region 10 with fail
            generalize hW : World.alloc w2 _ = W
            have hb3 : Below w.heap.size w W := by rw [← hW]; exact Below.next HB2.out (below_alloc _ _) HB2.out.size
            have r5 : Row W w2.heap.size 373 [.int .i64 x.1, .int .i64 x.2] := by rw [← hW]; exact Row.new' rfl
            have d0 := r5.cell_of (i := 0) rfl
            have d1 := r5.cell_of (i := 1) rfl
            replace c0 := cell_later hb3 c0
            replace c1 := cell_later hb3 c1
            replace c2 := cell_later hb3 c2
            replace c3 := cell_later hb3 c3
            have HB3 := hide hb3
            have hzW := hb3.size
            replace HL := hide (HL.out.later hb3)
            replace HR := hide (HR.out.later hb3)
            simp only [List.length_cons] at hzl
            clear hW hb3 r5 HB2
            refine wp_region_held_drew (S := (fun w' => Below W.heap.size W w' ∧ w'.cell? ⟨w2.heap.size, 0, none⟩ = some (.int .i64 x.1) ∧ w'.cell? ⟨w2.heap.size, 1, none⟩ = some (.int .i64 x.2) ∧ w'.cell? ⟨b1, 0, none⟩ = some (.int .i64 e.1) ∧ w'.cell? ⟨b1, 1, none⟩ = some (.int .i64 e.2) ∧ w'.cell? ⟨b1, 2, none⟩ = some (.pointer (some ⟨b2, 0, none⟩)) ∧ w'.cell? ⟨b1, 3, none⟩ = some (.pointer (some ⟨b3, 0, none⟩)))) (by kernel_rfl) ?_ (fun hHeld => ?_)
            · exact ⟨(Below.refl _ _).drew, d0, d1, c0, c1, c2, c3⟩
            refine tk1 0 ⟨some 77, .move (.tmp 0), 149, "tree.go:60", #[], none⟩ _ ?_
            (try go_frame)
            refine tk1 1 ⟨some 78, .nilCheck (.tmp 77), 0, "tree.go:60", #[⟨0, .data⟩], none⟩ _ ?_
            (try go_frame)
            refine tk1 2 ⟨some 79, .fieldAddr 375 (.tmp 78) 1, 0, "tree.go:60", #[⟨1, .data⟩], none⟩ _ ?_
            (try go_frame)
            refine tk1 3 ⟨some 80, .load 149 (.tmp 79), 149, "tree.go:60", #[⟨2, .data⟩], none⟩ _ ?_
            (try go_frame)
            refine tk1 4 ⟨some 81, .load 373 (.tmp 5), 373, "tree.go:60", #[], none⟩ _ ?_
            (try go_frame)
            refine tk1 5 ⟨some 82, .move (.tmp 0), 149, "tree.go:60", #[], none⟩ _ ?_
            (try go_frame)
            refine tk1 6 ⟨some 83, .nilCheck (.tmp 82), 0, "tree.go:60", #[⟨5, .data⟩], none⟩ _ ?_
            (try go_frame)
            refine tk1 7 ⟨some 84, .fieldAddr 375 (.tmp 83) 2, 0, "tree.go:60", #[⟨6, .data⟩], none⟩ _ ?_
            (try go_frame)
            refine tk1 8 ⟨some 85, .load 149 (.tmp 84), 149, "tree.go:60", #[⟨7, .data⟩], none⟩ _ ?_
            (try go_frame)
            refine tk1 9 ⟨some 86, .fieldAddr 373 (.tmp 5) 0, 0, "tree.go:60", #[], none⟩ _ ?_
            (try go_frame)
            refine tk1 10 ⟨some 87, .load 3 (.tmp 86), 3, "tree.go:60", #[⟨9, .data⟩], none⟩ _ ?_
            (try go_frame)
            refine wpAnyH_ready (rs := [11]) (by kernel_rfl) (by simp) ?_
            refine AllReadyH.cons (o := ⟨some 88, .call ⟨.value (.func 379), #[.tmp 85, .tmp 87], #[149, 3]⟩, 149, "tree.go:60", #[⟨8, .data⟩, ⟨10, .data⟩], none⟩) (by rfl) (fun K hK => ?_) AllReadyH.nil
            go_simp
            refine (IH.out x.1 _ _ _ _ (HR.out.later hHeld.1) HA2.out (by have := HX.out; rw [List.nil_append] at this; rw [this]; rfl) (by have := hHeld.1.size; omega) (by simp only [List.length_cons]; omega)).mono ?_
            rintro e' w4 ⟨p4, h4, rfl, t4, hb4⟩
            rw [HDF.out] at t4
            go_wp2_with fail
            refine hK.out _ _ ?_ (fun hHeld => ?_)
            · exact keepT6 hb4 hHeld
            clear hK K
            (try go_frame)
            refine wpAnyH_ready (rs := [12]) (by kernel_rfl) (by simp) ?_
            refine AllReadyH.cons (o := ⟨some 89, .call ⟨.value (.func 383), #[.tmp 80, .tmp 81, .tmp 88], #[149, 373, 149]⟩, 149, "tree.go:60", #[⟨3, .data⟩, ⟨4, .data⟩, ⟨11, .data⟩, ⟨11, .chain⟩], none⟩) (by rfl) (fun K hK => ?_) AllReadyH.nil
            go_simp
            refine (balanced_w (I := I) (B := B) ⟨d, HL.out.later hHeld.1⟩ t4 (by have := hHeld.1.size; omega) (by omega)).mono ?_
            rintro e' w5 ⟨p5, h5, rfl, t5, hb5⟩
            have HT := hide t5
            clear t5
            go_wp2_with fail
            refine hK.out _ _ ?_ (fun hHeld => ?_)
            · exact keepT6 hb5 hHeld
            clear hK K
            (try go_frame)
            refine tk1 13 ⟨some 4, .assign (.tmp 89), 149, "tree.go:60", #[⟨12, .data⟩, ⟨12, .chain⟩, ⟨0, .phase⟩, ⟨1, .phase⟩, ⟨2, .phase⟩, ⟨3, .phase⟩, ⟨4, .phase⟩, ⟨5, .phase⟩, ⟨6, .phase⟩, ⟨7, .phase⟩, ⟨8, .phase⟩, ⟨9, .phase⟩, ⟨10, .phase⟩, ⟨11, .phase⟩, ⟨12, .phase⟩], none⟩ _ ?_
            (try go_frame)
            refine wpAnyH_done (by kernel_rfl) ?_ _
            go_wp2_with fail
            go_ret
            exact ⟨_, _, rfl, HT.out, Below.next HB3.out hHeld.1 HB3.out.size⟩
end
end Go.Proofs.YtefjhnhdagolhaaGreat
namespace Go.Proofs.YtefjhnhdagolhaaGreat
open Go.RowKit
attribute [local go_sem ↓] Go.wp_at_zero Go.wp_at_succ
theorem ptr_same {w w' : World} {b o : Nat} {v : Value} (h : w.cell? ⟨b, o, none⟩ = some v) (e : w'.heap[b]? = w.heap[b]?) : w'.cell? ⟨b, o, none⟩ = some v := by rw [World.cell?_of_block (w := w) e]; exact h
theorem Fr.of_grown {w w' : World} {row : Option Nat} (h : w.grownBy w' row) : Fr (fun k => row = some k) w w' := ⟨h.os, h.tape, h.output, h.size, fun k hk hn => h.block k hk fun e => hn e.symm⟩
theorem keepA4 {own : Nat → Prop} {row : Option Nat} {w0 w w' : World} {b1 : Nat} {v1 v2 v3 v4 : Value} (hg : w.grownBy w' row) (h : Fr own w0 w ∧ w.cell? ⟨b1, 0, none⟩ = some v1 ∧ w.cell? ⟨b1, 1, none⟩ = some v2 ∧ w.cell? ⟨b1, 2, none⟩ = some v3 ∧ w.cell? ⟨b1, 3, none⟩ = some v4) (h1 : b1 < w.heap.size) (ho : ∀ k, row = some k → own k ∨ w0.heap.size ≤ k) (hn : row ≠ some b1) :
    Fr own w0 w' ∧ w'.cell? ⟨b1, 0, none⟩ = some v1 ∧ w'.cell? ⟨b1, 1, none⟩ = some v2 ∧ w'.cell? ⟨b1, 2, none⟩ = some v3 ∧ w'.cell? ⟨b1, 3, none⟩ = some v4 := by
  have e := (Fr.of_grown hg).block b1 h1 hn
  exact ⟨h.1.grow (Fr.of_grown hg) ho, ptr_same h.2.1 e, ptr_same h.2.2.1 e, ptr_same h.2.2.2.1 e, ptr_same h.2.2.2.2 e⟩
theorem keepF4 {own : Nat → Prop} {w0 w w' : World} {b1 : Nat} {v1 v2 v3 v4 : Value} (hb : Fr own w w') (h1 : b1 < w.heap.size) (hn : ¬ own b1) (hf : Fr own w0 w') (h : w.cell? ⟨b1, 0, none⟩ = some v1 ∧ w.cell? ⟨b1, 1, none⟩ = some v2 ∧ w.cell? ⟨b1, 2, none⟩ = some v3 ∧ w.cell? ⟨b1, 3, none⟩ = some v4) :
    Fr own w0 w' ∧ w'.cell? ⟨b1, 0, none⟩ = some v1 ∧ w'.cell? ⟨b1, 1, none⟩ = some v2 ∧ w'.cell? ⟨b1, 2, none⟩ = some v3 ∧ w'.cell? ⟨b1, 3, none⟩ = some v4 := by
  have e := hb.block b1 h1 hn
  exact ⟨hf, ptr_same h.1 e, ptr_same h.2.1 e, ptr_same h.2.2.1 e, ptr_same h.2.2.2 e⟩
structure Grew (w : World) (v : Value) (v' : Value) (l : List Int) (w' : World) : Prop where
  own : w'.ownsRow 0 3 1 v' l.length (ints l)
  at' : ∀ k, v'.ownBlock = some k → v.ownBlock = some k ∨ w.heap.size ≤ k
  fr : Fr (fun k => v.ownBlock = some k) w w'
section
variable {I : Nat → Prop} {N : Nat}
set_option maxRecDepth 20000 in
set_option maxHeartbeats 4000000 in
theorem listed_at (hI : ∀ k, I k → k < N) : ∀ (d : Nat) (w : World) (p : Option Addr) (s : Prs) (h : Nat) (v : Value) (l : List Int), TrAt I w d p s h → N ≤ w.heap.size → l.length + 2 * s.length ≤ 10000000000000 → w.ownsRow 0 3 1 v l.length (ints l) → (∀ k, v.ownBlock = some k → ¬ I k) →
    Calls Tryz.prog 381 #[.pointer p, v] w fun e w' => ∃ v', e = .returned v' ∧ Grew w v v' (l ++ flat s) w'
  | 0, w, p, s, h, v, l, q, hN, hz, ho, hv => by
    obtain ⟨rfl, rfl, -⟩ := q
    have HP := hide (show ∃ v', Ending.returned v = .returned v' ∧ Grew w v v' (l ++ flat []) w from ⟨v, rfl, by simpa [flat] using ho, fun k e => .inl e, Fr.refl _ _⟩)
    go_enter Tryz.func381, Tryz.ntmps381
    go_wp2
    go_ret
    exact HP.out
  | d + 1, w, p, s, h, v, l, q, hN, hz, ho, hv => by
    have IH := hide (listed_at hI d)
    rcases q with ⟨rfl, rfl, -⟩ | ⟨b1, pl, pr, e, sl, sr, hl, hr, rfl, hIb, hR1, tl, tr, rfl, -⟩
    · have HP := hide (show ∃ v', Ending.returned v = .returned v' ∧ Grew w v v' (l ++ flat []) w from ⟨v, rfl, by simpa [flat] using ho, fun k e => .inl e, Fr.refl _ _⟩)
      go_enter Tryz.func381, Tryz.ntmps381
      go_wp2
      go_ret
      exact HP.out
    · obtain ⟨ti, hti, htz⟩ := Option.map_eq_some_iff.1 info_int
      simp only [Prod.mk.injEq] at htz
      obtain ⟨htz1, htz2, htz3⟩ := htz
      have HTI := hide hti
      have HT1 := hide htz1
      have HT2 := hide htz2
      have HT3 := hide htz3
      have hzl : l.length + 2 * sl.length + 2 * sr.length + 2 ≤ 10000000000000 := by simp only [List.length_append, List.length_cons] at hz; omega
      have hb1 := hI b1 hIb
      have hnb : v.ownBlock ≠ some b1 := fun c => hv b1 c hIb
      have hvlt : ∀ k, v.ownBlock = some k → k < w.heap.size := fun k e => (ho.lt k e).2
      unfold tnode at hR1
      have c0 := hR1.cell_of (i := 0) rfl
      have c1 := hR1.cell_of (i := 1) rfl
      have c2 := hR1.cell_of (i := 2) rfl
      have c3 := hR1.cell_of (i := 3) rfl
      have HL := hide tl
      have HR := hide tr
      have HO := hide ho
      have HLn := hide (show (l ++ flat sl).length = l.length + 2 * sl.length by rw [List.length_append, flat_len])
      have HFl := hide (show l ++ flat (sl ++ e :: sr) = (l ++ flat sl ++ [e.1, e.2]) ++ flat sr by rw [flat_append, flat_cons]; simp)
      rw [HFl.out]
      clear hR1 tl tr hti htz1 htz2 htz3 hz ho hIb
      go_enter Tryz.func381, Tryz.ntmps381
      go_upto_region 3 with fail
      refine wp_region_held_drew (S := (fun w' => Fr (fun k => v.ownBlock = some k) w w' ∧ w'.cell? ⟨b1, 0, none⟩ = some (.int .i64 e.1) ∧ w'.cell? ⟨b1, 1, none⟩ = some (.int .i64 e.2) ∧ w'.cell? ⟨b1, 2, none⟩ = some (.pointer pl) ∧ w'.cell? ⟨b1, 3, none⟩ = some (.pointer pr))) (by kernel_rfl) ?_ (fun hHeld => ?_)
      · exact ⟨(Fr.refl _ _).drew, c0, c1, c2, c3⟩
      refine tk1 0 ⟨some 8, .move (.tmp 0), 149, "tree.go:109", #[], none⟩ _ ?_
      (try go_frame)
      refine tk1 1 ⟨some 9, .nilCheck (.tmp 8), 0, "tree.go:109", #[⟨0, .data⟩], none⟩ _ ?_
      (try go_frame)
      refine tk1 2 ⟨some 10, .fieldAddr 375 (.tmp 9) 1, 0, "tree.go:109", #[⟨1, .data⟩], none⟩ _ ?_
      (try go_frame)
      refine tk1 3 ⟨some 11, .load 149 (.tmp 10), 149, "tree.go:109", #[⟨2, .data⟩], none⟩ _ ?_
      (try go_frame)
      refine tk1 4 ⟨some 12, .move (.tmp 1), 22, "tree.go:109", #[], none⟩ _ ?_
      (try go_frame)
      refine tk1 6 ⟨some 14, .move (.tmp 0), 149, "tree.go:109", #[], none⟩ _ ?_
      (try go_frame)
      refine tk1 7 ⟨some 15, .nilCheck (.tmp 14), 0, "tree.go:109", #[⟨6, .data⟩], none⟩ _ ?_
      (try go_frame)
      refine tk1 8 ⟨some 16, .fieldAddr 375 (.tmp 15) 0, 0, "tree.go:109", #[⟨7, .data⟩], none⟩ _ ?_
      (try go_frame)
      refine tk1 9 ⟨some 17, .fieldAddr 373 (.tmp 16) 0, 0, "tree.go:109", #[⟨8, .data⟩], none⟩ _ ?_
      (try go_frame)
      refine tk1 10 ⟨some 18, .load 3 (.tmp 17), 3, "tree.go:109", #[⟨9, .data⟩], none⟩ _ ?_
      (try go_frame)
      refine tk1 11 ⟨some 19, .move (.tmp 0), 149, "tree.go:109", #[], none⟩ _ ?_
      (try go_frame)
      refine tk1 12 ⟨some 20, .nilCheck (.tmp 19), 0, "tree.go:109", #[⟨11, .data⟩], none⟩ _ ?_
      (try go_frame)
      refine tk1 13 ⟨some 21, .fieldAddr 375 (.tmp 20) 0, 0, "tree.go:109", #[⟨12, .data⟩], none⟩ _ ?_
      (try go_frame)
      refine tk1 14 ⟨some 22, .fieldAddr 373 (.tmp 21) 1, 0, "tree.go:109", #[⟨13, .data⟩], none⟩ _ ?_
      (try go_frame)
      refine tk1 15 ⟨some 23, .load 3 (.tmp 22), 3, "tree.go:109", #[⟨14, .data⟩], none⟩ _ ?_
      (try go_frame)
      refine wpAnyH_ready (rs := [5, 16]) (by kernel_rfl) (by simp) ?_
      refine AllReadyH.cons (o := ⟨some 13, .call ⟨.value (.func 381), #[.tmp 11, .tmp 12], #[149, 22]⟩, 22, "tree.go:109", #[⟨3, .data⟩, ⟨4, .data⟩], none⟩) (by rfl) (fun K hK => ?_) (AllReadyH.cons (o := ⟨some 24, .buildSlice 22 2 #[(0, .tmp 18), (1, .tmp 23)], 22, "tree.go:109", #[⟨10, .data⟩, ⟨15, .data⟩], none⟩) (by rfl) (fun K hK => ?_) AllReadyH.nil)
      · go_simp
        refine (IH.out _ _ _ _ _ l (HL.out.stay fun k hk hk' => ⟨hk, hHeld.1.block k hk' (fun c => hv k c hk)⟩) (by have := hHeld.1.size; omega) (by omega) (by first | exact HO.out | exact HO.out.alloc _) hv).mono ?_
        rintro e' w3 ⟨v3, rfl, hG3⟩
        have HO3 := hide hG3.own
        have HA3 := hide (show ∀ k, v3.ownBlock = some k → v.ownBlock = some k ∨ w.heap.size ≤ k from fun k e => (hG3.at' k e).imp id fun q => by first | exact q | (simp at q; omega))
        have hs3 : w.heap.size ≤ w3.heap.size := Nat.le_trans hHeld.1.size hG3.fr.size
        (try have HBS := hide (show Row w3 w.heap.size 3 [.int .i64 e.1, .int .i64 e.2] from (Row.new' (by simp)).of_block (hG3.fr.block _ (by simp) (fun c => by have := hvlt _ c; omega))))
        go_wp2_with fail
        refine hK.out _ _ ?_ (fun hHeld => ?_)
        · exact keepF4 hG3.fr (by have := hHeld.1.size; omega) hnb (hHeld.1.grow hG3.fr fun k hk => .inl hk) hHeld.2
        clear hK K
        (try go_frame)
        refine wpAnyH_ready (rs := [16]) (by kernel_rfl) (by simp) ?_
        refine AllReadyH.cons (o := ⟨some 24, .buildSlice 22 2 #[(0, .tmp 18), (1, .tmp 23)], 22, "tree.go:109", #[⟨10, .data⟩, ⟨15, .data⟩], none⟩) (by rfl) (fun K hK => ?_) AllReadyH.nil
        go_simp
        refine hK.out _ _ ?_ (fun hHeld => ?_)
        · exact keepF4 (Fr.of_below (below_alloc _ _)) (by have := hHeld.1.size; omega) hnb (hHeld.1.grow (own' := fun k => v.ownBlock = some k) (Fr.of_below (below_alloc _ _)) fun k hk => .inl hk) hHeld.2
        clear hK K
        (try go_frame)
        refine wpAnyH_ready (rs := [17]) (by kernel_rfl) (by simp) ?_
        refine AllReadyH.cons (o := ⟨some 25, .call ⟨.builtin .append, #[.tmp 13, .tmp 24], #[22, 22]⟩, 22, "tree.go:109", #[⟨5, .data⟩, ⟨16, .data⟩, ⟨5, .chain⟩], none⟩) (by rfl) (fun K hK => ?_) AllReadyH.nil
        have hln := HLn.out
        first
          | refine step_append_lies _ rfl (.tmp 13) (.tmp 24) 22 rfl 0 3 ti (.int .i64 0) 1 8 Tryz.underlying22 HTI.out HT1.out HT2.out HT3.out rfl (by decide) v3 (l ++ flat sl).length (ints (l ++ flat sl)) rfl (HO3.out.alloc _) ⟨w3.heap.size, 0, none⟩ 2 2 [.int .i64 e.1, .int .i64 e.2] rfl rfl (World.news_of_block (Row.new' (by simp))) (by simp [Value.oneCell']) (by decide) (by unfold maxLen; omega) (by omega) (Nat.zero_le _) _ rfl ?_
          | refine step_append_lies _ rfl (.tmp 13) (.tmp 24) 22 rfl 0 3 ti (.int .i64 0) 1 8 Tryz.underlying22 HTI.out HT1.out HT2.out HT3.out rfl (by decide) v3 (l ++ flat sl).length (ints (l ++ flat sl)) rfl HO3.out ⟨w.heap.size, 0, none⟩ 2 2 [.int .i64 e.1, .int .i64 e.2] rfl rfl (World.news_of_block HBS.out) (by simp [Value.oneCell']) (by decide) (by unfold maxLen; omega) (by omega) (Nat.zero_le _) _ rfl ?_
        clear hln
        intro g gc w4 hown hgr hat hlt4
        have HO4 := hide hown
        have HG4 := hide hgr
        have HT4 := hide hat
        clear hown hgr hat hlt4
        refine hK.out _ _ ?_ (fun hHeld => ?_)
        · exact keepA4 HG4.out hHeld (by have := hHeld.1.size; omega) (fun k e => HA3.out k e) (fun c => (HA3.out _ c).elim hnb (by omega))
        clear hK K
        (try go_frame)
        refine tk1 18 ⟨some 1, .assign (.tmp 25), 22, "tree.go:109", #[⟨17, .data⟩, ⟨17, .chain⟩, ⟨0, .phase⟩, ⟨1, .phase⟩, ⟨2, .phase⟩, ⟨3, .phase⟩, ⟨4, .phase⟩, ⟨5, .phase⟩, ⟨6, .phase⟩, ⟨7, .phase⟩, ⟨8, .phase⟩, ⟨9, .phase⟩, ⟨10, .phase⟩, ⟨11, .phase⟩, ⟨12, .phase⟩, ⟨13, .phase⟩, ⟨14, .phase⟩, ⟨15, .phase⟩, ⟨16, .phase⟩, ⟨17, .phase⟩], none⟩ _ ?_
        (try go_frame)
        refine wpAnyH_done (by kernel_rfl) ?_ _
        have hgg : v.ownBlock = some g ∨ w.heap.size ≤ g := by
          rcases HT4.out with q | q
          · exact HA3.out g q
          · exact .inr (by rw [q]; first | omega | (simp; omega))
        have ho4 : w4.ownsRow 0 3 1 (.slice (some ⟨g, 0, none⟩) (l.length + (flat sl).length + 2) gc) (l ++ flat sl ++ [e.1, e.2]).length (ints (l ++ flat sl ++ [e.1, e.2])) := by have := HO4.out; simpa [ints, Nat.add_assoc] using this
        have hgI : ∀ k, (Value.slice (some ⟨g, 0, none⟩) (l.length + (flat sl).length + 2) gc).ownBlock = some k → v.ownBlock = some k ∨ w.heap.size ≤ k := fun k q => by
          have : g = k := by simpa [Value.ownBlock] using q
          subst this
          exact hgg
        have c4 := hHeld.2.2.2.2
        have HCL := hide (IH.out w4 pr sr hr _ (l ++ flat sl ++ [e.1, e.2]) (HR.out.stay fun k hk hk' => ⟨hk, hHeld.1.block k hk' (fun c => hv k c hk)⟩) (by have := hHeld.1.size; omega) (by have := HLn.out; simp only [List.length_append, List.length_cons, List.length_nil] at this ⊢; omega) ho4 (fun k q hk => (hgI k q).elim (fun c => hv k c hk) (fun c => by have := hI k hk; omega)))
        have HHF := hide hHeld.1
        have HGI := hide hgI
        clear hHeld ho4 hgg hgI HO4 HG4 HT4 HA3 HO3 hG3
        go_wp2_with fail
        refine HCL.out.mono ?_
        rintro e' w5 ⟨v5, rfl, hG5⟩
        have HG5 := hide hG5
        clear hG5 HCL
        go_wp2_with fail
        go_ret
        exact ⟨v5, rfl, HG5.out.own, fun k q => (HG5.out.at' k q).elim (HGI.out k) (fun c => .inr (Nat.le_trans HHF.out.size c)), HHF.out.grow HG5.out.fr (fun k q => HGI.out k q)⟩
      · go_simp
        refine hK.out _ _ ?_ (fun hHeld => ?_)
        · exact keepF4 (Fr.of_below (below_alloc _ _)) (by have := hHeld.1.size; omega) hnb (hHeld.1.grow (own' := fun k => v.ownBlock = some k) (Fr.of_below (below_alloc _ _)) fun k hk => .inl hk) hHeld.2
        clear hK K
        (try go_frame)
        refine wpAnyH_ready (rs := [5]) (by kernel_rfl) (by simp) ?_
        refine AllReadyH.cons (o := ⟨some 13, .call ⟨.value (.func 381), #[.tmp 11, .tmp 12], #[149, 22]⟩, 22, "tree.go:109", #[⟨3, .data⟩, ⟨4, .data⟩], none⟩) (by rfl) (fun K hK => ?_) AllReadyH.nil
        go_simp
        refine (IH.out _ _ _ _ _ l (HL.out.stay fun k hk hk' => ⟨hk, hHeld.1.block k hk' (fun c => hv k c hk)⟩) (by have := hHeld.1.size; omega) (by omega) (by first | exact HO.out | exact HO.out.alloc _) hv).mono ?_
        rintro e' w3 ⟨v3, rfl, hG3⟩
        have HO3 := hide hG3.own
        have HA3 := hide (show ∀ k, v3.ownBlock = some k → v.ownBlock = some k ∨ w.heap.size ≤ k from fun k e => (hG3.at' k e).imp id fun q => by first | exact q | (simp at q; omega))
        have hs3 : w.heap.size ≤ w3.heap.size := Nat.le_trans hHeld.1.size hG3.fr.size
        (try have HBS := hide (show Row w3 w.heap.size 3 [.int .i64 e.1, .int .i64 e.2] from (Row.new' (by simp)).of_block (hG3.fr.block _ (by simp) (fun c => by have := hvlt _ c; omega))))
        go_wp2_with fail
        refine hK.out _ _ ?_ (fun hHeld => ?_)
        · exact keepF4 hG3.fr (by have := hHeld.1.size; omega) hnb (hHeld.1.grow hG3.fr fun k hk => .inl hk) hHeld.2
        clear hK K
        (try go_frame)
        refine wpAnyH_ready (rs := [17]) (by kernel_rfl) (by simp) ?_
        refine AllReadyH.cons (o := ⟨some 25, .call ⟨.builtin .append, #[.tmp 13, .tmp 24], #[22, 22]⟩, 22, "tree.go:109", #[⟨5, .data⟩, ⟨16, .data⟩, ⟨5, .chain⟩], none⟩) (by rfl) (fun K hK => ?_) AllReadyH.nil
        have hln := HLn.out
        first
          | refine step_append_lies _ rfl (.tmp 13) (.tmp 24) 22 rfl 0 3 ti (.int .i64 0) 1 8 Tryz.underlying22 HTI.out HT1.out HT2.out HT3.out rfl (by decide) v3 (l ++ flat sl).length (ints (l ++ flat sl)) rfl (HO3.out.alloc _) ⟨w3.heap.size, 0, none⟩ 2 2 [.int .i64 e.1, .int .i64 e.2] rfl rfl (World.news_of_block (Row.new' (by simp))) (by simp [Value.oneCell']) (by decide) (by unfold maxLen; omega) (by omega) (Nat.zero_le _) _ rfl ?_
          | refine step_append_lies _ rfl (.tmp 13) (.tmp 24) 22 rfl 0 3 ti (.int .i64 0) 1 8 Tryz.underlying22 HTI.out HT1.out HT2.out HT3.out rfl (by decide) v3 (l ++ flat sl).length (ints (l ++ flat sl)) rfl HO3.out ⟨w.heap.size, 0, none⟩ 2 2 [.int .i64 e.1, .int .i64 e.2] rfl rfl (World.news_of_block HBS.out) (by simp [Value.oneCell']) (by decide) (by unfold maxLen; omega) (by omega) (Nat.zero_le _) _ rfl ?_
        clear hln
        intro g gc w4 hown hgr hat hlt4
        have HO4 := hide hown
        have HG4 := hide hgr
        have HT4 := hide hat
        clear hown hgr hat hlt4
        refine hK.out _ _ ?_ (fun hHeld => ?_)
        · exact keepA4 HG4.out hHeld (by have := hHeld.1.size; omega) (fun k e => HA3.out k e) (fun c => (HA3.out _ c).elim hnb (by omega))
        clear hK K
        (try go_frame)
        refine tk1 18 ⟨some 1, .assign (.tmp 25), 22, "tree.go:109", #[⟨17, .data⟩, ⟨17, .chain⟩, ⟨0, .phase⟩, ⟨1, .phase⟩, ⟨2, .phase⟩, ⟨3, .phase⟩, ⟨4, .phase⟩, ⟨5, .phase⟩, ⟨6, .phase⟩, ⟨7, .phase⟩, ⟨8, .phase⟩, ⟨9, .phase⟩, ⟨10, .phase⟩, ⟨11, .phase⟩, ⟨12, .phase⟩, ⟨13, .phase⟩, ⟨14, .phase⟩, ⟨15, .phase⟩, ⟨16, .phase⟩, ⟨17, .phase⟩], none⟩ _ ?_
        (try go_frame)
        refine wpAnyH_done (by kernel_rfl) ?_ _
        have hgg : v.ownBlock = some g ∨ w.heap.size ≤ g := by
          rcases HT4.out with q | q
          · exact HA3.out g q
          · exact .inr (by rw [q]; first | omega | (simp; omega))
        have ho4 : w4.ownsRow 0 3 1 (.slice (some ⟨g, 0, none⟩) (l.length + (flat sl).length + 2) gc) (l ++ flat sl ++ [e.1, e.2]).length (ints (l ++ flat sl ++ [e.1, e.2])) := by have := HO4.out; simpa [ints, Nat.add_assoc] using this
        have hgI : ∀ k, (Value.slice (some ⟨g, 0, none⟩) (l.length + (flat sl).length + 2) gc).ownBlock = some k → v.ownBlock = some k ∨ w.heap.size ≤ k := fun k q => by
          have : g = k := by simpa [Value.ownBlock] using q
          subst this
          exact hgg
        have c4 := hHeld.2.2.2.2
        have HCL := hide (IH.out w4 pr sr hr _ (l ++ flat sl ++ [e.1, e.2]) (HR.out.stay fun k hk hk' => ⟨hk, hHeld.1.block k hk' (fun c => hv k c hk)⟩) (by have := hHeld.1.size; omega) (by have := HLn.out; simp only [List.length_append, List.length_cons, List.length_nil] at this ⊢; omega) ho4 (fun k q hk => (hgI k q).elim (fun c => hv k c hk) (fun c => by have := hI k hk; omega)))
        have HHF := hide hHeld.1
        have HGI := hide hgI
        clear hHeld ho4 hgg hgI HO4 HG4 HT4 HA3 HO3 hG3
        go_wp2_with fail
        refine HCL.out.mono ?_
        rintro e' w5 ⟨v5, rfl, hG5⟩
        have HG5 := hide hG5
        clear hG5 HCL
        go_wp2_with fail
        go_ret
        exact ⟨v5, rfl, HG5.out.own, fun k q => (HG5.out.at' k q).elim (HGI.out k) (fun c => .inr (Nat.le_trans HHF.out.size c)), HHF.out.grow HG5.out.fr (fun k q => HGI.out k q)⟩
end
end Go.Proofs.YtefjhnhdagolhaaGreat
