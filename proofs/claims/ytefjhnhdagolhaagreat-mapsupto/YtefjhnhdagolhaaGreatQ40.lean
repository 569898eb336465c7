import Derived.Test.YtefjhnhdagolhaaGreatQ39
import Derived.Test.YtefjhnhdagolhaaGreatQ17
import Derived.Test.YtefjhnhdagolhaaGreatQ18
import Derived.Deep.AppendLies
namespace Go.Proofs.YtefjhnhdagolhaaGreat
open Go.RowKit
attribute [local go_sem ↓] Go.wp_at_zero Go.wp_at_succ
theorem keepT4 {w0 w w' : World} {a1 a2 a3 a4 : Addr} {v1 v2 v3 v4 : Value} (hb : Below w.heap.size w w')
    (h : Below w0.heap.size w0 w ∧ w.cell? a1 = some v1 ∧ w.cell? a2 = some v2 ∧ w.cell? a3 = some v3 ∧ w.cell? a4 = some v4) :
    Below w0.heap.size w0 w' ∧ w'.cell? a1 = some v1 ∧ w'.cell? a2 = some v2 ∧ w'.cell? a3 = some v3 ∧ w'.cell? a4 = some v4 :=
  let ⟨h0, h1, h2, h3, h4⟩ := h
  ⟨Below.next h0 hb h0.size, cell_later hb h1, cell_later hb h2, cell_later hb h3, cell_later hb h4⟩
theorem del_first {e : Int × Int} {s : Prs} (h : Asc (e :: s)) : mdel (e :: s) e.1 = s := del_mid (l := []) (e := e) h rfl
theorem del_len (s : Prs) (a : Int) : (mdel s a).length ≤ s.length := List.length_filter_le _ _
section
variable {I : Nat → Prop} {B : Nat}
set_option maxRecDepth 20000 in
set_option maxHeartbeats 4000000 in
theorem without_at : ∀ (d : Nat) (a : Int) (w : World) (p : Option Addr) (s : Prs) (h : Nat), TrAt (JB I B w) w d p s h → Asc s → (mget s a).isSome → B ≤ w.heap.size → s.length ≤ 500000000000 →
    Calls Tryz.prog 379 #[.pointer p, .int .i64 a] w (TrRes I B w (mdel s a))
  | 0, a, w, p, s, h, q, hs, hm, hB, hz => by
    obtain ⟨rfl, rfl, -⟩ := q
    exact absurd hm (by simp [mget])
  | d + 1, a, w, p, s, h, q, hs, hm, hB, hz => by
    have IH := hide (without_at d)
    rcases q with ⟨rfl, rfl, -⟩ | ⟨b1, pl, pr, e, sl, sr, hl, hr, rfl, -, hR1, tl, tr, rfl, -⟩
    · exact absurd hm (by simp [mget])
    have hzl : sl.length + sr.length + 1 ≤ 500000000000 := by simp only [List.length_append, List.length_cons] at hz; omega
    obtain ⟨as1, as2, -, -⟩ := asc_mid.mp hs
    have ln1 := del_len sl a
    have ln2 := del_len sr a
    have HAs := hide hs
    have HA1 := hide as1
    have HA2 := hide as2
    have HM := hide hm
    clear hs as1 as2 hz hm
    unfold tnode at hR1
    have c0 := hR1.cell_of (i := 0) rfl
    have c1 := hR1.cell_of (i := 1) rfl
    have c2 := hR1.cell_of (i := 2) rfl
    have c3 := hR1.cell_of (i := 3) rfl
    have HL := hide tl
    have HR := hide tr
    clear hR1 tl tr
    by_cases ca : a < e.1
    · have HG := hide (get_left HAs.out ca)
      rw [del_left HAs.out ca]
      go_enter Tryz.func379, Tryz.ntmps379
      go_upto_region 2 with fail
      refine rg0 (S := (fun w' => Below w.heap.size w w' ∧ w'.cell? ⟨b1, 0, none⟩ = some (.int .i64 e.1) ∧ w'.cell? ⟨b1, 1, none⟩ = some (.int .i64 e.2) ∧ w'.cell? ⟨b1, 2, none⟩ = some (.pointer pl) ∧ w'.cell? ⟨b1, 3, none⟩ = some (.pointer pr))) 16 rfl (by kernel_rfl) ?_ (fun hHeld => ?_)
      · exact ⟨(Below.refl _ _).drew, c0, c1, c2, c3⟩
      iterate 5 (refine tk 15 (by rfl) (by kernel_rfl) (by exact fun _ _ _ h => h) (.inl ⟨by rfl, fun w hS => by (try dsimp only at hS); go_simp; (try with_reducible rfl)⟩) (by assumption) ?_; try go_frame)
      iterate 8 (refine tk 16 (by rfl) (by kernel_rfl) (by exact fun _ _ _ h => h) (.inl ⟨by rfl, fun w hS => by (try dsimp only at hS); go_simp; (try with_reducible rfl)⟩) (by assumption) ?_; try go_frame)
      refine rd1 5 (by rfl) (by kernel_rfl) (fun K hK => ?_)
      go_simp
      refine (IH.out a _ _ _ _ (HL.out.later hHeld.1) HA1.out (by rw [← HG.out]; exact HM.out) (by have := hHeld.1.size; omega) (by omega)).mono ?_
      rintro e' w3 ⟨p3, h3, rfl, t3, hb3⟩
      go_wp2_with fail
      refine hK.out _ _ ?_ (fun hHeld => ?_)
      · exact keepT4 hb3 hHeld
      clear hK K
      (try go_frame)
      refine rd1 14 (by rfl) (by kernel_rfl) (fun K hK => ?_)
      go_simp
      refine (balanced_w (I := I) (B := B) t3 ⟨d, HR.out.later hHeld.1⟩ (by have := hHeld.1.size; omega) (by omega)).mono ?_
      rintro e' w4 ⟨p4, h4, rfl, t4, hb4⟩
      have HT := hide t4
      clear t4
      go_wp2_with fail
      refine hK.out _ _ ?_ (fun hHeld => ?_)
      · exact keepT4 hb4 hHeld
      clear hK K
      (try go_frame)
      iterate 1 (refine tk 15 (by rfl) (by kernel_rfl) (by exact fun _ _ _ h => h) (.inl ⟨by rfl, fun w hS => by (try dsimp only at hS); go_simp; (try with_reducible rfl)⟩) (by assumption) ?_; try go_frame)
      refine wpAnyH_done (by kernel_rfl) ?_ _
      go_wp2_with fail
      go_ret
      exact ⟨_, _, rfl, HT.out, hHeld.1⟩
    · by_cases cb : e.1 < a
      · have HG := hide (get_right HAs.out cb)
        rw [del_right HAs.out cb]
        go_enter Tryz.func379, Tryz.ntmps379
        go_upto_region 4 with fail
        refine rg0 (S := (fun w' => Below w.heap.size w w' ∧ w'.cell? ⟨b1, 0, none⟩ = some (.int .i64 e.1) ∧ w'.cell? ⟨b1, 1, none⟩ = some (.int .i64 e.2) ∧ w'.cell? ⟨b1, 2, none⟩ = some (.pointer pl) ∧ w'.cell? ⟨b1, 3, none⟩ = some (.pointer pr))) 16 rfl (by kernel_rfl) ?_ (fun hHeld => ?_)
        · exact ⟨(Below.refl _ _).drew, c0, c1, c2, c3⟩
        iterate 13 (refine tk 15 (by rfl) (by kernel_rfl) (by exact fun _ _ _ h => h) (.inl ⟨by rfl, fun w hS => by (try dsimp only at hS); go_simp; (try with_reducible rfl)⟩) (by assumption) ?_; try go_frame)
        refine rd1 13 (by rfl) (by kernel_rfl) (fun K hK => ?_)
        go_simp
        refine (IH.out a _ _ _ _ (HR.out.later hHeld.1) HA2.out (by rw [← HG.out]; exact HM.out) (by have := hHeld.1.size; omega) (by omega)).mono ?_
        rintro e' w3 ⟨p3, h3, rfl, t3, hb3⟩
        go_wp2_with fail
        refine hK.out _ _ ?_ (fun hHeld => ?_)
        · exact keepT4 hb3 hHeld
        clear hK K
        (try go_frame)
        refine rd1 14 (by rfl) (by kernel_rfl) (fun K hK => ?_)
        go_simp
        refine (balanced_w (I := I) (B := B) ⟨d, HL.out.later hHeld.1⟩ t3 (by have := hHeld.1.size; omega) (by omega)).mono ?_
        rintro e' w4 ⟨p4, h4, rfl, t4, hb4⟩
        have HT := hide t4
        clear t4
        go_wp2_with fail
        refine hK.out _ _ ?_ (fun hHeld => ?_)
        · exact keepT4 hb4 hHeld
        clear hK K
        (try go_frame)
        iterate 1 (refine tk 15 (by rfl) (by kernel_rfl) (by exact fun _ _ _ h => h) (.inl ⟨by rfl, fun w hS => by (try dsimp only at hS); go_simp; (try with_reducible rfl)⟩) (by assumption) ?_; try go_frame)
        refine wpAnyH_done (by kernel_rfl) ?_ _
        go_wp2_with fail
        go_ret
        exact ⟨_, _, rfl, HT.out, hHeld.1⟩
      · have ce : e.1 = a := by omega
        rw [del_mid HAs.out ce]
        clear ce
        rcases Tr.cases ⟨d, HL.out⟩ with ⟨rfl, rfl, -⟩ | ⟨b2, -, -, -, -, -, -, -, rfl, -⟩
        · have HP := hide (show TrRes I B w ([] ++ sr) (.returned (.pointer pr)) w from ⟨_, _, rfl, ⟨d, HR.out⟩, Below.refl _ _⟩)
          go_enter Tryz.func379, Tryz.ntmps379
          go_wp2
          go_ret
          exact HP.out
        · rcases Tr.cases ⟨d, HR.out⟩ with ⟨rfl, rfl, -⟩ | ⟨b3, -, -, f, fl, fr, -, -, rfl, -, -, -, -, hsr, -⟩
          · have HP := hide (show TrRes I B w sl (.returned (.pointer (some ⟨b2, 0, none⟩))) w from ⟨_, _, rfl, ⟨d, HL.out⟩, Below.refl _ _⟩)
            rw [List.append_nil]
            go_enter Tryz.func379, Tryz.ntmps379
            go_wp2
            go_ret
            exact HP.out
          · obtain ⟨x, sr', rfl⟩ : ∃ x sr', sr = x :: sr' := by
              cases sr with
              | nil => simp at hsr
              | cons x sr' => exact ⟨x, sr', rfl⟩
            have HX := hide (get_mid (l := []) (e := x) HA2.out rfl)
            have HDF := hide (del_first HA2.out)
            clear hsr ln1 ln2 HAs HM
            go_enter Tryz.func379, Tryz.ntmps379
            go_wp2_with fail
            refine (least_w ⟨d, HR.out⟩).mono ?_
            rintro e' w2 ⟨rfl, hb2⟩
            have HB2 := hide hb2
            clear hb2
            go_upto_region 10 with fail
            generalize hW : World.alloc w2 _ = W
            have hb3 : Below w.heap.size w W := by rw [← hW]; exact Below.next HB2.out (below_alloc _ _) HB2.out.size
            have r5 : Row W w2.heap.size 373 [.int .i64 x.1, .int .i64 x.2] := by rw [← hW]; exact Row.new' rfl
            have d0 := r5.cell_of (i := 0) rfl
            have d1 := r5.cell_of (i := 1) rfl
            replace c0 := cell_later hb3 c0
            replace c1 := cell_later hb3 c1
            replace c2 := cell_later hb3 c2
            replace c3 := cell_later hb3 c3
            have HB3 := hide hb3
            have hzW := hb3.size
            replace HL := hide (HL.out.later hb3)
            replace HR := hide (HR.out.later hb3)
            simp only [List.length_cons] at hzl
            clear hW hb3 r5 HB2
            refine rg0 (S := (fun w' => Below W.heap.size W w' ∧ w'.cell? ⟨w2.heap.size, 0, none⟩ = some (.int .i64 x.1) ∧ w'.cell? ⟨w2.heap.size, 1, none⟩ = some (.int .i64 x.2) ∧ w'.cell? ⟨b1, 0, none⟩ = some (.int .i64 e.1) ∧ w'.cell? ⟨b1, 1, none⟩ = some (.int .i64 e.2) ∧ w'.cell? ⟨b1, 2, none⟩ = some (.pointer (some ⟨b2, 0, none⟩)) ∧ w'.cell? ⟨b1, 3, none⟩ = some (.pointer (some ⟨b3, 0, none⟩)))) 14 rfl (by kernel_rfl) ?_ (fun hHeld => ?_)
            · exact ⟨(Below.refl _ _).drew, d0, d1, c0, c1, c2, c3⟩
            iterate 11 (refine tk 13 (by rfl) (by kernel_rfl) (by exact fun _ _ _ h => h) (.inl ⟨by rfl, fun w hS => by (try dsimp only at hS); go_simp; (try with_reducible rfl)⟩) (by assumption) ?_; try go_frame)
            refine rd1 11 (by rfl) (by kernel_rfl) (fun K hK => ?_)
            go_simp
            refine (IH.out x.1 _ _ _ _ (HR.out.later hHeld.1) HA2.out (by have := HX.out; rw [List.nil_append] at this; rw [this]; rfl) (by have := hHeld.1.size; omega) (by simp only [List.length_cons]; omega)).mono ?_
            rintro e' w4 ⟨p4, h4, rfl, t4, hb4⟩
            rw [HDF.out] at t4
            go_wp2_with fail
            refine hK.out _ _ ?_ (fun hHeld => ?_)
            · exact keepT6 hb4 hHeld
            clear hK K
            (try go_frame)
            refine rd1 12 (by rfl) (by kernel_rfl) (fun K hK => ?_)
            go_simp
            refine (balanced_w (I := I) (B := B) ⟨d, HL.out.later hHeld.1⟩ t4 (by have := hHeld.1.size; omega) (by omega)).mono ?_
            rintro e' w5 ⟨p5, h5, rfl, t5, hb5⟩
            have HT := hide t5
            clear t5
            go_wp2_with fail
            refine hK.out _ _ ?_ (fun hHeld => ?_)
            · exact keepT6 hb5 hHeld
            clear hK K
            (try go_frame)
            iterate 1 (refine tk 13 (by rfl) (by kernel_rfl) (by exact fun _ _ _ h => h) (.inl ⟨by rfl, fun w hS => by (try dsimp only at hS); go_simp; (try with_reducible rfl)⟩) (by assumption) ?_; try go_frame)
            refine wpAnyH_done (by kernel_rfl) ?_ _
            go_wp2_with fail
            go_ret
            exact ⟨_, _, rfl, HT.out, Below.next HB3.out hHeld.1 HB3.out.size⟩
end
end Go.Proofs.YtefjhnhdagolhaaGreat
namespace Go.Proofs.YtefjhnhdagolhaaGreat
open Go.RowKit
attribute [local go_sem ↓] Go.wp_at_zero Go.wp_at_succ
theorem ptr_same {w w' : World} {b o : Nat} {v : Value} (h : w.cell? ⟨b, o, none⟩ = some v) (e : w'.heap[b]? = w.heap[b]?) : w'.cell? ⟨b, o, none⟩ = some v := by rw [World.cell?_of_block (w := w) e]; exact h
theorem Fr.of_grown {w w' : World} {row : Option Nat} (h : w.grownBy w' row) : Fr (fun k => row = some k) w w' := ⟨h.os, h.tape, h.output, h.size, fun k hk hn => h.block k hk fun e => hn e.symm⟩
theorem keepA4 {own : Nat → Prop} {row : Option Nat} {w0 w w' : World} {b1 : Nat} {v1 v2 v3 v4 : Value} (hg : w.grownBy w' row) (h : Fr own w0 w ∧ w.cell? ⟨b1, 0, none⟩ = some v1 ∧ w.cell? ⟨b1, 1, none⟩ = some v2 ∧ w.cell? ⟨b1, 2, none⟩ = some v3 ∧ w.cell? ⟨b1, 3, none⟩ = some v4) (h1 : b1 < w.heap.size) (ho : ∀ k, row = some k → own k ∨ w0.heap.size ≤ k) (hn : row ≠ some b1) :
    Fr own w0 w' ∧ w'.cell? ⟨b1, 0, none⟩ = some v1 ∧ w'.cell? ⟨b1, 1, none⟩ = some v2 ∧ w'.cell? ⟨b1, 2, none⟩ = some v3 ∧ w'.cell? ⟨b1, 3, none⟩ = some v4 := by
  have e := (Fr.of_grown hg).block b1 h1 hn
  exact ⟨h.1.grow (Fr.of_grown hg) ho, ptr_same h.2.1 e, ptr_same h.2.2.1 e, ptr_same h.2.2.2.1 e, ptr_same h.2.2.2.2 e⟩
theorem keepF4 {own : Nat → Prop} {w0 w w' : World} {b1 : Nat} {v1 v2 v3 v4 : Value} (hb : Fr own w w') (h1 : b1 < w.heap.size) (hn : ¬ own b1) (hf : Fr own w0 w') (h : w.cell? ⟨b1, 0, none⟩ = some v1 ∧ w.cell? ⟨b1, 1, none⟩ = some v2 ∧ w.cell? ⟨b1, 2, none⟩ = some v3 ∧ w.cell? ⟨b1, 3, none⟩ = some v4) :
    Fr own w0 w' ∧ w'.cell? ⟨b1, 0, none⟩ = some v1 ∧ w'.cell? ⟨b1, 1, none⟩ = some v2 ∧ w'.cell? ⟨b1, 2, none⟩ = some v3 ∧ w'.cell? ⟨b1, 3, none⟩ = some v4 := by
  have e := hb.block b1 h1 hn
  exact ⟨hf, ptr_same h.1 e, ptr_same h.2.1 e, ptr_same h.2.2.1 e, ptr_same h.2.2.2 e⟩
structure Grew (w : World) (v : Value) (v' : Value) (l : List Int) (w' : World) : Prop where
  own : w'.ownsRow 0 3 1 v' l.length (ints l)
  at' : ∀ k, v'.ownBlock = some k → v.ownBlock = some k ∨ w.heap.size ≤ k
  fr : Fr (fun k => v.ownBlock = some k) w w'
section
variable {I : Nat → Prop} {N : Nat}
set_option maxRecDepth 20000 in
set_option maxHeartbeats 4000000 in
theorem listed_at (hI : ∀ k, I k → k < N) : ∀ (d : Nat) (w : World) (p : Option Addr) (s : Prs) (h : Nat) (v : Value) (l : List Int), TrAt I w d p s h → N ≤ w.heap.size → l.length + 2 * s.length ≤ 10000000000000 → w.ownsRow 0 3 1 v l.length (ints l) → (∀ k, v.ownBlock = some k → ¬ I k) →
    Calls Tryz.prog 381 #[.pointer p, v] w fun e w' => ∃ v', e = .returned v' ∧ Grew w v v' (l ++ flat s) w'
  | 0, w, p, s, h, v, l, q, hN, hz, ho, hv => by
    obtain ⟨rfl, rfl, -⟩ := q
    have HP := hide (show ∃ v', Ending.returned v = .returned v' ∧ Grew w v v' (l ++ flat []) w from ⟨v, rfl, by simpa [flat] using ho, fun k e => .inl e, Fr.refl _ _⟩)
    go_enter Tryz.func381, Tryz.ntmps381
    go_wp2
    go_ret
    exact HP.out
  | d + 1, w, p, s, h, v, l, q, hN, hz, ho, hv => by
    have IH := hide (listed_at hI d)
    rcases q with ⟨rfl, rfl, -⟩ | ⟨b1, pl, pr, e, sl, sr, hl, hr, rfl, hIb, hR1, tl, tr, rfl, -⟩
    · have HP := hide (show ∃ v', Ending.returned v = .returned v' ∧ Grew w v v' (l ++ flat []) w from ⟨v, rfl, by simpa [flat] using ho, fun k e => .inl e, Fr.refl _ _⟩)
      go_enter Tryz.func381, Tryz.ntmps381
      go_wp2
      go_ret
      exact HP.out
    · obtain ⟨ti, hti, htz⟩ := Option.map_eq_some_iff.1 info_int
      simp only [Prod.mk.injEq] at htz
      obtain ⟨htz1, htz2, htz3⟩ := htz
      have HTI := hide hti
      have HT1 := hide htz1
      have HT2 := hide htz2
      have HT3 := hide htz3
      have hzl : l.length + 2 * sl.length + 2 * sr.length + 2 ≤ 10000000000000 := by simp only [List.length_append, List.length_cons] at hz; omega
      have hb1 := hI b1 hIb
      have hnb : v.ownBlock ≠ some b1 := fun c => hv b1 c hIb
      have hvlt : ∀ k, v.ownBlock = some k → k < w.heap.size := fun k e => (ho.lt k e).2
      unfold tnode at hR1
      have c0 := hR1.cell_of (i := 0) rfl
      have c1 := hR1.cell_of (i := 1) rfl
      have c2 := hR1.cell_of (i := 2) rfl
      have c3 := hR1.cell_of (i := 3) rfl
      have HL := hide tl
      have HR := hide tr
      have HO := hide ho
      have HLn := hide (show (l ++ flat sl).length = l.length + 2 * sl.length by rw [List.length_append, flat_len])
      have HFl := hide (show l ++ flat (sl ++ e :: sr) = (l ++ flat sl ++ [e.1, e.2]) ++ flat sr by rw [flat_append, flat_cons]; simp)
      rw [HFl.out]
      clear hR1 tl tr hti htz1 htz2 htz3 hz ho hIb
      go_enter Tryz.func381, Tryz.ntmps381
      go_upto_region 3 with fail
      refine rg0 (S := (fun w' => Fr (fun k => v.ownBlock = some k) w w' ∧ w'.cell? ⟨b1, 0, none⟩ = some (.int .i64 e.1) ∧ w'.cell? ⟨b1, 1, none⟩ = some (.int .i64 e.2) ∧ w'.cell? ⟨b1, 2, none⟩ = some (.pointer pl) ∧ w'.cell? ⟨b1, 3, none⟩ = some (.pointer pr))) 19 rfl (by kernel_rfl) ?_ (fun hHeld => ?_)
      · exact ⟨(Fr.refl _ _).drew, c0, c1, c2, c3⟩
      iterate 5 (refine tk 18 (by rfl) (by kernel_rfl) (by exact fun _ _ _ h => h) (.inl ⟨by rfl, fun w hS => by (try dsimp only at hS); go_simp; (try with_reducible rfl)⟩) (by assumption) ?_; try go_frame)
      iterate 10 (refine tk 19 (by rfl) (by kernel_rfl) (by exact fun _ _ _ h => h) (.inl ⟨by rfl, fun w hS => by (try dsimp only at hS); go_simp; (try with_reducible rfl)⟩) (by assumption) ?_; try go_frame)
      refine wpAnyH_ready (rs := [5, 16]) (by kernel_rfl) (by simp) (rc (by rfl) (fun K hK => ?_) (rc (by rfl) (fun K hK => ?_) AllReadyH.nil))
      · go_simp
        refine (IH.out _ _ _ _ _ l (HL.out.stay fun k hk hk' => ⟨hk, hHeld.1.block k hk' (fun c => hv k c hk)⟩) (by have := hHeld.1.size; omega) (by omega) (by first | exact HO.out | exact HO.out.alloc _) hv).mono ?_
        rintro e' w3 ⟨v3, rfl, hG3⟩
        have HO3 := hide hG3.own
        have HA3 := hide (show ∀ k, v3.ownBlock = some k → v.ownBlock = some k ∨ w.heap.size ≤ k from fun k e => (hG3.at' k e).imp id fun q => by first | exact q | (simp at q; omega))
        have hs3 : w.heap.size ≤ w3.heap.size := Nat.le_trans hHeld.1.size hG3.fr.size
        (try have HBS := hide (show Row w3 w.heap.size 3 [.int .i64 e.1, .int .i64 e.2] from (Row.new' (by simp)).of_block (hG3.fr.block _ (by simp) (fun c => by have := hvlt _ c; omega))))
        go_wp2_with fail
        refine hK.out _ _ ?_ (fun hHeld => ?_)
        · exact keepF4 hG3.fr (by have := hHeld.1.size; omega) hnb (hHeld.1.grow hG3.fr fun k hk => .inl hk) hHeld.2
        clear hK K
        (try go_frame)
        refine rd1 16 (by rfl) (by kernel_rfl) (fun K hK => ?_)
        go_simp
        refine hK.out _ _ ?_ (fun hHeld => ?_)
        · exact keepF4 (Fr.of_below (below_alloc _ _)) (by have := hHeld.1.size; omega) hnb (hHeld.1.grow (own' := fun k => v.ownBlock = some k) (Fr.of_below (below_alloc _ _)) fun k hk => .inl hk) hHeld.2
        clear hK K
        (try go_frame)
        refine rd1 17 (by rfl) (by kernel_rfl) (fun K hK => ?_)
        have hln := HLn.out
        first
          | refine step_append_lies _ rfl (.tmp 13) (.tmp 24) 22 rfl 0 3 ti (.int .i64 0) 1 8 Tryz.underlying22 HTI.out HT1.out HT2.out HT3.out rfl (by decide) v3 (l ++ flat sl).length (ints (l ++ flat sl)) rfl (HO3.out.alloc _) ⟨w3.heap.size, 0, none⟩ 2 2 [.int .i64 e.1, .int .i64 e.2] rfl rfl (World.news_of_block (Row.new' (by simp))) (by simp [Value.oneCell']) (by decide) (by unfold maxLen; omega) (by omega) (Nat.zero_le _) _ rfl ?_
          | refine step_append_lies _ rfl (.tmp 13) (.tmp 24) 22 rfl 0 3 ti (.int .i64 0) 1 8 Tryz.underlying22 HTI.out HT1.out HT2.out HT3.out rfl (by decide) v3 (l ++ flat sl).length (ints (l ++ flat sl)) rfl HO3.out ⟨w.heap.size, 0, none⟩ 2 2 [.int .i64 e.1, .int .i64 e.2] rfl rfl (World.news_of_block HBS.out) (by simp [Value.oneCell']) (by decide) (by unfold maxLen; omega) (by omega) (Nat.zero_le _) _ rfl ?_
        clear hln
        intro g gc w4 hown hgr hat hlt4
        have HO4 := hide hown
        have HG4 := hide hgr
        have HT4 := hide hat
        clear hown hgr hat hlt4
        refine hK.out _ _ ?_ (fun hHeld => ?_)
        · exact keepA4 HG4.out hHeld (by have := hHeld.1.size; omega) (fun k e => HA3.out k e) (fun c => (HA3.out _ c).elim hnb (by omega))
        clear hK K
        (try go_frame)
        iterate 1 (refine tk 18 (by rfl) (by kernel_rfl) (by exact fun _ _ _ h => h) (.inl ⟨by rfl, fun w hS => by (try dsimp only at hS); go_simp; (try with_reducible rfl)⟩) (by assumption) ?_; try go_frame)
        refine wpAnyH_done (by kernel_rfl) ?_ _
        have hgg : v.ownBlock = some g ∨ w.heap.size ≤ g := by
          rcases HT4.out with q | q
          · exact HA3.out g q
          · exact .inr (by rw [q]; first | omega | (simp; omega))
        have ho4 : w4.ownsRow 0 3 1 (.slice (some ⟨g, 0, none⟩) (l.length + (flat sl).length + 2) gc) (l ++ flat sl ++ [e.1, e.2]).length (ints (l ++ flat sl ++ [e.1, e.2])) := by have := HO4.out; simpa [ints, Nat.add_assoc] using this
        have hgI : ∀ k, (Value.slice (some ⟨g, 0, none⟩) (l.length + (flat sl).length + 2) gc).ownBlock = some k → v.ownBlock = some k ∨ w.heap.size ≤ k := fun k q => by
          have : g = k := by simpa [Value.ownBlock] using q
          subst this
          exact hgg
        have c4 := hHeld.2.2.2.2
        have HCL := hide (IH.out w4 pr sr hr _ (l ++ flat sl ++ [e.1, e.2]) (HR.out.stay fun k hk hk' => ⟨hk, hHeld.1.block k hk' (fun c => hv k c hk)⟩) (by have := hHeld.1.size; omega) (by have := HLn.out; simp only [List.length_append, List.length_cons, List.length_nil] at this ⊢; omega) ho4 (fun k q hk => (hgI k q).elim (fun c => hv k c hk) (fun c => by have := hI k hk; omega)))
        have HHF := hide hHeld.1
        have HGI := hide hgI
        clear hHeld ho4 hgg hgI HO4 HG4 HT4 HA3 HO3 hG3
        go_wp2_with fail
        refine HCL.out.mono ?_
        rintro e' w5 ⟨v5, rfl, hG5⟩
        have HG5 := hide hG5
        clear hG5 HCL
        go_wp2_with fail
        go_ret
        exact ⟨v5, rfl, HG5.out.own, fun k q => (HG5.out.at' k q).elim (HGI.out k) (fun c => .inr (Nat.le_trans HHF.out.size c)), HHF.out.grow HG5.out.fr (fun k q => HGI.out k q)⟩
      · go_simp
        refine hK.out _ _ ?_ (fun hHeld => ?_)
        · exact keepF4 (Fr.of_below (below_alloc _ _)) (by have := hHeld.1.size; omega) hnb (hHeld.1.grow (own' := fun k => v.ownBlock = some k) (Fr.of_below (below_alloc _ _)) fun k hk => .inl hk) hHeld.2
        clear hK K
        (try go_frame)
        refine rd1 5 (by rfl) (by kernel_rfl) (fun K hK => ?_)
        go_simp
        refine (IH.out _ _ _ _ _ l (HL.out.stay fun k hk hk' => ⟨hk, hHeld.1.block k hk' (fun c => hv k c hk)⟩) (by have := hHeld.1.size; omega) (by omega) (by first | exact HO.out | exact HO.out.alloc _) hv).mono ?_
        rintro e' w3 ⟨v3, rfl, hG3⟩
        have HO3 := hide hG3.own
        have HA3 := hide (show ∀ k, v3.ownBlock = some k → v.ownBlock = some k ∨ w.heap.size ≤ k from fun k e => (hG3.at' k e).imp id fun q => by first | exact q | (simp at q; omega))
        have hs3 : w.heap.size ≤ w3.heap.size := Nat.le_trans hHeld.1.size hG3.fr.size
        (try have HBS := hide (show Row w3 w.heap.size 3 [.int .i64 e.1, .int .i64 e.2] from (Row.new' (by simp)).of_block (hG3.fr.block _ (by simp) (fun c => by have := hvlt _ c; omega))))
        go_wp2_with fail
        refine hK.out _ _ ?_ (fun hHeld => ?_)
        · exact keepF4 hG3.fr (by have := hHeld.1.size; omega) hnb (hHeld.1.grow hG3.fr fun k hk => .inl hk) hHeld.2
        clear hK K
        (try go_frame)
        refine rd1 17 (by rfl) (by kernel_rfl) (fun K hK => ?_)
        have hln := HLn.out
        first
          | refine step_append_lies _ rfl (.tmp 13) (.tmp 24) 22 rfl 0 3 ti (.int .i64 0) 1 8 Tryz.underlying22 HTI.out HT1.out HT2.out HT3.out rfl (by decide) v3 (l ++ flat sl).length (ints (l ++ flat sl)) rfl (HO3.out.alloc _) ⟨w3.heap.size, 0, none⟩ 2 2 [.int .i64 e.1, .int .i64 e.2] rfl rfl (World.news_of_block (Row.new' (by simp))) (by simp [Value.oneCell']) (by decide) (by unfold maxLen; omega) (by omega) (Nat.zero_le _) _ rfl ?_
          | refine step_append_lies _ rfl (.tmp 13) (.tmp 24) 22 rfl 0 3 ti (.int .i64 0) 1 8 Tryz.underlying22 HTI.out HT1.out HT2.out HT3.out rfl (by decide) v3 (l ++ flat sl).length (ints (l ++ flat sl)) rfl HO3.out ⟨w.heap.size, 0, none⟩ 2 2 [.int .i64 e.1, .int .i64 e.2] rfl rfl (World.news_of_block HBS.out) (by simp [Value.oneCell']) (by decide) (by unfold maxLen; omega) (by omega) (Nat.zero_le _) _ rfl ?_
        clear hln
        intro g gc w4 hown hgr hat hlt4
        have HO4 := hide hown
        have HG4 := hide hgr
        have HT4 := hide hat
        clear hown hgr hat hlt4
        refine hK.out _ _ ?_ (fun hHeld => ?_)
        · exact keepA4 HG4.out hHeld (by have := hHeld.1.size; omega) (fun k e => HA3.out k e) (fun c => (HA3.out _ c).elim hnb (by omega))
        clear hK K
        (try go_frame)
        iterate 1 (refine tk 18 (by rfl) (by kernel_rfl) (by exact fun _ _ _ h => h) (.inl ⟨by rfl, fun w hS => by (try dsimp only at hS); go_simp; (try with_reducible rfl)⟩) (by assumption) ?_; try go_frame)
        refine wpAnyH_done (by kernel_rfl) ?_ _
        have hgg : v.ownBlock = some g ∨ w.heap.size ≤ g := by
          rcases HT4.out with q | q
          · exact HA3.out g q
          · exact .inr (by rw [q]; first | omega | (simp; omega))
        have ho4 : w4.ownsRow 0 3 1 (.slice (some ⟨g, 0, none⟩) (l.length + (flat sl).length + 2) gc) (l ++ flat sl ++ [e.1, e.2]).length (ints (l ++ flat sl ++ [e.1, e.2])) := by have := HO4.out; simpa [ints, Nat.add_assoc] using this
        have hgI : ∀ k, (Value.slice (some ⟨g, 0, none⟩) (l.length + (flat sl).length + 2) gc).ownBlock = some k → v.ownBlock = some k ∨ w.heap.size ≤ k := fun k q => by
          have : g = k := by simpa [Value.ownBlock] using q
          subst this
          exact hgg
        have c4 := hHeld.2.2.2.2
        have HCL := hide (IH.out w4 pr sr hr _ (l ++ flat sl ++ [e.1, e.2]) (HR.out.stay fun k hk hk' => ⟨hk, hHeld.1.block k hk' (fun c => hv k c hk)⟩) (by have := hHeld.1.size; omega) (by have := HLn.out; simp only [List.length_append, List.length_cons, List.length_nil] at this ⊢; omega) ho4 (fun k q hk => (hgI k q).elim (fun c => hv k c hk) (fun c => by have := hI k hk; omega)))
        have HHF := hide hHeld.1
        have HGI := hide hgI
        clear hHeld ho4 hgg hgI HO4 HG4 HT4 HA3 HO3 hG3
        go_wp2_with fail
        refine HCL.out.mono ?_
        rintro e' w5 ⟨v5, rfl, hG5⟩
        have HG5 := hide hG5
        clear hG5 HCL
        go_wp2_with fail
        go_ret
        exact ⟨v5, rfl, HG5.out.own, fun k q => (HG5.out.at' k q).elim (HGI.out k) (fun c => .inr (Nat.le_trans HHF.out.size c)), HHF.out.grow HG5.out.fr (fun k q => HGI.out k q)⟩
end
end Go.Proofs.YtefjhnhdagolhaaGreat
