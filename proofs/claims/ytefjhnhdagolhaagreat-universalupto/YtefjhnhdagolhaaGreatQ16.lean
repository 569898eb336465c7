import Derived.Test.YtefjhnhdagolhaaGreatQ15
namespace Go.Proofs.YtefjhnhdagolhaaGreat
open Go.RowKit
open M (upd upd_same upd_other RSt RTh Dd PI)
attribute [local go_sem ↓] Go.wp_at_zero Go.wp_at_succ
theorem next_flip {σ : Type} {P : M.Plain σ} {Y' : RSt} {c : Nat} {d : Dd} (h4 : d.st + 1 = 4) (h0 : (Y'.th d.t).part ≠ 0) (he : d.en = 0) : d.next P Y' c = { d with st := d.st + 1, fl := c + 1, nb := Y'.bs.length } := by
  unfold M.Dd.next
  rw [if_pos h4, if_pos h4, if_neg h0, if_neg h0, ← he]
theorem next_on {σ : Type} {P : M.Plain σ} {Y' : RSt} {c : Nat} {d : Dd} (h4 : d.st + 1 ≠ 4) (h0 : (Y'.th d.t).part ≠ 0) (he : d.en = 0) : d.next P Y' c = { d with st := d.st + 1 } := by
  unfold M.Dd.next
  rw [if_neg h4, if_neg h4, if_neg h0, if_neg h0, ← he]
theorem next_end {σ : Type} {P : M.Plain σ} {Y' : RSt} {c : Nat} {d : Dd} (h4 : d.st + 1 ≠ 4) (h0 : (Y'.th d.t).part = 0) : d.next P Y' c = { d with st := d.st + 1, en := c + 1, an := ansD P Y' d.t } := by
  unfold M.Dd.next
  rw [if_neg h4, if_neg h4, if_pos h0, if_pos h0]
  rfl
section
variable {σ : Type} {P : M.Plain σ} {tell : σ → List Int} {D : DL} {X : (Nat → Prop) → RSt → World → Prop} {A : PL} {S : Nat → Prop} {w0 : QW} {w w1 : World} {vd vu vs : Value} {Y Y' : RSt} {ds : List Dd} {us ss : List Int} {c : Nat} {fBe fSt fAn fDo fOr fTe fBo K t : Nat} {u : Nat → Option Nat}
set_option maxRecDepth 20000 in
set_option maxHeartbeats 8000000 in
theorem pstep_w (xo : XOk P tell D A.tE A.bN X fBe fSt fAn fDo fOr fTe fBo) (h : PS P X D A w0 K Y ds u c w) (h64 : D.n ≤ 64) (hcap : D.cap ≤ 64) (ht : t < D.n) (hK : K + 1 ≤ 900000000) :
    Calls Tryz.prog 73 #[.pointer (some ⟨A.bP, 0, none⟩), .int .i64 (t : Int)] w fun e w' => e = .returned (.bool true) ∧ ∃ ds' u', PS P X D A w0 (K + 1) (stY D.n D.cap Y (t : Int)) ds' u' (c + 1) w' := by
  obtain ⟨S, vd, vu, vs, hm, hp, hl, hc⟩ := h
  have hn0 : 0 < D.n := by omega
  have hmx := xo.mSt
  have hcx := xo.cSt
  have hma := xo.mAn
  have hca := xo.cAn
  have hir : inR D.n (t : Int) := ⟨by omega, by omega⟩
  have hw : IntKind.i64.wrap ((c : Int) + 1) = (c : Int) + 1 := wrapi _ (by omega) (by omega)
  have ht0 : (0 : Int) ≤ (t : Int) := by omega
  have hul : (uvs D.n u).length = D.n := by simp [uvs]
  have ht1 : (t : Int) < ((uvs D.n u).length : Int) := by omega
  have p11 : w.cell? ⟨A.bP, 11, none⟩ = some (.int .i64 (c : Int)) := hm.row.cell_of rfl
  have q11 := hm.row.frozen 11
  have hm2 := hm.setP xo (c + 1) ((c : Int) + 1) (by push_cast; rfl)
  have HX := hide xo
  have HP := hide hp
  have HL := hide hl
  have HM2 := hide hm2
  clear hm hm2 xo hp hl
  go_enter Tryz.func73, Tryz.ntmps73
  go_upto_region 2 with fail
  generalize hW2 : World.setCell w ⟨A.bP, 11, none⟩ (.int .i64 ((c : Int) + 1)) = W2 at *
  have d0 : W2.cell? ⟨A.bP, 0, none⟩ = some (.pointer (some ⟨A.bX, 0, none⟩)) := HM2.out.row.cell_of (i := 0) rfl
  have dx : W2.cell? ⟨A.bX, 0, none⟩ = some (.iface A.tE (.pointer (some ⟨A.bN, 0, none⟩))) := HM2.out.obj.cell_of (i := 0) rfl
  have HST := hide (HX.out.st _ _ _ (t : Int) HM2.out.x (HL.out.mono (by omega)))
  have HGO := hide (show ∀ w1, XGo X S W2 (stY D.n D.cap Y (t : Int)) w1 → PM X D A w0 (Grow S W2 w1) vd vu vs (stY D.n D.cap Y (t : Int)) ds (uvs D.n u) (sqs D.n Y) (c + 1) w1 from fun w1 hg => HM2.out.xgo HX.out hg)
  clear p11 q11 hW2
  by_cases hp0 : (Y.th t).part = 0
  · have hu0 : u t = none := (HP.out.un t ht).2 hp0
    have euv : uv u t = -1 := by unfold uv; rw [hu0]
    have e1 : stA D.n D.cap Y (t : Int) = 0 := by unfold stA; rw [if_pos hir, Int.toNat_natCast, if_pos hp0]
    have e2 : stE D.n Y (t : Int) = 5 := by unfold stE; rw [if_pos hir, Int.toNat_natCast, if_pos hp0]
    have e3 : stY D.n D.cap Y (t : Int) = Y := by unfold stY; rw [if_pos hir, Int.toNat_natCast, if_pos hp0]
    rw [e1, e2] at HST
    have E3 := hide e3
    clear e1 e2 e3 hu0
    go_wp2_with fail
    refine HST.out.mono ?_
    rintro e w1 ⟨rfl, hg⟩
    have r1 := HGO.out w1 hg
    rw [E3.out] at r1
    have hut : (ints (uvs D.n u))[t]? = some (.int .i64 (uv u t)) := ints_get (range_map_get ht)
    obtain ⟨gu, cu, rfl, cut⟩ := owns_get r1.ou hut
    rw [euv] at cut
    have e9 : w1.cell? ⟨A.bP, 9, none⟩ = some (.slice (some ⟨gu, 0, none⟩) (uvs D.n u).length cu) := r1.row.cell_of rfl
    have HR1 := hide r1
    clear hg r1 d0 dx HGO euv hut
    go_wp2
    go_ret
    rw [E3.out]
    exact ⟨rfl, ds, u, ⟨_, _, _, _, HR1.out, HP.out.tick, HL.out.mono (by omega), by omega⟩⟩
  · obtain ⟨i, hui⟩ : ∃ i, u t = some i := by
      cases q : u t with
      | none => exact (hp0 ((HP.out.un t ht).1 q)).elim
      | some i => exact ⟨i, rfl⟩
    obtain ⟨d, hd, hdt, hds⟩ := HP.out.ui t i ht hui
    have hdm := List.mem_of_getElem? hd
    have hden : d.en = 0 := (HP.out.en d hdm).2 ⟨by rw [hdt]; exact hp0, by rw [hdt]; exact hds⟩
    have hil : i < ds.length := (List.getElem?_eq_some_iff.mp hd).1
    obtain ⟨Y', hY'⟩ : ∃ Y', Y' = (M.rstep D.n D.cap Y t).1 := ⟨_, rfl⟩
    have hPI := HP.out.step hn0 ht hui hd
    have hwd := HP.out.yi.word hn0 ht hp0
    have hyi := HP.out.yi.step hn0 ht hp0
    have hbo := HP.out.bo.step HP.out.yi ht
    have hlm := HL.out.step t
    have hprt := M.rstep_part (n := D.n) (cap := D.cap) (HP.out.yi.ok.th t ht) hp0
    have hsw := HP.out.sw d hdm hden
    rw [hdt] at hsw
    have e1 : stA D.n D.cap Y (t : Int) = endW (M.rstep D.n D.cap Y t).2 := by unfold stA; rw [if_pos hir, Int.toNat_natCast, if_neg hp0]
    have e2 : stE D.n Y (t : Int) = 0 := by unfold stE; rw [if_pos hir, Int.toNat_natCast, if_neg hp0]
    have e3 : stY D.n D.cap Y (t : Int) = Y' := by rw [hY']; unfold stY; rw [if_pos hir, Int.toNat_natCast, if_neg hp0]
    have e4 : sqs D.n Y = sqs D.n Y' := by rw [hY', sqs_step]
    rw [hwd, ← hY'] at e1
    rw [← hY'] at hPI hyi hbo hlm hprt
    have h4 : d.st + 1 = 4 → (Y'.th t).part ≠ 0 := fun q => hprt.2.2 (by
      by_cases c3 : 3 ≤ (Y.th t).part
      · have := hsw.2.2.1 c3; omega
      · omega)
    have hst9 : d.st ≤ 2000 := Nat.le_trans (HP.out.se d hdm) (M.bound_le h64 hcap)
    rw [e2, e3] at HST
    rw [e1] at HST
    rw [e3] at HGO
    rw [e4] at HGO
    have E3 := hide e3
    have HPI := hide hPI
    have HYI := hide hyi
    have HBO := hide hbo
    have HLM := hide hlm
    have HH := hide (And.intro h4 (And.intro hdt hden))
    have HDS := hide hds
    clear e1 e2 e3 e4 hPI hyi hbo hlm hprt hsw h4 hwd hdt hden hY' hds
    have hall : Y'.order.length ≤ 1000000000000 := by
      rw [order_len]
      have := HYI.out.all h64 (B := 900000000) (fun k hk => Nat.le_trans (HLM.out.1 k hk) (by omega))
      omega
    generalize hen : endW (decide ((Y'.th t).part = 0)) = en at HST
    go_wp2_with fail
    refine HST.out.mono ?_
    rintro e w1 ⟨rfl, hg⟩
    have r1 := HGO.out w1 hg
    generalize hSe : Grow S W2 w1 = S1 at r1
    have euv : uv u t = (i : Int) := by unfold uv; rw [hui]
    have hut : (ints (uvs D.n u))[t]? = some (.int .i64 (uv u t)) := ints_get (range_map_get ht)
    obtain ⟨gu, cu, rfl, cut⟩ := owns_get r1.ou hut
    rw [euv] at cut
    have e9 : w1.cell? ⟨A.bP, 9, none⟩ = some (.slice (some ⟨gu, 0, none⟩) (uvs D.n u).length cu) := r1.row.cell_of rfl
    obtain ⟨gd, cd, rfl, cds⟩ := r1.deed hd
    have e8 : w1.cell? ⟨A.bP, 8, none⟩ = some (.slice (some ⟨gd, 0, none⟩) ds.length cd) := r1.row.cell_of rfl
    have k9 := cds 9 _ rfl
    have f9 := owns_frozen r1.od (g := gd) rfl (i * 12 + 9)
    have hi0 : (0 : Int) ≤ (i : Int) := by omega
    have hi1 : (i : Int) < (ds.length : Int) := by omega
    have hi2 : ¬ (i : Int) < 0 := by omega
    have hws : IntKind.i64.wrap ((d.st : Int) + 1) = (d.st : Int) + 1 := wrapi _ (by omega) (by omega)
    have HM3 := hide (r1.setD HX.out (g := gd) rfl (d' := { d with st := d.st + 1 }) 9 (.int .i64 ((d.st : Int) + 1)) hd (by decide) (by simp [ddc]))
    clear hg r1 d0 dx HGO euv hut hSe cds hmx hcx
    go_upto_region 6 with fail
    go_region
    generalize hW6 : World.drew _ = W6
    have HM6 := hide (show PM X D A w0 _ _ _ _ _ _ _ _ _ W6 by rw [← hW6]; exact HM3.out.below HX.out (Below.drew (Below.refl _ _)))
    clear hW6 e9 cut e8 k9 f9 HM3
    have hd6 : (ds.set i { d with st := d.st + 1 })[i]? = some { d with st := d.st + 1 } := List.getElem?_set_self hil
    have hll : (ds.set i { d with st := d.st + 1 }).length = ds.length := by simp
    obtain ⟨gd', cd', q1, cds⟩ := HM6.out.deed hd6
    rw [hll] at q1
    injection q1 with q1 _ _
    injection q1 with q1
    injection q1 with q1
    subst q1
    have e8 : W6.cell? ⟨A.bP, 8, none⟩ = some (.slice (some ⟨gd, 0, none⟩) ds.length cd) := HM6.out.row.cell_of rfl
    have k9 : W6.cell? ⟨gd, i * 12 + 9, none⟩ = some (.int .i64 ((d.st : Int) + 1)) := cds 9 _ rfl
    have e11 : W6.cell? ⟨A.bP, 11, none⟩ = some (.int .i64 ((c : Int) + 1)) := HM6.out.row.cell_of rfl
    have HCD := hide cds
    clear cds
    by_cases h4 : d.st + 1 = 4
    · have hpe := HH.out.1 h4
      have hen1 : en = 1 := by rw [← hen, decide_eq_false hpe]; rfl
      have h4i : (d.st : Int) + 1 = 4 := by omega
      rw [h4i] at k9
      have HEN := hide hen1
      have k6 := HCD.out 6 _ rfl
      have f6 := owns_frozen HM6.out.od (g := gd) rfl (i * 12 + 6)
      have HM7 := hide (HM6.out.setD HX.out (g := gd) rfl (d' := { d with st := d.st + 1, fl := c + 1 }) 6 (.int .i64 ((c : Int) + 1)) hd6 (by decide) (by simp [ddc]))
      rw [List.set_set] at HM7
      clear hen h4i
      rw [hen1]
      clear hen1
      go_upto_region 10 with fail
      go_region
      generalize hW10 : World.drew _ = W10
      have HM10 := hide (show PM X D A w0 _ _ _ _ _ _ _ _ _ W10 by rw [← hW10]; exact HM7.out.below HX.out (Below.drew (Below.refl _ _)))
      clear hW10 e8 k9 e11 k6 f6 HM7 HM6 HCD hd6
      have hd10 : (ds.set i { d with st := d.st + 1, fl := c + 1 })[i]? = some { d with st := d.st + 1, fl := c + 1 } := List.getElem?_set_self hil
      have e8 : W10.cell? ⟨A.bP, 8, none⟩ = some (.slice (some ⟨gd, 0, none⟩) ds.length cd) := HM10.out.row.cell_of rfl
      obtain ⟨n1, n2, -, -, n5, -, -, -⟩ := HM10.out.ne
      have hgP : ¬ A.bP = gd := fun q => n2 (by rw [q]; rfl)
      have hgX : ¬ A.bX = gd := fun q => n5 (by rw [q]; rfl)
      have th8 : W10.there gd (i * 12 + 8) 1 := fun j hj => by
        obtain ⟨g', cp', q1, q2⟩ := HM10.out.deed hd10
        injection q1 with q1 _ _
        injection q1 with q1
        injection q1 with q1
        subst q1
        have : j = 0 := by omega
        subst this
        exact ⟨by rw [Nat.add_zero, q2 8 _ rfl]; rfl, owns_frozen HM10.out.od (g := gd) rfl _⟩
      have HBA := hide (show ∀ W : World, Fr (fun k => k = gd) W10 W → Calls Tryz.prog 39 #[.pointer (some ⟨A.bP, 0, none⟩)] W fun e w' => e = .returned (.int .i64 (Y'.bs.length : Int)) ∧ Below W.heap.size W w' from fun W hF => batches_w HX.out (hF.cell hgP (HM10.out.row.cell_of rfl)) (hF.cell hgX (HM10.out.obj.cell_of rfl)) (HX.out.stay _ _ _ _ _ HM10.out.x (fun k hS => hF.block k (HM10.out.xl k hS) (fun q => (HM10.out.sx k hS).2.2.1 (by rw [q]; rfl))) (fun _ q => q) (fun k hS => Nat.lt_of_lt_of_le (HM10.out.xl k hS) hF.size)) (HLM.out.mono (by omega)) HBO.out hall)
      have hsz3 : (Tryz.prog.info? 3).map (·.size) = some 1 := by kernel_rfl
      go_upto_region 11 with fail
      refine rg0 (S := (fun w' => Fr (fun k => k = gd) W10 w' ∧ w'.cell? ⟨A.bP, 8, none⟩ = some (.slice (some ⟨gd, 0, none⟩) ds.length cd) ∧ w'.there gd (i * 12 + 8) 1)) 10 rfl (by kernel_rfl) ?_ (fun hHeld => ?_)
      · exact ⟨(Fr.refl _ _).drew, e8, th8⟩
      iterate 6 (refine tk 9 (by rfl) (by kernel_rfl) (by exact fun _ _ _ h => h) (.inl ⟨by rfl, fun w hS => by (try dsimp only at hS); go_simp; (try with_reducible rfl)⟩) (by assumption) ?_; try go_frame)
      refine rd1 6 (by rfl) (by kernel_rfl) (fun K hK => ?_)
      go_simp
      refine (HBA.out _ hHeld.1).mono ?_
      rintro e w3 ⟨rfl, hb3⟩
      have HM11 := hide ((HM10.out.below HX.out (Below.drew (Below.refl _ _))).below HX.out hb3)
      go_wp2_with fail
      refine hK.out _ _ ?_ (fun hHeld => ?_)
      · exact ⟨hHeld.1.trans (Fr.of_below hb3), cell_later hb3 hHeld.2.1, there_later hb3 hHeld.2.2⟩
      clear hK K
      (try go_frame)
      iterate 2 (refine tk 9 (by rfl) (by kernel_rfl) (by exact fun _ _ _ h => h) (.inl ⟨by rfl, fun w hS => by (try dsimp only at hS); go_simp; (try with_reducible rfl)⟩) (by assumption) ?_; try go_frame)
      refine rd1 9 (by rfl) (by kernel_rfl) (fun K hK => ?_)
      rw [if_pos (by rfl)]
      refine wp_store_one _ _ _ rfl gd (i * 12 + 8) (.int .i64 (Y'.bs.length : Int)) rfl rfl rfl rfl hHeld.2.2 hsz3 ?_
      refine hK.out _ _ ?_ (fun hHeld => ?_)
      · exact ⟨hHeld.1.here (b := gd) rfl _ _, cell_kept hHeld.2.1 (.inl hgP), there_set hHeld.2.2 _ rfl _⟩
      clear hK K
      (try go_frame)
      refine wpAnyH_done (by kernel_rfl) ?_ _
      have hM12 := HM11.out.setD HX.out (g := gd) rfl (d' := { d with st := d.st + 1, fl := c + 1, nb := Y'.bs.length }) 8 (.int .i64 (Y'.bs.length : Int)) hd10 (by decide) (by simp [ddc])
      rw [List.set_set, ← next_flip (P := P) (c := c) h4 (by rw [HH.out.2.1]; exact hpe) HH.out.2.2] at hM12
      have HM12 := hide hM12
      clear hM12 HM11 hHeld hb3
      go_wp2
      go_ret
      rw [E3.out]
      have q := HPI.out
      rw [if_neg hpe] at q
      exact ⟨rfl, _, u, ⟨_, _, _, _, HM12.out, q, HLM.out, by omega⟩⟩
    · have h4i : ¬ (d.st : Int) + 1 = 4 := by omega
      by_cases hpe : (Y'.th t).part = 0
      · have hen1 : en = 2 := by rw [← hen, decide_eq_true hpe]; rfl
        have eAn : anT P D.n Y' (t : Int) = ((ansD P Y' t).s, (ansD P Y' t).v, 0) := by
          have h1 := HYI.out.ok.ide t ht hpe
          have h2 : (Y'.th t).ops.length ≠ 0 := by
            obtain ⟨e, -⟩ := List.getElem?_eq_some_iff.mp (HPI.out.dt i _ (List.getElem?_set_self hil)).2.2
            rw [show (d.next P Y' c).t = t from HH.out.2.1] at e
            omega
          unfold anT
          rw [if_pos hir, Int.toNat_natCast, if_neg (by rw [hpe]; simp), if_neg (by omega)]
        have HAN := hide (HX.out.an _ _ _ (t : Int) HM6.out.x)
        rw [eAn] at HAN
        have e0 : W6.cell? ⟨A.bP, 0, none⟩ = some (.pointer (some ⟨A.bX, 0, none⟩)) := HM6.out.row.cell_of rfl
        have ex : W6.cell? ⟨A.bX, 0, none⟩ = some (.iface A.tE (.pointer (some ⟨A.bN, 0, none⟩))) := HM6.out.obj.cell_of rfl
        clear hen eAn
        rw [hen1]
        clear hen1
        unfold tri at HAN
        go_wp2_with fail
        refine HAN.out.mono ?_
        rintro e w3 ⟨rfl, hb3⟩
        have HM7 := hide (HM6.out.below HX.out hb3)
        clear hb3 e0 ex e8 k9 e11 HM6 HCD hma hca
        go_wp2_with fail
        generalize hW13 : World.alloc w3 _ = W13
        have hb13 : Below w3.heap.size w3 W13 := by rw [← hW13]; exact below_alloc _ _
        have r13 : Row W13 w3.heap.size 94 [.int .i64 (ansD P Y' t).s, .int .i64 (ansD P Y' t).v] := by rw [← hW13]; exact Row.new' rfl
        have hM13 := HM7.out.below HX.out hb13
        have R13 := hide r13
        clear hW13 hb13 HM7 r13
        have e8 : W13.cell? ⟨A.bP, 8, none⟩ = some (.slice (some ⟨gd, 0, none⟩) ds.length cd) := hM13.row.cell_of rfl
        have e11 : W13.cell? ⟨A.bP, 11, none⟩ = some (.int .i64 ((c : Int) + 1)) := hM13.row.cell_of rfl
        obtain ⟨gq, cq, q1, cds⟩ := hM13.deed hd6
        rw [hll] at q1
        injection q1 with q1 _ _
        injection q1 with q1
        injection q1 with q1
        subst q1
        have k7 := cds 7 _ rfl
        have f7 := owns_frozen hM13.od (g := gd) rfl (i * 12 + 7)
        have hgb : w3.heap.size ≠ gd := fun q => owns_apart hM13.od R13.out (by decide) (by rw [q]; rfl)
        have HM14 := hide (hM13.setD HX.out (g := gd) rfl (d' := { d with st := d.st + 1, en := c + 1 }) 7 (.int .i64 ((c : Int) + 1)) hd6 (by decide) (by simp [ddc]))
        rw [List.set_set] at HM14
        have R14 := hide (R13.out.setOther (a := ⟨gd, i * 12 + 7, none⟩) hgb (.int .i64 ((c : Int) + 1)))
        clear hM13 cds R13 hd6 hll
        go_region
        generalize hW15 : World.drew _ = W15
        have hM15 := show PM X D A w0 _ _ _ _ _ _ _ _ _ W15 by rw [← hW15]; exact HM14.out.below HX.out (Below.drew (Below.refl _ _))
        have R15 := hide (show Row W15 w3.heap.size 94 [.int .i64 (ansD P Y' t).s, .int .i64 (ansD P Y' t).v] by rw [← hW15]; exact R14.out.drew)
        clear hW15 HM14 R14 e8 e11 k7 f7
        have hd15 : (ds.set i { d with st := d.st + 1, en := c + 1 })[i]? = some { d with st := d.st + 1, en := c + 1 } := List.getElem?_set_self hil
        have hl15 : (ds.set i { d with st := d.st + 1, en := c + 1 }).length = ds.length := by simp
        have e8 : W15.cell? ⟨A.bP, 8, none⟩ = some (.slice (some ⟨gd, 0, none⟩) ds.length cd) := hM15.row.cell_of rfl
        obtain ⟨gq, cq, q1, cds⟩ := hM15.deed hd15
        rw [hl15] at q1
        injection q1 with q1 _ _
        injection q1 with q1
        injection q1 with q1
        subst q1
        have k11 := cds 11 _ rfl
        have f11 := owns_frozen hM15.od (g := gd) rfl (i * 12 + 11)
        have a0 := R15.out.cell_of (i := 0) rfl
        have HM16 := hide (hM15.setD HX.out (g := gd) rfl (d' := { d with st := d.st + 1, en := c + 1, an := ⟨(ansD P Y' t).s, d.an.v⟩ }) 11 (.int .i64 (ansD P Y' t).s) hd15 (by decide) (by simp [ddc]))
        rw [List.set_set] at HM16
        have R16 := hide (R15.out.setOther (a := ⟨gd, i * 12 + 11, none⟩) hgb (.int .i64 (ansD P Y' t).s))
        clear hM15 cds R15 hd15 hl15
        go_upto_region 15 with fail
        go_region
        generalize hW17 : World.drew _ = W17
        have hM17 := show PM X D A w0 _ _ _ _ _ _ _ _ _ W17 by rw [← hW17]; exact HM16.out.below HX.out (Below.drew (Below.refl _ _))
        have R17 := hide (show Row W17 w3.heap.size 94 [.int .i64 (ansD P Y' t).s, .int .i64 (ansD P Y' t).v] by rw [← hW17]; exact R16.out.drew)
        clear hW17 HM16 R16 e8 k11 f11 a0
        have hd17 : (ds.set i { d with st := d.st + 1, en := c + 1, an := ⟨(ansD P Y' t).s, d.an.v⟩ })[i]? = some { d with st := d.st + 1, en := c + 1, an := ⟨(ansD P Y' t).s, d.an.v⟩ } := List.getElem?_set_self hil
        have hl17 : (ds.set i { d with st := d.st + 1, en := c + 1, an := ⟨(ansD P Y' t).s, d.an.v⟩ }).length = ds.length := by simp
        have e8 : W17.cell? ⟨A.bP, 8, none⟩ = some (.slice (some ⟨gd, 0, none⟩) ds.length cd) := hM17.row.cell_of rfl
        obtain ⟨gq, cq, q1, cds⟩ := hM17.deed hd17
        rw [hl17] at q1
        injection q1 with q1 _ _
        injection q1 with q1
        injection q1 with q1
        subst q1
        have k10 := cds 10 _ rfl
        have f10 := owns_frozen hM17.od (g := gd) rfl (i * 12 + 10)
        have a1 := R17.out.cell_of (i := 1) rfl
        have HM18 := hide (hM17.setD HX.out (g := gd) rfl (d' := { d with st := d.st + 1, en := c + 1, an := ansD P Y' t }) 10 (.int .i64 (ansD P Y' t).v) hd17 (by decide) (by simp [ddc]))
        rw [List.set_set] at HM18
        clear hM17 cds R17 hd17 hl17
        go_upto_region 16 with fail
        go_region
        generalize hW19 : World.drew _ = W19
        have hM19 := show PM X D A w0 _ _ _ _ _ _ _ _ _ W19 by rw [← hW19]; exact HM18.out.below HX.out (Below.drew (Below.refl _ _))
        clear hW19 HM18 e8 k10 f10 a1
        have e9 : W19.cell? ⟨A.bP, 9, none⟩ = some (.slice (some ⟨gu, 0, none⟩) (uvs D.n u).length cu) := hM19.row.cell_of rfl
        have hut : (ints (uvs D.n u))[t]? = some (.int .i64 (uv u t)) := ints_get (range_map_get ht)
        obtain ⟨gq, cq, q1, cut⟩ := owns_get hM19.ou hut
        injection q1 with q1 _ _
        injection q1 with q1
        injection q1 with q1
        subst q1
        have fu := owns_frozen hM19.ou (g := gu) rfl t
        have hM20 := hM19.setU HX.out (g := gu) rfl t (-1)
        rw [uvs_none ht] at hM20
        have eN := next_end (P := P) (c := c) h4 (show (Y'.th d.t).part = 0 by rw [HH.out.2.1]; exact hpe)
        have eA : ansD P Y' d.t = ansD P Y' t := by rw [HH.out.2.1]
        rw [eA] at eN
        rw [← eN] at hM20
        have HM20 := hide hM20
        clear hM19 hM20 eN hut eA
        go_wp2
        go_ret
        rw [E3.out]
        have q := HPI.out
        rw [if_pos hpe] at q
        exact ⟨rfl, _, _, ⟨_, _, _, _, HM20.out, q, HLM.out, by omega⟩⟩
      · have hen1 : en = 1 := by rw [← hen, decide_eq_false hpe]; rfl
        have HM12 := hide HM6.out
        rw [← next_on (P := P) (Y' := Y') (c := c) h4 (by rw [HH.out.2.1]; exact hpe) HH.out.2.2] at HM12
        clear hen HM6 HCD
        rw [hen1]
        clear hen1
        go_wp2
        go_ret
        rw [E3.out]
        have q := HPI.out
        rw [if_neg hpe] at q
        exact ⟨rfl, _, u, ⟨_, _, _, _, HM12.out, q, HLM.out, by omega⟩⟩
end
end Go.Proofs.YtefjhnhdagolhaaGreat
