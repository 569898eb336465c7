import Derived.Test.YtefjhnhdagolhaaGreatQ10
import Derived.Test.YtefjhnhdagolhaaGreatQ00
import Derived.Test.YtefjhnhdagolhaaGreatQ06
import Derived.Deep.DeepAppendRoom
namespace Go.Proofs.YtefjhnhdagolhaaGreat
open Go.RowKit
attribute [local go_sem ↓] Go.wp_at_zero Go.wp_at_succ
set_option maxRecDepth 20000 in
set_option maxHeartbeats 4000000 in
theorem refNew_table (cap st co : Int) (nx ou : List Int) (vn vo : Value) (w : World) (hn : Sl w vn (ints nx)) (ho : Sl w vo (ints ou)) (n : Nat) (ht : tableOk st co nx ou = true) (n1 : nx.length ≤ 1048576) (n3 : ou.length ≤ 1048576) (h1 : 1 ≤ n) (h2 : n ≤ 64) (h3 : 0 ≤ cap) (h4 : cap ≤ 64) :
    Calls Tryz.prog 41 #[.agg #[.int .i64 5, .int .i64 (n : Int), .int .i64 cap, .int .i64 st, .int .i64 co, vn, vo]] w fun e w' => ∃ b, e = .returned (.tuple #[.pointer (some ⟨b, 0, none⟩), .int .i64 0]) ∧ RefMade w 5 n cap st co nx ou vn vo b w' := by
  obtain ⟨pi, hpi, hpz⟩ := Option.map_eq_some_iff.1 info_pthread
  simp only [Prod.mk.injEq] at hpz
  obtain ⟨hp1, hp2, hp3⟩ := hpz
  have HPI := hide hpi
  have HP1 := hide hp1
  have HP2 := hide hp2
  have HP3 := hide hp3
  clear hpi hp1 hp2 hp3
  have hmk := run_make_zeros (P := Tryz.prog) 22 3 (.int .i64 0) 8 Tryz.underlying22 info_int rfl (n : Int) n rfl (by omega) (by omega)
  have HC := hide (fun W hW => refTable_any st co nx ou vn vo W (hn.below hW) (ho.below hW))
  have HD := hide (fun W hW => own_any st co nx ou vn vo W (hn.below hW) (ho.below hW) n1 n3)
  clear hn ho
  have HT := hide ht
  clear ht
  go_enter Tryz.func41, Tryz.ntmps41
  go_wp2_with fail
  refine (HC.out _ (below_alloc _ _)).mono ?_
  rintro e w1 ⟨rfl, hb1⟩
  rw [HT.out]
  have hR1 : Row w1 w.heap.size 26 (ccs 5 n cap st co vn vo) := (Row.new' rfl).old hb1
  have hB1 : Below w.heap.size w w1 := Below.next (below_alloc w _) hb1 (by simp)
  have hz1 : w.heap.size < w1.heap.size := hR1.lt
  have p0 : w1.cell? ⟨w.heap.size, 0, none⟩ = some (.int .i64 5) := hR1.cell_of rfl
  have p3 : w1.cell? ⟨w.heap.size, 3, none⟩ = some (.int .i64 st) := hR1.cell_of rfl
  have p4 : w1.cell? ⟨w.heap.size, 4, none⟩ = some (.int .i64 co) := hR1.cell_of rfl
  have p5 : w1.cell? ⟨w.heap.size, 5, none⟩ = some vn := hR1.cell_of rfl
  have p6 : w1.cell? ⟨w.heap.size, 6, none⟩ = some vo := hR1.cell_of rfl
  have HR1 := hide hR1
  have HB1 := hide hB1
  clear hR1 hB1 hb1
  go_wp2_with fail
  refine (HD.out _ HB1.out).mono ?_
  rintro e w2 ⟨g1, g2, rfl, hg1, hg2, hr1, hr2, hb2⟩
  have hR2 : Row w2 w.heap.size 26 (ccs 5 n cap st co vn vo) := HR1.out.old hb2
  have s3 : w2.cell? ⟨w.heap.size, 3, none⟩ = some (.int .i64 st) := hR2.cell_of rfl
  have s4 : w2.cell? ⟨w.heap.size, 4, none⟩ = some (.int .i64 co) := hR2.cell_of rfl
  have s5 : w2.cell? ⟨w.heap.size, 5, none⟩ = some vn := hR2.cell_of rfl
  have s6 : w2.cell? ⟨w.heap.size, 6, none⟩ = some vo := hR2.cell_of rfl
  have sf := hR2.frozen
  have hz2 := hb2.size
  have HR2 := hide hR2
  have HG1 := hide hr1
  have HG2 := hide hr2
  have HB2 := hide (Below.next HB1.out hb2 HB1.out.size)
  clear hR2 hr1 hr2 hb2 p0 p3 p4 p5 p6
  go_upto_region 10 with fail
  generalize hW1 : World.setCell (World.setCell (World.setCell (World.setCell w2 _ _) _ _) _ _) _ _ = W1
  have HBW := hide (show Below w.heap.size w W1 by rw [← hW1]; exact ((((HB2.out.setCell (Nat.le_refl _) _).setCell (Nat.le_refl _) _).setCell (Nat.le_refl _) _).setCell (Nat.le_refl _) _))
  have hs1 : w.heap.size + 1 ≤ W1.heap.size := by rw [← hW1]; simp; omega
  have HRN := hide (show Row W1 w.heap.size 26 (ccs 5 n cap st co (.slice (some ⟨g1, 0, none⟩) nx.length nx.length) (.slice (some ⟨g2, 0, none⟩) ou.length ou.length)) by rw [← hW1]; exact (((HR2.out.set 3 _).set 4 _).set 5 _).set 6 _)
  have HW1a := hide (show Row W1 g1 3 (ints nx) by rw [← hW1]; exact Row.setOther (Row.setOther (Row.setOther (Row.setOther HG1.out (by simp; omega) _) (by simp; omega) _) (by simp; omega) _) (by simp; omega) _)
  have HW1b := hide (show Row W1 g2 3 (ints ou) by rw [← hW1]; exact Row.setOther (Row.setOther (Row.setOther (Row.setOther HG2.out (by simp; omega) _) (by simp; omega) _) (by simp; omega) _) (by simp; omega) _)
  have q0 : W1.cell? ⟨w.heap.size, 0, none⟩ = some (.int .i64 5) := HRN.out.cell_of rfl
  have q1 : W1.cell? ⟨w.heap.size, 1, none⟩ = some (.int .i64 (n : Int)) := HRN.out.cell_of rfl
  have q2 : W1.cell? ⟨w.heap.size, 2, none⟩ = some (.int .i64 cap) := HRN.out.cell_of rfl
  have q3 : W1.cell? ⟨w.heap.size, 3, none⟩ = some (.int .i64 st) := HRN.out.cell_of rfl
  have q4 : W1.cell? ⟨w.heap.size, 4, none⟩ = some (.int .i64 co) := HRN.out.cell_of rfl
  have q5 : W1.cell? ⟨w.heap.size, 5, none⟩ = some (.slice (some ⟨g1, 0, none⟩) nx.length nx.length) := HRN.out.cell_of rfl
  have q6 : W1.cell? ⟨w.heap.size, 6, none⟩ = some (.slice (some ⟨g2, 0, none⟩) ou.length ou.length) := HRN.out.cell_of rfl
  clear hW1 s3 s4 s5 s6 sf
  have hI0 : RfI W1 n (ccs 5 n cap st co (.slice (some ⟨g1, 0, none⟩) nx.length nx.length) (.slice (some ⟨g2, 0, none⟩) ou.length ou.length)) (.slice none 0 0) 0 (fun _ => 0) (fun _ => 0) (W1.alloc (.cells (ccs 5 n cap st co (.slice (some ⟨g1, 0, none⟩) nx.length nx.length) (.slice (some ⟨g2, 0, none⟩) ou.length ou.length) ++ [Value.slice none 0 0, .slice none 0 0]).toArray 105)) :=
    ⟨Row.new' rfl, World.ownsRow_nil _ _ _ _, fun t ht => absurd ht (by omega), fun s t _ h => absurd h (by omega), below_alloc _ _⟩
  have HI0 := hide hI0
  clear hI0
  go_wp2_with fail
  go_loopw [6] (fun i w' => ∃ k v bT bF, k ≤ n ∧ i = .int .i64 (k : Int) ∧ RfI W1 n (ccs 5 n cap st co (.slice (some ⟨g1, 0, none⟩) nx.length nx.length) (.slice (some ⟨g2, 0, none⟩) ou.length ou.length)) v k bT bF w') (fun i _ => n - (intOf i).toNat)
  case atStart => exact ⟨0, _, _, _, Nat.zero_le _, rfl, HI0.out⟩
  case round =>
    obtain ⟨k, v, bT, bF, hk, rfl, hI⟩ := hrel
    have hcN : wr.cell? ⟨w.heap.size, 1, none⟩ = some (.int .i64 (n : Int)) := cell_later hI.2.2.2.2 (HRN.out.cell_of rfl)
    by_cases hlt : k < n
    · have hlt' : (k : Int) < (n : Int) := by omega
      have hcv : wr.cell? ⟨W1.heap.size, 7, none⟩ = some v := hI.1.cell_of rfl
      have hth : wr.there W1.heap.size 7 1 := hI.1.there (by simp [ccs])
      have hvlt := hI.2.1.lt
      have hzI := hI.1.lt
      have hneE : some W1.heap.size ≠ v.ownBlock := fun e => by have := (hvlt _ e.symm).1; omega
      have hneN : some w.heap.size ≠ v.ownBlock := fun e => by have := (hvlt _ e.symm).1; omega
      have hsz : (Tryz.prog.info? 103).map (·.size) = some 1 := by kernel_rfl
      have HI := hide hI
      have HCV := hide hcv
      clear hI hcv hvlt
      go_wp2
      refine rg0 (S := (fun w' => w'.cell? ⟨w.heap.size, 1, none⟩ = some (.int .i64 (n : Int)) ∧ w'.there W1.heap.size 7 1)) 15 rfl (by kernel_rfl) ?_ (fun hHeld => ?_)
      · exact ⟨hcN, hth⟩
      iterate 4 (refine tk 14 (by rfl) (by kernel_rfl) (by exact fun _ _ _ h => h) (.inl ⟨by rfl, fun w hS => by (try dsimp only at hS); go_simp; (try with_reducible rfl)⟩) (by assumption) ?_; try go_frame)
      iterate 2 (refine tk 15 (by rfl) (by kernel_rfl) (by exact fun _ _ _ h => h) (.inl ⟨by rfl, fun w hS => by (try dsimp only at hS); go_simp; (try with_reducible rfl)⟩) (by assumption) ?_; try go_frame)
      refine wpAnyH_ready (rs := [4, 7]) (by kernel_rfl) (by simp) (rc (by rfl) (fun K hK => ?_) (rc (by rfl) (fun K hK => ?_) AllReadyH.nil))
      · rw [if_pos (by rfl)]
        refine wp_load_one _ _ rfl _ _ v rfl (by kernel_rfl) (by refine cell_later ?_ HCV.out; repeat (first | exact Below.refl _ _ | refine Below.drew ?_ | refine Below.alloc ?_ (by first | (simp; done) | (simp; omega)) _)) ?_
        refine hK.out _ _ ?_ (fun hHeld => ?_)
        · exact hHeld
        clear hK K
        (try go_frame)
        refine rd1 7 (by rfl) (by kernel_rfl) (fun K hK => ?_)
        go_simp
        refine hK.out _ _ ?_ (fun hHeld => ?_)
        · exact ⟨cell_later (below_alloc _ _) hHeld.1, World.there_alloc hHeld.2 _⟩
        clear hK K
        (try go_frame)
        iterate 1 (refine tk 14 (by rfl) (by kernel_rfl) (by exact fun _ _ _ h => h) (.inl ⟨by rfl, fun w hS => by (try dsimp only at hS); go_simp; (try with_reducible rfl)⟩) (by assumption) ?_; try go_frame)
        refine rd1 9 (by rfl) (by kernel_rfl) (fun K hK => ?_)
        go_simp
        refine hK.out _ _ ?_ (fun hHeld => ?_)
        · exact ⟨cell_later (below_alloc _ _) hHeld.1, World.there_alloc hHeld.2 _⟩
        clear hK K
        (try go_frame)
        refine rd1 10 (by rfl) (by kernel_rfl) (fun K hK => ?_)
        go_simp
        refine hK.out _ _ ?_ (fun hHeld => ?_)
        · exact ⟨cell_later (below_alloc _ _) hHeld.1, World.there_alloc hHeld.2 _⟩
        clear hK K
        (try go_frame)
        refine rd1 11 (by rfl) (by kernel_rfl) (fun K hK => ?_)
        refine step_append_lies _ rfl (.tmp 65) (.tmp 71) 103 rfl (W1.heap.size + 1) 107 pi (.pointer none) 1 8 Tryz.underlying103 HPI.out HP1.out HP2.out HP3.out rfl (by decide) v k (ptrs bT k) rfl ?_ ⟨wr.heap.size + 1 + 1, 0, none⟩ 1 1 [.pointer (some ⟨wr.heap.size + 1, 0, none⟩)] rfl rfl ?_ (by simp [Value.oneCell']) (by decide) (by unfold maxLen; omega) (by omega) ?_ (wr.heap.size + 1 + 1 + 1) (by simp) ?_
        · exact ((HI.out.2.1.alloc _).alloc _).alloc _
        · exact World.news_of_block (Row.drew (Row.new' (by simp)))
        · simp; omega
        intro g gc w4 hown hgr hat hlt4
        have HO := hide hown
        have HG := hide hgr
        have HA := hide hat
        clear hown hgr hat
        refine hK.out _ _ ?_ (fun hHeld => ?_)
        · exact keepG1 HG.out hHeld hneE hneN
        clear hK K
        (try go_frame)
        iterate 2 (refine tk 14 (by rfl) (by kernel_rfl) (by exact fun _ _ _ h => h) (.inl ⟨by rfl, fun w hS => by (try dsimp only at hS); go_simp; (try with_reducible rfl)⟩) (by assumption) ?_; try go_frame)
        refine rd1 14 (by rfl) (by kernel_rfl) (fun K hK => ?_)
        rw [if_pos (by rfl)]
        refine wp_store_one _ _ _ rfl W1.heap.size 7 _ rfl rfl rfl rfl hHeld.2 hsz ?_
        refine hK.out _ _ ?_ (fun hHeld => ?_)
        · exact ⟨(World.cell?_setCell_far _ _ _ _ (by simp; omega)).trans hHeld.1, there_set hHeld.2 _ rfl _⟩
        clear hK K
        (try go_frame)
        refine wpAnyH_done (by kernel_rfl) ?_ _
        (try go_wp2_with fail)
        go_roundw
        case rel => exact ⟨k + 1, _, _, _, by omega, by go_num, RfI.next rfl HI.out (Below.drew (Below.alloc (Below.alloc (below_alloc _ _) (by simp) _) (by simp; omega) _)) (Nat.le_succ _) (Nat.le_refl _) (by omega) (Row.drew (Row.alloc (Row.new' (xs := rthNew n wr.heap.size) (by simp)) _)) (Row.drew (Row.alloc (Row.alloc (Row.new' rfl) _) _)) HO.out HG.out (Or.imp_right (fun h => by rw [h]; simp) HA.out)⟩
        case measure => simp [intOf]; omega
      · go_simp
        refine hK.out _ _ ?_ (fun hHeld => ?_)
        · exact ⟨cell_later (below_alloc _ _) hHeld.1, World.there_alloc hHeld.2 _⟩
        clear hK K
        (try go_frame)
        iterate 1 (refine tk 15 (by rfl) (by kernel_rfl) (by exact fun _ _ _ h => h) (.inl ⟨by rfl, fun w hS => by (try dsimp only at hS); go_simp; (try with_reducible rfl)⟩) (by assumption) ?_; try go_frame)
        refine wpAnyH_ready (rs := [4, 9]) (by kernel_rfl) (by simp) (rc (by rfl) (fun K hK => ?_) (rc (by rfl) (fun K hK => ?_) AllReadyH.nil))
        · rw [if_pos (by rfl)]
          refine wp_load_one _ _ rfl _ _ v rfl (by kernel_rfl) (by refine cell_later ?_ HCV.out; repeat (first | exact Below.refl _ _ | refine Below.drew ?_ | refine Below.alloc ?_ (by first | (simp; done) | (simp; omega)) _)) ?_
          refine hK.out _ _ ?_ (fun hHeld => ?_)
          · exact hHeld
          clear hK K
          (try go_frame)
          refine rd1 9 (by rfl) (by kernel_rfl) (fun K hK => ?_)
          go_simp
          refine hK.out _ _ ?_ (fun hHeld => ?_)
          · exact ⟨cell_later (below_alloc _ _) hHeld.1, World.there_alloc hHeld.2 _⟩
          clear hK K
          (try go_frame)
          refine rd1 10 (by rfl) (by kernel_rfl) (fun K hK => ?_)
          go_simp
          refine hK.out _ _ ?_ (fun hHeld => ?_)
          · exact ⟨cell_later (below_alloc _ _) hHeld.1, World.there_alloc hHeld.2 _⟩
          clear hK K
          (try go_frame)
          refine rd1 11 (by rfl) (by kernel_rfl) (fun K hK => ?_)
          refine step_append_lies _ rfl (.tmp 65) (.tmp 71) 103 rfl (W1.heap.size + 1) 107 pi (.pointer none) 1 8 Tryz.underlying103 HPI.out HP1.out HP2.out HP3.out rfl (by decide) v k (ptrs bT k) rfl ?_ ⟨wr.heap.size + 1 + 1, 0, none⟩ 1 1 [.pointer (some ⟨wr.heap.size + 1, 0, none⟩)] rfl rfl ?_ (by simp [Value.oneCell']) (by decide) (by unfold maxLen; omega) (by omega) ?_ (wr.heap.size + 1 + 1 + 1) (by simp) ?_
          · exact ((HI.out.2.1.alloc _).alloc _).alloc _
          · exact World.news_of_block (Row.drew (Row.new' (by simp)))
          · simp; omega
          intro g gc w4 hown hgr hat hlt4
          have HO := hide hown
          have HG := hide hgr
          have HA := hide hat
          clear hown hgr hat
          refine hK.out _ _ ?_ (fun hHeld => ?_)
          · exact keepG1 HG.out hHeld hneE hneN
          clear hK K
          (try go_frame)
          iterate 2 (refine tk 14 (by rfl) (by kernel_rfl) (by exact fun _ _ _ h => h) (.inl ⟨by rfl, fun w hS => by (try dsimp only at hS); go_simp; (try with_reducible rfl)⟩) (by assumption) ?_; try go_frame)
          refine rd1 14 (by rfl) (by kernel_rfl) (fun K hK => ?_)
          rw [if_pos (by rfl)]
          refine wp_store_one _ _ _ rfl W1.heap.size 7 _ rfl rfl rfl rfl hHeld.2 hsz ?_
          refine hK.out _ _ ?_ (fun hHeld => ?_)
          · exact ⟨(World.cell?_setCell_far _ _ _ _ (by simp; omega)).trans hHeld.1, there_set hHeld.2 _ rfl _⟩
          clear hK K
          (try go_frame)
          refine wpAnyH_done (by kernel_rfl) ?_ _
          (try go_wp2_with fail)
          go_roundw
          case rel => exact ⟨k + 1, _, _, _, by omega, by go_num, RfI.next rfl HI.out (Below.drew (Below.alloc (Below.alloc (below_alloc _ _) (by simp) _) (by simp; omega) _)) (Nat.le_succ _) (Nat.le_refl _) (by omega) (Row.drew (Row.alloc (Row.new' (xs := rthNew n wr.heap.size) (by simp)) _)) (Row.drew (Row.alloc (Row.alloc (Row.new' rfl) _) _)) HO.out HG.out (Or.imp_right (fun h => by rw [h]; simp) HA.out)⟩
          case measure => simp [intOf]; omega
        · go_simp
          refine hK.out _ _ ?_ (fun hHeld => ?_)
          · exact ⟨cell_later (below_alloc _ _) hHeld.1, World.there_alloc hHeld.2 _⟩
          clear hK K
          (try go_frame)
          refine wpAnyH_ready (rs := [4, 10]) (by kernel_rfl) (by simp) (rc (by rfl) (fun K hK => ?_) (rc (by rfl) (fun K hK => ?_) AllReadyH.nil))
          · rw [if_pos (by rfl)]
            refine wp_load_one _ _ rfl _ _ v rfl (by kernel_rfl) (by refine cell_later ?_ HCV.out; repeat (first | exact Below.refl _ _ | refine Below.drew ?_ | refine Below.alloc ?_ (by first | (simp; done) | (simp; omega)) _)) ?_
            refine hK.out _ _ ?_ (fun hHeld => ?_)
            · exact hHeld
            clear hK K
            (try go_frame)
            refine rd1 10 (by rfl) (by kernel_rfl) (fun K hK => ?_)
            go_simp
            refine hK.out _ _ ?_ (fun hHeld => ?_)
            · exact ⟨cell_later (below_alloc _ _) hHeld.1, World.there_alloc hHeld.2 _⟩
            clear hK K
            (try go_frame)
            refine rd1 11 (by rfl) (by kernel_rfl) (fun K hK => ?_)
            refine step_append_lies _ rfl (.tmp 65) (.tmp 71) 103 rfl (W1.heap.size + 1) 107 pi (.pointer none) 1 8 Tryz.underlying103 HPI.out HP1.out HP2.out HP3.out rfl (by decide) v k (ptrs bT k) rfl ?_ ⟨wr.heap.size + 1 + 1, 0, none⟩ 1 1 [.pointer (some ⟨wr.heap.size + 1, 0, none⟩)] rfl rfl ?_ (by simp [Value.oneCell']) (by decide) (by unfold maxLen; omega) (by omega) ?_ (wr.heap.size + 1 + 1 + 1) (by simp) ?_
            · exact ((HI.out.2.1.alloc _).alloc _).alloc _
            · exact World.news_of_block (Row.drew (Row.new' (by simp)))
            · simp; omega
            intro g gc w4 hown hgr hat hlt4
            have HO := hide hown
            have HG := hide hgr
            have HA := hide hat
            clear hown hgr hat
            refine hK.out _ _ ?_ (fun hHeld => ?_)
            · exact keepG1 HG.out hHeld hneE hneN
            clear hK K
            (try go_frame)
            iterate 2 (refine tk 14 (by rfl) (by kernel_rfl) (by exact fun _ _ _ h => h) (.inl ⟨by rfl, fun w hS => by (try dsimp only at hS); go_simp; (try with_reducible rfl)⟩) (by assumption) ?_; try go_frame)
            refine rd1 14 (by rfl) (by kernel_rfl) (fun K hK => ?_)
            rw [if_pos (by rfl)]
            refine wp_store_one _ _ _ rfl W1.heap.size 7 _ rfl rfl rfl rfl hHeld.2 hsz ?_
            refine hK.out _ _ ?_ (fun hHeld => ?_)
            · exact ⟨(World.cell?_setCell_far _ _ _ _ (by simp; omega)).trans hHeld.1, there_set hHeld.2 _ rfl _⟩
            clear hK K
            (try go_frame)
            refine wpAnyH_done (by kernel_rfl) ?_ _
            (try go_wp2_with fail)
            go_roundw
            case rel => exact ⟨k + 1, _, _, _, by omega, by go_num, RfI.next rfl HI.out (Below.drew (Below.alloc (Below.alloc (below_alloc _ _) (by simp) _) (by simp; omega) _)) (Nat.le_succ _) (Nat.le_refl _) (by omega) (Row.drew (Row.alloc (Row.new' (xs := rthNew n wr.heap.size) (by simp)) _)) (Row.drew (Row.alloc (Row.alloc (Row.new' rfl) _) _)) HO.out HG.out (Or.imp_right (fun h => by rw [h]; simp) HA.out)⟩
            case measure => simp [intOf]; omega
          · go_simp
            refine hK.out _ _ ?_ (fun hHeld => ?_)
            · exact ⟨cell_later (below_alloc _ _) hHeld.1, World.there_alloc hHeld.2 _⟩
            clear hK K
            (try go_frame)
            refine rd1 4 (by rfl) (by kernel_rfl) (fun K hK => ?_)
            rw [if_pos (by rfl)]
            refine wp_load_one _ _ rfl _ _ v rfl (by kernel_rfl) (by refine cell_later ?_ HCV.out; repeat (first | exact Below.refl _ _ | refine Below.drew ?_ | refine Below.alloc ?_ (by first | (simp; done) | (simp; omega)) _)) ?_
            refine hK.out _ _ ?_ (fun hHeld => ?_)
            · exact hHeld
            clear hK K
            (try go_frame)
            refine rd1 11 (by rfl) (by kernel_rfl) (fun K hK => ?_)
            refine step_append_lies _ rfl (.tmp 65) (.tmp 71) 103 rfl (W1.heap.size + 1) 107 pi (.pointer none) 1 8 Tryz.underlying103 HPI.out HP1.out HP2.out HP3.out rfl (by decide) v k (ptrs bT k) rfl ?_ ⟨wr.heap.size + 1 + 1, 0, none⟩ 1 1 [.pointer (some ⟨wr.heap.size + 1, 0, none⟩)] rfl rfl ?_ (by simp [Value.oneCell']) (by decide) (by unfold maxLen; omega) (by omega) ?_ (wr.heap.size + 1 + 1 + 1) (by simp) ?_
            · exact ((HI.out.2.1.alloc _).alloc _).alloc _
            · exact World.news_of_block (Row.drew (Row.new' (by simp)))
            · simp; omega
            intro g gc w4 hown hgr hat hlt4
            have HO := hide hown
            have HG := hide hgr
            have HA := hide hat
            clear hown hgr hat
            refine hK.out _ _ ?_ (fun hHeld => ?_)
            · exact keepG1 HG.out hHeld hneE hneN
            clear hK K
            (try go_frame)
            iterate 2 (refine tk 14 (by rfl) (by kernel_rfl) (by exact fun _ _ _ h => h) (.inl ⟨by rfl, fun w hS => by (try dsimp only at hS); go_simp; (try with_reducible rfl)⟩) (by assumption) ?_; try go_frame)
            refine rd1 14 (by rfl) (by kernel_rfl) (fun K hK => ?_)
            rw [if_pos (by rfl)]
            refine wp_store_one _ _ _ rfl W1.heap.size 7 _ rfl rfl rfl rfl hHeld.2 hsz ?_
            refine hK.out _ _ ?_ (fun hHeld => ?_)
            · exact ⟨(World.cell?_setCell_far _ _ _ _ (by simp; omega)).trans hHeld.1, there_set hHeld.2 _ rfl _⟩
            clear hK K
            (try go_frame)
            refine wpAnyH_done (by kernel_rfl) ?_ _
            (try go_wp2_with fail)
            go_roundw
            case rel => exact ⟨k + 1, _, _, _, by omega, by go_num, RfI.next rfl HI.out (Below.drew (Below.alloc (Below.alloc (below_alloc _ _) (by simp) _) (by simp; omega) _)) (Nat.le_succ _) (Nat.le_refl _) (by omega) (Row.drew (Row.alloc (Row.new' (xs := rthNew n wr.heap.size) (by simp)) _)) (Row.drew (Row.alloc (Row.alloc (Row.new' rfl) _) _)) HO.out HG.out (Or.imp_right (fun h => by rw [h]; simp) HA.out)⟩
            case measure => simp [intOf]; omega
    · have hke : k = n := by omega
      subst hke
      have HI := hide hI
      clear hI
      have hlt' : ¬ (k : Int) < (k : Int) := by omega
      go_wp2
      go_ret2
      exact ⟨W1.heap.size, rfl, W1, _, _, v, bT, bF, rfl, HBW.out, HI.out, .inr ⟨rfl, g1, g2, rfl, rfl, by omega, by omega, HW1a.out, HW1b.out⟩⟩
end Go.Proofs.YtefjhnhdagolhaaGreat
namespace Go.Proofs.YtefjhnhdagolhaaGreat
open Go.RowKit
def Keeps (base : Nat) (w w' : World) : Prop := ∀ k, base ≤ k → k < w.heap.size → w'.heap[k]? = w.heap[k]?
theorem Keeps.row {base : Nat} {w w' : World} (h : Keeps base w w') {g : Nat} {t : TypeId} {xs : List Value} (hr : Row w g t xs) (hg : base ≤ g) : Row w' g t xs := hr.of_block (h g hg hr.lt)
theorem Keeps.of_below {base : Nat} {w w' : World} (hb : Below w.heap.size w w') : Keeps base w w' := fun k _ h2 => hb.block k h2
theorem Keeps.set {base : Nat} {w w' : World} (h : Keeps base w w') {a : Addr} (ha : a.block < base) (v : Value) : Keeps base w (w'.setCell a v) := fun k h1 h2 => (Below.heap_setCell w' a v k (by omega)).trans (h k h1 h2)
end Go.Proofs.YtefjhnhdagolhaaGreat
namespace Go.Proofs.YtefjhnhdagolhaaGreat
open Go.RowKit
set_option maxHeartbeats 400000 in
theorem counterTell (x : Int) (w : World) : Calls Tryz.prog 362 #[.agg #[], .int .i64 x] w fun e w' => ∃ v, e = .returned v ∧ w'.ownsRow w.heap.size 3 1 v 1 (ints [x]) ∧ Below w.heap.size w w' := by
  go_enter Tryz.func362, Tryz.ntmps362
  go_wp2
  go_ret
  refine ⟨_, rfl, ⟨rfl, .inr ⟨w.heap.size + 1, 1, #[.int .i64 x], rfl, by omega, ?_, by omega, by decide, rfl, rfl⟩⟩, (by repeat (first | exact Below.refl _ _ | refine Below.drewN ?_ _ | refine Below.drew ?_ | refine Below.alloc ?_ (by first | (simp; done) | (simp; omega)) _ | refine Below.next ?_ (by assumption) (by first | (simp; done) | (simp; omega))))⟩
  exact Row.new' (xs := [.int .i64 x]) (by simp)
set_option maxHeartbeats 400000 in
theorem tableTell (a b c d : Value) (x : Int) (w : World) : Calls Tryz.prog 388 #[.agg #[a, b, c, d], .int .i64 x] w fun e w' => ∃ v, e = .returned v ∧ w'.ownsRow w.heap.size 3 1 v 1 (ints [x]) ∧ Below w.heap.size w w' := by
  go_enter Tryz.func388, Tryz.ntmps388
  go_wp2
  go_ret
  refine ⟨_, rfl, ⟨rfl, .inr ⟨w.heap.size + 1, 1, #[.int .i64 x], rfl, by omega, ?_, by omega, by decide, rfl, rfl⟩⟩, (by repeat (first | exact Below.refl _ _ | refine Below.drewN ?_ _ | refine Below.drew ?_ | refine Below.alloc ?_ (by first | (simp; done) | (simp; omega)) _ | refine Below.next ?_ (by assumption) (by first | (simp; done) | (simp; omega))))⟩
  exact Row.new' (xs := [.int .i64 x]) (by simp)
theorem tableTell_c (a b c d s : Value) (w : World) : (callFunc 388 #[.agg #[a, b, c, d], s]).run Tryz.prog w = .ok (.enter 388 #[.agg #[a, b, c, d], s]) w := by kernel_rfl
end Go.Proofs.YtefjhnhdagolhaaGreat
namespace Go.Proofs.YtefjhnhdagolhaaGreat
open Go.RowKit
attribute [local go_sem ↓] Go.wp_at_zero Go.wp_at_succ
structure RefRd (b n g gc : Nat) (bT : Nat → Nat) (kind cap st co : Int) (vn vo : Value) (w : World) : Prop where
  row : Row w b 105 (ccs kind n cap st co vn vo ++ [.slice (some ⟨g, 0, none⟩) n gc, .slice none 0 0])
  ptr : ∀ t, t < n → w.cell? ⟨g, t, none⟩ = some (.pointer (some ⟨bT t, 0, none⟩))
  ended : ∀ t, t < n → w.cell? ⟨bT t, 1, none⟩ = some (.int .i64 0)
  part : ∀ t, t < n → w.cell? ⟨bT t, 3, none⟩ = some (.int .i64 0)
theorem RefMade.reads {w0 : World} {kind : Int} {n : Nat} {cap st co : Int} {nx ou : List Int} {vn vo : Value} {b : Nat} {w : World} (h : RefMade w0 kind n cap st co nx ou vn vo b w) (hn : 1 ≤ n) :
    ∃ g gc bT vn' vo', RefRd b n g gc bT kind cap st co vn' vo' w ∧ Below w0.heap.size w0 w := by
  obtain ⟨W1, vn', vo', v, bT, bF, rfl, hb, hI, -⟩ := h
  obtain ⟨hE, hO, hT, -, hB⟩ := hI
  obtain ⟨hl, ⟨rfl, hn0⟩ | ⟨g, gc, cur, rfl, -, hg, hnc, hcm, hcs, htk⟩⟩ := hO
  · omega
  · refine ⟨g, gc, bT, vn', vo', ⟨hE, fun t ht => ?_, fun t ht => (hT t ht).1.cell_of rfl, fun t ht => (hT t ht).1.cell_of rfl⟩, Below.next hb hB hb.size⟩
    rw [cell_of_row w g _ cur _ _ hg]
    have : (ptrs bT n)[t]? = some (.pointer (some ⟨bT t, 0, none⟩)) := by simp [ptrs, List.getElem?_range ht]
    rw [← htk, List.getElem?_take] at this
    split at this
    · simpa using this
    · cases this
section
variable {b n g gc : Nat} {bT : Nat → Nat} {kind cap st co : Int} {vn vo : Value} (w : World)
end
end Go.Proofs.YtefjhnhdagolhaaGreat
namespace Go.Proofs.YtefjhnhdagolhaaGreat
open Go.RowKit
attribute [local go_sem ↓] Go.wp_at_zero Go.wp_at_succ
section
variable (kind n cap st co : Int) (a1 : Option Addr) (l1 c1 : Nat) (a2 : Option Addr) (l2 c2 : Nat) (w : World)
set_option maxHeartbeats 1000000 in
theorem start_num (hk : kind = 1 ∨ kind = 5) :
    Calls Tryz.prog 113 #[.agg #[.int .i64 kind, .int .i64 n, .int .i64 cap, .int .i64 st, .int .i64 co, .slice a1 l1 c1, .slice a2 l2 c2]] w fun e w' => ∃ g, e = .returned (.agg #[.int .i64 kind, .int .i64 st, .int .i64 co, .slice a1 l1 c1, .slice a2 l2 c2, .slice (some ⟨g, 0, none⟩) 1 1]) ∧
      w.heap.size ≤ g ∧ Row w' g 3 [.int .i64 0] ∧ Below w.heap.size w w' := by
  rcases hk with rfl | rfl
  all_goals
    go_enter Tryz.func113, Tryz.ntmps113
    go_wp2
    refine bodyPost_ret (v := .agg #[_, .int .i64 st, .int .i64 co, .slice a1 l1 c1, .slice a2 l2 c2, .slice (some ⟨w.heap.size + 1 + 1 + 1, 0, none⟩) 1 1]) (by simp [results, Tryz.results113, go_sem]) rfl ⟨_, rfl, by omega, ?_, ?_⟩
    · exact Row.new' (xs := [.int .i64 0]) (by simp)
    · exact (by repeat (first | exact Below.refl _ _ | refine Below.drewN ?_ _ | refine Below.drew ?_ | refine Below.alloc ?_ (by first | (simp; done) | (simp; omega)) _ | refine Below.next ?_ (by assumption) (by first | (simp; done) | (simp; omega))))
end
end Go.Proofs.YtefjhnhdagolhaaGreat
namespace Go.Proofs.YtefjhnhdagolhaaGreat
open Go.RowKit
section
variable {P : Program} (w : World)
theorem run_append_keep (t ty : TypeId) (base : Nat) (e : TypeId) (i : TypeInfo) (z : Value) (size bytes : Nat) (ht : P.underlying t = some (.slice e)) (hi : P.info? e = some i) (hz : i.zero = some z)
    (hsize : i.size = size) (hby : i.bytes = bytes) (hzs : z.cells.size = size) (hsz : 0 < size)
    (v : Value) (n : Nat) (xs : List Value) (hown : w.ownsRow base e size v n xs)
    (ad : Addr) (m c : Nat) (news : List Value) (hl : news.length = m * size) (hnews : ∀ j u, news[j]? = some u → w.cell? (ad.add j) = some u) (h1 : ∀ u ∈ news, u.oneCell' = true)
    (hm : 0 < m) (h63 : n + m ≤ maxLen) (hbytes : (n + m) * bytes ≤ 140737488355328) (hbase : base ≤ w.heap.size) :
    ∃ g cap w', (Builtin.append_ #[t, t] ty #[v, .slice (some ad) m c]).run P w = .ok (.slice (some ⟨g, 0, none⟩) (n + m) cap) w' ∧
      w'.ownsRow base e size (.slice (some ⟨g, 0, none⟩) (n + m) cap) (n + m) (xs ++ news) ∧ w.grownBy w' v.ownBlock ∧ g < w'.heap.size ∧
      (v.ownBlock = some g ∨ (g = w.heap.size ∧ ∀ k, k < w.heap.size → w'.heap[k]? = w.heap[k]?)) := by
  obtain ⟨g, cap, w', hr, h2, h3, h4, h5⟩ := run_append_lies (P := P) w t ty base e i z size bytes ht hi hz hsize hby hzs hsz v n xs hown ad m c news hl hnews h1 hm h63 hbytes hbase w.heap.size rfl
  refine ⟨g, cap, w', hr, h2, h3, h5, ?_⟩
  have h63' : ((n + m : Nat) : Int) ≤ 9223372036854775807 := by unfold maxLen at h63; omega
  have alloc_old : ∀ (o : Obj) (k : Nat), k < w.heap.size → (w.drew.alloc o).heap[k]? = w.heap[k]? := fun o k hk => (below_alloc w.drew o).block k hk
  rcases hown.2 with ⟨rfl, rfl⟩ | ⟨g0, cap0, cur, rfl, hb, hg, hnc, hcm, hcs, htk⟩
  · have hq := run_append_nil (P := P) w t ty e i z ht hi hz ad m c news (by rw [hsize]; exact hl) hnews hm (by omega) (by rw [hby]; rw [Nat.zero_add] at hbytes; omega)
    rw [hr] at hq
    injection hq with q1 q2
    injection q1 with q3 q4
    injection q3 with q5
    injection q5 with q6
    subst q2
    exact .inr ⟨q6, alloc_old _⟩
  · by_cases hroom : n + m ≤ cap0
    · obtain ⟨w2, hq, -⟩ := run_append_own_spare (P := P) w base t ty e i size ht hi hsize g0 n cap0 xs hown ad m c news hl hnews h1 hroom
      rw [hr] at hq
      injection hq with q1 q2
      injection q1 with q3 q4
      injection q3 with q5
      injection q5 with q6
      exact .inl (by rw [q6]; rfl)
    · have hc : ∀ j u, xs[j]? = some u → w.cell? ((⟨g0, 0, none⟩ : Addr).add j) = some u := fun j u hj => by
        have := hown.cells (g := g0) rfl j u hj
        simpa [Addr.add] using this
      have hq := run_append_grow (P := P) w t ty e i z ht hi hz ⟨g0, 0, none⟩ n cap0 xs (by rw [hsize]; exact hown.1) hc ad m c news (by rw [hsize]; exact hl) hnews (by omega) h63' (by rw [hby]; exact growslice_fits (by omega) hbytes)
      rw [hr] at hq
      injection hq with q1 q2
      injection q1 with q3 q4
      injection q3 with q5
      injection q5 with q6
      subst q2
      exact .inr ⟨q6, alloc_old _⟩
theorem wpList_append_keep {ops : Array Oper} {rest : List Oper} {o : Oper} {a : Act} {Q : Exit → Act → World → Prop} (hgd : o.guard = none) (s x : Operand) (t : TypeId)
    (ho : o.op = .call { callee := .builtin .append, args := #[s, x], argTypes := #[t, t] })
    (base : Nat) (e : TypeId) (i : TypeInfo) (z : Value) (size bytes : Nat) (ht : P.underlying t = some (.slice e)) (hi : P.info? e = some i) (hz : i.zero = some z)
    (hsize : i.size = size) (hby : i.bytes = bytes) (hzs : z.cells.size = size) (hsz : 0 < size)
    (v : Value) (n : Nat) (xs : List Value) (hs : a.eval s = v) (hown : w.ownsRow base e size v n xs)
    (ad : Addr) (m c : Nat) (news : List Value) (hx : a.eval x = .slice (some ad) m c) (hl : news.length = m * size) (hnews : ∀ j u, news[j]? = some u → w.cell? (ad.add j) = some u) (h1 : ∀ u ∈ news, u.oneCell' = true)
    (hm : 0 < m) (h63 : n + m ≤ maxLen) (hbytes : (n + m) * bytes ≤ 140737488355328) (hbase : base ≤ w.heap.size)
    (h : ∀ g cap w', w'.ownsRow base e size (.slice (some ⟨g, 0, none⟩) (n + m) cap) (n + m) (xs ++ news) → w.grownBy w' v.ownBlock → g < w'.heap.size → (v.ownBlock = some g ∨ (g = w.heap.size ∧ ∀ k, k < w.heap.size → w'.heap[k]? = w.heap[k]?)) → wpList P ops Q rest (a.put o.dst (.slice (some ⟨g, 0, none⟩) (n + m) cap)) w') : wpList P ops Q (o :: rest) a w :=
  wpList_plain hgd fun _ hK => by
    obtain ⟨g, cap, w', hr, h2, h3, h4, h5⟩ := run_append_keep (P := P) w t o.type base e i z size bytes ht hi hz hsize hby hzs hsz v n xs hown ad m c news hl hnews h1 hm h63 hbytes hbase
    unfold Oper.wp execOp
    simp only [ho, resolve, invoke, builtin, Sem.run_bind, Sem.run_pure, Result.andThen_ok, List.map_toArray, List.map_cons, List.map_nil, hs, hx, hr]
    exact hK _ _ (h g cap w' h2 h3 h4 h5)
end
end Go.Proofs.YtefjhnhdagolhaaGreat
namespace Go.Proofs.YtefjhnhdagolhaaGreat
open Go.RowKit
def Reads (mk : Nat → Value) (sz i : Nat) (s : Value) (W : World) : Prop :=
  s = .slice none 0 0 ∨ ∃ g j c, s = .slice (some ⟨g, 0, none⟩) j c ∧ j ≤ i ∧ j ≤ c ∧ g < W.heap.size ∧ ∀ p, p < j * sz → W.cell? ⟨g, p, none⟩ = some (mk p)
theorem Reads.append {mk : Nat → Value} {sz i : Nat} {s : Value} {W W' : World} (h : Reads mk sz i s W) {v : Value} {g cap base : Nat} {e : TypeId} {xs : List Value} (hgr : W.grownBy W' v.ownBlock)
    (hown : W'.ownsRow base e sz (.slice (some ⟨g, 0, none⟩) (i + 1) cap) (i + 1) xs) (hx : ∀ p, p < (i + 1) * sz → xs[p]? = some (mk p))
    (hk : v.ownBlock = some g ∨ ∀ k, k < W.heap.size → W'.heap[k]? = W.heap[k]?) : Reads mk sz (i + 1) s W' := by
  rcases h with h | ⟨gs, j, c, rfl, h1, h2, h3, h4⟩
  · exact .inl h
  · have hz : W.heap.size ≤ W'.heap.size := hgr.size
    refine .inr ⟨gs, j, c, rfl, by omega, h2, by omega, fun p hp => ?_⟩
    by_cases e1 : v.ownBlock = some gs
    · rcases hk with hk | hk
      · have : gs = g := by rw [e1] at hk; injection hk
        subst this
        have hlt : p < (i + 1) * sz := Nat.lt_of_lt_of_le hp (Nat.mul_le_mul_right sz (by omega))
        have := hown.cells (g := gs) rfl p _ (hx p hlt)
        rw [show (⟨gs, 0, none⟩ : Addr).add p = ⟨gs, p, none⟩ by by_cases q : p = 0 <;> simp [Addr.add, q]] at this
        exact this
      · rw [World.cell?_of_block (w := W) (a := ⟨gs, p, none⟩) (hk gs h3)]; exact h4 p hp
    · exact hgr.cell (h4 p hp) (fun q => e1 q.symm)
theorem Reads.grown {mk : Nat → Value} {sz i : Nat} {s : Value} {W W' : World} (h : Reads mk sz i s W) {row : Option Nat} (hgr : W.grownBy W' row) (hne : ∀ g j c, s = .slice (some ⟨g, 0, none⟩) j c → row ≠ some g) : Reads mk sz i s W' := by
  rcases h with h | ⟨gs, j, c, rfl, h1, h2, h3, h4⟩
  · exact .inl h
  · have hz : W.heap.size ≤ W'.heap.size := hgr.size
    exact .inr ⟨gs, j, c, rfl, h1, h2, by omega, fun p hp => hgr.cell (h4 p hp) (fun q => hne gs j c rfl q.symm)⟩
end Go.Proofs.YtefjhnhdagolhaaGreat
namespace Go.Proofs.YtefjhnhdagolhaaGreat
open Go.RowKit
theorem grown_below {w w' : World} (h : Below w.heap.size w w') : w.grownBy w' none := ⟨h.os, h.tape, h.output, h.size, fun k hk _ => h.block k hk⟩
section
variable {w : World} {bL : Nat} {tW tO tL : TypeId} {sz : Nat} {u mk : Value} {cs : Value → List Value} {i k : Nat} {l : Value} {gm cm : Nat} {ss : List Value} {W W' : World}
end
end Go.Proofs.YtefjhnhdagolhaaGreat
