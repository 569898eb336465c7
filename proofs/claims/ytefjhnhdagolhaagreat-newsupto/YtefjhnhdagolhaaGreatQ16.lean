import Derived.Test.YtefjhnhdagolhaaGreatQ10
import Derived.Test.YtefjhnhdagolhaaGreatQ12
import Derived.Test.YtefjhnhdagolhaaGreatQ13
import Derived.Test.YtefjhnhdagolhaaGreatQ14
import Derived.Test.YtefjhnhdagolhaaGreatQ15
namespace Go.Proofs.YtefjhnhdagolhaaGreat
open Go.RowKit
attribute [local go_sem ↓] Go.wp_at_zero Go.wp_at_succ
def RefMade (w : World) (kind : Int) (n : Nat) (cap st co : Int) (nx ou : List Int) (vn vo : Value) (b : Nat) (w' : World) : Prop :=
  ∃ W1 vn' vo' v bT bF, b = W1.heap.size ∧ Below w.heap.size w W1 ∧ RfI W1 n (ccs kind n cap st co vn' vo') v n bT bF w' ∧
    ((kind ≠ 5 ∧ vn' = vn ∧ vo' = vo) ∨ (kind = 5 ∧ ∃ g1 g2, vn' = .slice (some ⟨g1, 0, none⟩) nx.length nx.length ∧ vo' = .slice (some ⟨g2, 0, none⟩) ou.length ou.length ∧ w.heap.size ≤ g1 ∧ w.heap.size ≤ g2 ∧ Row W1 g1 3 (ints nx) ∧ Row W1 g2 3 (ints ou)))
theorem info_pthread : (Tryz.prog.info? 107).map (fun i => (i.zero, i.size, i.bytes)) = some (some (.pointer none), 1, 8) := by kernel_rfl
set_option maxHeartbeats 2000000 in
theorem refNew_one (cap st co : Int) (nx ou : List Int) (vn vo : Value) (w : World) (kind th : Int) (h : ¬ (1 ≤ kind ∧ kind ≤ 5 ∧ 1 ≤ th ∧ th ≤ 64 ∧ 0 ≤ cap ∧ cap ≤ 64)) :
    Calls Tryz.prog 41 #[.agg #[.int .i64 kind, .int .i64 th, .int .i64 cap, .int .i64 st, .int .i64 co, vn, vo]] w fun e w' => e = .returned (.tuple #[.pointer none, .int .i64 (cfgErr kind th cap st co nx ou)]) ∧ Below w.heap.size w w' := by
  rw [cfgErr_one h]
  by_cases c0 : kind < 1
  · clear h
    go_enter Tryz.func41, Tryz.ntmps41
    go_wp2
    go_ret2
    exact ⟨rfl, (by repeat (first | exact Below.refl _ _ | assumption | refine Below.drewN ?_ _ | refine Below.alloc ?_ (by simp) _))⟩
  by_cases c1 : 5 < kind
  · clear h
    go_enter Tryz.func41, Tryz.ntmps41
    go_wp2
    go_ret2
    exact ⟨rfl, (by repeat (first | exact Below.refl _ _ | assumption | refine Below.drewN ?_ _ | refine Below.alloc ?_ (by simp) _))⟩
  by_cases c2 : th < 1
  · clear h
    go_enter Tryz.func41, Tryz.ntmps41
    go_wp2
    go_ret2
    exact ⟨rfl, (by repeat (first | exact Below.refl _ _ | assumption | refine Below.drewN ?_ _ | refine Below.alloc ?_ (by simp) _))⟩
  by_cases c3 : 64 < th
  · clear h
    go_enter Tryz.func41, Tryz.ntmps41
    go_wp2
    go_ret2
    exact ⟨rfl, (by repeat (first | exact Below.refl _ _ | assumption | refine Below.drewN ?_ _ | refine Below.alloc ?_ (by simp) _))⟩
  by_cases c4 : cap < 0
  · clear h
    go_enter Tryz.func41, Tryz.ntmps41
    go_wp2
    go_ret2
    exact ⟨rfl, (by repeat (first | exact Below.refl _ _ | assumption | refine Below.drewN ?_ _ | refine Below.alloc ?_ (by simp) _))⟩
  by_cases c5 : 64 < cap
  · clear h
    go_enter Tryz.func41, Tryz.ntmps41
    go_wp2
    go_ret2
    exact ⟨rfl, (by repeat (first | exact Below.refl _ _ | assumption | refine Below.drewN ?_ _ | refine Below.alloc ?_ (by simp) _))⟩
  exact absurd ⟨by omega, by omega, by omega, by omega, by omega, by omega⟩ h
set_option maxHeartbeats 2000000 in
theorem refNew_two (cap st co : Int) (nx ou : List Int) (vn vo : Value) (w : World) (hn : Sl w vn (ints nx)) (ho : Sl w vo (ints ou)) (th : Int) (h : 1 ≤ th ∧ th ≤ 64 ∧ 0 ≤ cap ∧ cap ≤ 64) (ht : tableOk st co nx ou = false) :
    Calls Tryz.prog 41 #[.agg #[.int .i64 5, .int .i64 th, .int .i64 cap, .int .i64 st, .int .i64 co, vn, vo]] w fun e w' => e = .returned (.tuple #[.pointer none, .int .i64 2]) ∧ Below w.heap.size w w' := by
  obtain ⟨c1, c2, c3, c4⟩ := h
  have hc := fun W hW => refTable_any st co nx ou vn vo W (hn.below hW) (ho.below hW)
  rw [ht] at hc
  have HC := hide hc
  clear hc hn ho ht
  go_enter Tryz.func41, Tryz.ntmps41
  go_wp2_with fail
  refine (HC.out _ (below_alloc _ _)).mono ?_
  rintro e w1 ⟨rfl, hb1⟩
  go_wp2_with fail
  go_ret2
  exact ⟨rfl, Below.next (below_alloc _ _) hb1 (by simp)⟩
set_option maxRecDepth 20000 in
set_option maxHeartbeats 4000000 in
theorem refNew_plain (cap st co : Int) (nx ou : List Int) (vn vo : Value) (w : World) (kind : Int) (n : Nat) (k1 : 1 ≤ kind) (k2 : kind ≤ 4) (h1 : 1 ≤ n) (h2 : n ≤ 64) (h3 : 0 ≤ cap) (h4 : cap ≤ 64) :
    Calls Tryz.prog 41 #[.agg #[.int .i64 kind, .int .i64 (n : Int), .int .i64 cap, .int .i64 st, .int .i64 co, vn, vo]] w fun e w' => ∃ b, e = .returned (.tuple #[.pointer (some ⟨b, 0, none⟩), .int .i64 0]) ∧ RefMade w kind n cap st co nx ou vn vo b w' := by
  obtain ⟨pi, hpi, hpz⟩ := Option.map_eq_some_iff.1 info_pthread
  simp only [Prod.mk.injEq] at hpz
  obtain ⟨hp1, hp2, hp3⟩ := hpz
  have HPI := hide hpi
  have HP1 := hide hp1
  have HP2 := hide hp2
  have HP3 := hide hp3
  clear hpi hp1 hp2 hp3
  have hmk := run_make_zeros (P := Tryz.prog) 22 3 (.int .i64 0) 8 Tryz.underlying22 info_int rfl (n : Int) n rfl (by omega) (by omega)
  have c1 : ¬ kind < 1 := by omega
  have c2 : ¬ 5 < kind := by omega
  have c3 : (kind != 5) = true := by rw [bne_iff_ne]; omega
  have c4 : (kind == 5) = false := beq_eq_false_iff_ne.2 (by omega)
  go_enter Tryz.func41, Tryz.ntmps41
  go_upto_region 10 with fail
  generalize hW1 : World.alloc w _ = W1
  have HBW := hide (show Below w.heap.size w W1 by rw [← hW1]; exact below_alloc w _)
  have hs1 : w.heap.size + 1 ≤ W1.heap.size := by rw [← hW1]; simp
  have HRN := hide (show Row W1 w.heap.size 26 (ccs kind n cap st co vn vo) by rw [← hW1]; exact Row.new' rfl)
  have q0 : W1.cell? ⟨w.heap.size, 0, none⟩ = some (.int .i64 kind) := HRN.out.cell_of rfl
  have q1 : W1.cell? ⟨w.heap.size, 1, none⟩ = some (.int .i64 (n : Int)) := HRN.out.cell_of rfl
  have q2 : W1.cell? ⟨w.heap.size, 2, none⟩ = some (.int .i64 cap) := HRN.out.cell_of rfl
  have q3 : W1.cell? ⟨w.heap.size, 3, none⟩ = some (.int .i64 st) := HRN.out.cell_of rfl
  have q4 : W1.cell? ⟨w.heap.size, 4, none⟩ = some (.int .i64 co) := HRN.out.cell_of rfl
  have q5 : W1.cell? ⟨w.heap.size, 5, none⟩ = some vn := HRN.out.cell_of rfl
  have q6 : W1.cell? ⟨w.heap.size, 6, none⟩ = some vo := HRN.out.cell_of rfl
  clear hW1
  have hI0 : RfI W1 n (ccs kind n cap st co vn vo) (.slice none 0 0) 0 (fun _ => 0) (fun _ => 0) (W1.alloc (.cells (ccs kind n cap st co vn vo ++ [Value.slice none 0 0, .slice none 0 0]).toArray 105)) :=
    ⟨Row.new' rfl, World.ownsRow_nil _ _ _ _, fun t ht => absurd ht (by omega), fun s t _ h => absurd h (by omega), below_alloc _ _⟩
  have HI0 := hide hI0
  clear hI0
  go_wp2_with fail
  go_loopw [6] (fun i w' => ∃ k v bT bF, k ≤ n ∧ i = .int .i64 (k : Int) ∧ RfI W1 n (ccs kind n cap st co vn vo) v k bT bF w') (fun i _ => n - (intOf i).toNat)
  case atStart => exact ⟨0, _, _, _, Nat.zero_le _, rfl, HI0.out⟩
  case round =>
    obtain ⟨k, v, bT, bF, hk, rfl, hI⟩ := hrel
    have hcN : wr.cell? ⟨w.heap.size, 1, none⟩ = some (.int .i64 (n : Int)) := cell_later hI.2.2.2.2 (HRN.out.cell_of rfl)
    by_cases hlt : k < n
    · have hlt' : (k : Int) < (n : Int) := by omega
      have hcv : wr.cell? ⟨W1.heap.size, 7, none⟩ = some v := hI.1.cell_of rfl
      have hth : wr.there W1.heap.size 7 1 := hI.1.there (by simp [ccs])
      have hvlt := hI.2.1.lt
      have hzI := hI.1.lt
      have hneE : some W1.heap.size ≠ v.ownBlock := fun e => by have := (hvlt _ e.symm).1; omega
      have hneN : some w.heap.size ≠ v.ownBlock := fun e => by have := (hvlt _ e.symm).1; omega
      have hsz : (Tryz.prog.info? 103).map (·.size) = some 1 := by kernel_rfl
      have HI := hide hI
      have HCV := hide hcv
      clear hI hcv hvlt
      go_wp2
      refine rg0 (S := (fun w' => w'.cell? ⟨w.heap.size, 1, none⟩ = some (.int .i64 (n : Int)) ∧ w'.there W1.heap.size 7 1)) 15 rfl (by kernel_rfl) ?_ (fun hHeld => ?_)
      · exact ⟨hcN, hth⟩
      iterate 4 (refine tk 14 (by rfl) (by kernel_rfl) (by exact fun _ _ _ h => h) (.inl ⟨by rfl, fun w hS => by (try dsimp only at hS); go_simp; (try with_reducible rfl)⟩) (by assumption) ?_; try go_frame)
      iterate 2 (refine tk 15 (by rfl) (by kernel_rfl) (by exact fun _ _ _ h => h) (.inl ⟨by rfl, fun w hS => by (try dsimp only at hS); go_simp; (try with_reducible rfl)⟩) (by assumption) ?_; try go_frame)
      refine wpAnyH_ready (rs := [4, 7]) (by kernel_rfl) (by simp) (rc (by rfl) (fun K hK => ?_) (rc (by rfl) (fun K hK => ?_) AllReadyH.nil))
      · rw [if_pos (by rfl)]
        refine wp_load_one _ _ rfl _ _ v rfl (by kernel_rfl) (by refine cell_later ?_ HCV.out; repeat (first | exact Below.refl _ _ | refine Below.drew ?_ | refine Below.alloc ?_ (by first | (simp; done) | (simp; omega)) _)) ?_
        refine hK.out _ _ ?_ (fun hHeld => ?_)
        · exact hHeld
        clear hK K
        (try go_frame)
        refine rd1 7 (by rfl) (by kernel_rfl) (fun K hK => ?_)
        go_simp
        refine hK.out _ _ ?_ (fun hHeld => ?_)
        · exact ⟨cell_later (below_alloc _ _) hHeld.1, World.there_alloc hHeld.2 _⟩
        clear hK K
        (try go_frame)
        iterate 1 (refine tk 14 (by rfl) (by kernel_rfl) (by exact fun _ _ _ h => h) (.inl ⟨by rfl, fun w hS => by (try dsimp only at hS); go_simp; (try with_reducible rfl)⟩) (by assumption) ?_; try go_frame)
        refine rd1 9 (by rfl) (by kernel_rfl) (fun K hK => ?_)
        go_simp
        refine hK.out _ _ ?_ (fun hHeld => ?_)
        · exact ⟨cell_later (below_alloc _ _) hHeld.1, World.there_alloc hHeld.2 _⟩
        clear hK K
        (try go_frame)
        refine rd1 10 (by rfl) (by kernel_rfl) (fun K hK => ?_)
        go_simp
        refine hK.out _ _ ?_ (fun hHeld => ?_)
        · exact ⟨cell_later (below_alloc _ _) hHeld.1, World.there_alloc hHeld.2 _⟩
        clear hK K
        (try go_frame)
        refine rd1 11 (by rfl) (by kernel_rfl) (fun K hK => ?_)
        refine step_append_lies _ rfl (.tmp 65) (.tmp 71) 103 rfl (W1.heap.size + 1) 107 pi (.pointer none) 1 8 Tryz.underlying103 HPI.out HP1.out HP2.out HP3.out rfl (by decide) v k (ptrs bT k) rfl ?_ ⟨wr.heap.size + 1 + 1, 0, none⟩ 1 1 [.pointer (some ⟨wr.heap.size + 1, 0, none⟩)] rfl rfl ?_ (by simp [Value.oneCell']) (by decide) (by unfold maxLen; omega) (by omega) ?_ (wr.heap.size + 1 + 1 + 1) (by simp) ?_
        · exact ((HI.out.2.1.alloc _).alloc _).alloc _
        · exact World.news_of_block (Row.drew (Row.new' (by simp)))
        · simp; omega
        intro g gc w4 hown hgr hat hlt4
        have HO := hide hown
        have HG := hide hgr
        have HA := hide hat
        clear hown hgr hat
        refine hK.out _ _ ?_ (fun hHeld => ?_)
        · exact keepG1 HG.out hHeld hneE hneN
        clear hK K
        (try go_frame)
        iterate 2 (refine tk 14 (by rfl) (by kernel_rfl) (by exact fun _ _ _ h => h) (.inl ⟨by rfl, fun w hS => by (try dsimp only at hS); go_simp; (try with_reducible rfl)⟩) (by assumption) ?_; try go_frame)
        refine rd1 14 (by rfl) (by kernel_rfl) (fun K hK => ?_)
        rw [if_pos (by rfl)]
        refine wp_store_one _ _ _ rfl W1.heap.size 7 _ rfl rfl rfl rfl hHeld.2 hsz ?_
        refine hK.out _ _ ?_ (fun hHeld => ?_)
        · exact ⟨(World.cell?_setCell_far _ _ _ _ (by simp; omega)).trans hHeld.1, there_set hHeld.2 _ rfl _⟩
        clear hK K
        (try go_frame)
        refine wpAnyH_done (by kernel_rfl) ?_ _
        (try go_wp2_with fail)
        go_roundw
        case rel => exact ⟨k + 1, _, _, _, by omega, by go_num, RfI.next rfl HI.out (Below.drew (Below.alloc (Below.alloc (below_alloc _ _) (by simp) _) (by simp; omega) _)) (Nat.le_succ _) (Nat.le_refl _) (by omega) (Row.drew (Row.alloc (Row.new' (xs := rthNew n wr.heap.size) (by simp)) _)) (Row.drew (Row.alloc (Row.alloc (Row.new' rfl) _) _)) HO.out HG.out (Or.imp_right (fun h => by rw [h]; simp) HA.out)⟩
        case measure => simp [intOf]; omega
      · go_simp
        refine hK.out _ _ ?_ (fun hHeld => ?_)
        · exact ⟨cell_later (below_alloc _ _) hHeld.1, World.there_alloc hHeld.2 _⟩
        clear hK K
        (try go_frame)
        iterate 1 (refine tk 15 (by rfl) (by kernel_rfl) (by exact fun _ _ _ h => h) (.inl ⟨by rfl, fun w hS => by (try dsimp only at hS); go_simp; (try with_reducible rfl)⟩) (by assumption) ?_; try go_frame)
        refine wpAnyH_ready (rs := [4, 9]) (by kernel_rfl) (by simp) (rc (by rfl) (fun K hK => ?_) (rc (by rfl) (fun K hK => ?_) AllReadyH.nil))
        · rw [if_pos (by rfl)]
          refine wp_load_one _ _ rfl _ _ v rfl (by kernel_rfl) (by refine cell_later ?_ HCV.out; repeat (first | exact Below.refl _ _ | refine Below.drew ?_ | refine Below.alloc ?_ (by first | (simp; done) | (simp; omega)) _)) ?_
          refine hK.out _ _ ?_ (fun hHeld => ?_)
          · exact hHeld
          clear hK K
          (try go_frame)
          refine rd1 9 (by rfl) (by kernel_rfl) (fun K hK => ?_)
          go_simp
          refine hK.out _ _ ?_ (fun hHeld => ?_)
          · exact ⟨cell_later (below_alloc _ _) hHeld.1, World.there_alloc hHeld.2 _⟩
          clear hK K
          (try go_frame)
          refine rd1 10 (by rfl) (by kernel_rfl) (fun K hK => ?_)
          go_simp
          refine hK.out _ _ ?_ (fun hHeld => ?_)
          · exact ⟨cell_later (below_alloc _ _) hHeld.1, World.there_alloc hHeld.2 _⟩
          clear hK K
          (try go_frame)
          refine rd1 11 (by rfl) (by kernel_rfl) (fun K hK => ?_)
          refine step_append_lies _ rfl (.tmp 65) (.tmp 71) 103 rfl (W1.heap.size + 1) 107 pi (.pointer none) 1 8 Tryz.underlying103 HPI.out HP1.out HP2.out HP3.out rfl (by decide) v k (ptrs bT k) rfl ?_ ⟨wr.heap.size + 1 + 1, 0, none⟩ 1 1 [.pointer (some ⟨wr.heap.size + 1, 0, none⟩)] rfl rfl ?_ (by simp [Value.oneCell']) (by decide) (by unfold maxLen; omega) (by omega) ?_ (wr.heap.size + 1 + 1 + 1) (by simp) ?_
          · exact ((HI.out.2.1.alloc _).alloc _).alloc _
          · exact World.news_of_block (Row.drew (Row.new' (by simp)))
          · simp; omega
          intro g gc w4 hown hgr hat hlt4
          have HO := hide hown
          have HG := hide hgr
          have HA := hide hat
          clear hown hgr hat
          refine hK.out _ _ ?_ (fun hHeld => ?_)
          · exact keepG1 HG.out hHeld hneE hneN
          clear hK K
          (try go_frame)
          iterate 2 (refine tk 14 (by rfl) (by kernel_rfl) (by exact fun _ _ _ h => h) (.inl ⟨by rfl, fun w hS => by (try dsimp only at hS); go_simp; (try with_reducible rfl)⟩) (by assumption) ?_; try go_frame)
          refine rd1 14 (by rfl) (by kernel_rfl) (fun K hK => ?_)
          rw [if_pos (by rfl)]
          refine wp_store_one _ _ _ rfl W1.heap.size 7 _ rfl rfl rfl rfl hHeld.2 hsz ?_
          refine hK.out _ _ ?_ (fun hHeld => ?_)
          · exact ⟨(World.cell?_setCell_far _ _ _ _ (by simp; omega)).trans hHeld.1, there_set hHeld.2 _ rfl _⟩
          clear hK K
          (try go_frame)
          refine wpAnyH_done (by kernel_rfl) ?_ _
          (try go_wp2_with fail)
          go_roundw
          case rel => exact ⟨k + 1, _, _, _, by omega, by go_num, RfI.next rfl HI.out (Below.drew (Below.alloc (Below.alloc (below_alloc _ _) (by simp) _) (by simp; omega) _)) (Nat.le_succ _) (Nat.le_refl _) (by omega) (Row.drew (Row.alloc (Row.new' (xs := rthNew n wr.heap.size) (by simp)) _)) (Row.drew (Row.alloc (Row.alloc (Row.new' rfl) _) _)) HO.out HG.out (Or.imp_right (fun h => by rw [h]; simp) HA.out)⟩
          case measure => simp [intOf]; omega
        · go_simp
          refine hK.out _ _ ?_ (fun hHeld => ?_)
          · exact ⟨cell_later (below_alloc _ _) hHeld.1, World.there_alloc hHeld.2 _⟩
          clear hK K
          (try go_frame)
          refine wpAnyH_ready (rs := [4, 10]) (by kernel_rfl) (by simp) (rc (by rfl) (fun K hK => ?_) (rc (by rfl) (fun K hK => ?_) AllReadyH.nil))
          · rw [if_pos (by rfl)]
            refine wp_load_one _ _ rfl _ _ v rfl (by kernel_rfl) (by refine cell_later ?_ HCV.out; repeat (first | exact Below.refl _ _ | refine Below.drew ?_ | refine Below.alloc ?_ (by first | (simp; done) | (simp; omega)) _)) ?_
            refine hK.out _ _ ?_ (fun hHeld => ?_)
            · exact hHeld
            clear hK K
            (try go_frame)
            refine rd1 10 (by rfl) (by kernel_rfl) (fun K hK => ?_)
            go_simp
            refine hK.out _ _ ?_ (fun hHeld => ?_)
            · exact ⟨cell_later (below_alloc _ _) hHeld.1, World.there_alloc hHeld.2 _⟩
            clear hK K
            (try go_frame)
            refine rd1 11 (by rfl) (by kernel_rfl) (fun K hK => ?_)
            refine step_append_lies _ rfl (.tmp 65) (.tmp 71) 103 rfl (W1.heap.size + 1) 107 pi (.pointer none) 1 8 Tryz.underlying103 HPI.out HP1.out HP2.out HP3.out rfl (by decide) v k (ptrs bT k) rfl ?_ ⟨wr.heap.size + 1 + 1, 0, none⟩ 1 1 [.pointer (some ⟨wr.heap.size + 1, 0, none⟩)] rfl rfl ?_ (by simp [Value.oneCell']) (by decide) (by unfold maxLen; omega) (by omega) ?_ (wr.heap.size + 1 + 1 + 1) (by simp) ?_
            · exact ((HI.out.2.1.alloc _).alloc _).alloc _
            · exact World.news_of_block (Row.drew (Row.new' (by simp)))
            · simp; omega
            intro g gc w4 hown hgr hat hlt4
            have HO := hide hown
            have HG := hide hgr
            have HA := hide hat
            clear hown hgr hat
            refine hK.out _ _ ?_ (fun hHeld => ?_)
            · exact keepG1 HG.out hHeld hneE hneN
            clear hK K
            (try go_frame)
            iterate 2 (refine tk 14 (by rfl) (by kernel_rfl) (by exact fun _ _ _ h => h) (.inl ⟨by rfl, fun w hS => by (try dsimp only at hS); go_simp; (try with_reducible rfl)⟩) (by assumption) ?_; try go_frame)
            refine rd1 14 (by rfl) (by kernel_rfl) (fun K hK => ?_)
            rw [if_pos (by rfl)]
            refine wp_store_one _ _ _ rfl W1.heap.size 7 _ rfl rfl rfl rfl hHeld.2 hsz ?_
            refine hK.out _ _ ?_ (fun hHeld => ?_)
            · exact ⟨(World.cell?_setCell_far _ _ _ _ (by simp; omega)).trans hHeld.1, there_set hHeld.2 _ rfl _⟩
            clear hK K
            (try go_frame)
            refine wpAnyH_done (by kernel_rfl) ?_ _
            (try go_wp2_with fail)
            go_roundw
            case rel => exact ⟨k + 1, _, _, _, by omega, by go_num, RfI.next rfl HI.out (Below.drew (Below.alloc (Below.alloc (below_alloc _ _) (by simp) _) (by simp; omega) _)) (Nat.le_succ _) (Nat.le_refl _) (by omega) (Row.drew (Row.alloc (Row.new' (xs := rthNew n wr.heap.size) (by simp)) _)) (Row.drew (Row.alloc (Row.alloc (Row.new' rfl) _) _)) HO.out HG.out (Or.imp_right (fun h => by rw [h]; simp) HA.out)⟩
            case measure => simp [intOf]; omega
          · go_simp
            refine hK.out _ _ ?_ (fun hHeld => ?_)
            · exact ⟨cell_later (below_alloc _ _) hHeld.1, World.there_alloc hHeld.2 _⟩
            clear hK K
            (try go_frame)
            refine rd1 4 (by rfl) (by kernel_rfl) (fun K hK => ?_)
            rw [if_pos (by rfl)]
            refine wp_load_one _ _ rfl _ _ v rfl (by kernel_rfl) (by refine cell_later ?_ HCV.out; repeat (first | exact Below.refl _ _ | refine Below.drew ?_ | refine Below.alloc ?_ (by first | (simp; done) | (simp; omega)) _)) ?_
            refine hK.out _ _ ?_ (fun hHeld => ?_)
            · exact hHeld
            clear hK K
            (try go_frame)
            refine rd1 11 (by rfl) (by kernel_rfl) (fun K hK => ?_)
            refine step_append_lies _ rfl (.tmp 65) (.tmp 71) 103 rfl (W1.heap.size + 1) 107 pi (.pointer none) 1 8 Tryz.underlying103 HPI.out HP1.out HP2.out HP3.out rfl (by decide) v k (ptrs bT k) rfl ?_ ⟨wr.heap.size + 1 + 1, 0, none⟩ 1 1 [.pointer (some ⟨wr.heap.size + 1, 0, none⟩)] rfl rfl ?_ (by simp [Value.oneCell']) (by decide) (by unfold maxLen; omega) (by omega) ?_ (wr.heap.size + 1 + 1 + 1) (by simp) ?_
            · exact ((HI.out.2.1.alloc _).alloc _).alloc _
            · exact World.news_of_block (Row.drew (Row.new' (by simp)))
            · simp; omega
            intro g gc w4 hown hgr hat hlt4
            have HO := hide hown
            have HG := hide hgr
            have HA := hide hat
            clear hown hgr hat
            refine hK.out _ _ ?_ (fun hHeld => ?_)
            · exact keepG1 HG.out hHeld hneE hneN
            clear hK K
            (try go_frame)
            iterate 2 (refine tk 14 (by rfl) (by kernel_rfl) (by exact fun _ _ _ h => h) (.inl ⟨by rfl, fun w hS => by (try dsimp only at hS); go_simp; (try with_reducible rfl)⟩) (by assumption) ?_; try go_frame)
            refine rd1 14 (by rfl) (by kernel_rfl) (fun K hK => ?_)
            rw [if_pos (by rfl)]
            refine wp_store_one _ _ _ rfl W1.heap.size 7 _ rfl rfl rfl rfl hHeld.2 hsz ?_
            refine hK.out _ _ ?_ (fun hHeld => ?_)
            · exact ⟨(World.cell?_setCell_far _ _ _ _ (by simp; omega)).trans hHeld.1, there_set hHeld.2 _ rfl _⟩
            clear hK K
            (try go_frame)
            refine wpAnyH_done (by kernel_rfl) ?_ _
            (try go_wp2_with fail)
            go_roundw
            case rel => exact ⟨k + 1, _, _, _, by omega, by go_num, RfI.next rfl HI.out (Below.drew (Below.alloc (Below.alloc (below_alloc _ _) (by simp) _) (by simp; omega) _)) (Nat.le_succ _) (Nat.le_refl _) (by omega) (Row.drew (Row.alloc (Row.new' (xs := rthNew n wr.heap.size) (by simp)) _)) (Row.drew (Row.alloc (Row.alloc (Row.new' rfl) _) _)) HO.out HG.out (Or.imp_right (fun h => by rw [h]; simp) HA.out)⟩
            case measure => simp [intOf]; omega
    · have hke : k = n := by omega
      subst hke
      have HI := hide hI
      clear hI
      have hlt' : ¬ (k : Int) < (k : Int) := by omega
      go_wp2
      go_ret2
      exact ⟨W1.heap.size, rfl, W1, _, _, v, bT, bF, rfl, HBW.out, HI.out, .inl ⟨by omega, rfl, rfl⟩⟩
end Go.Proofs.YtefjhnhdagolhaaGreat
namespace Go.Proofs.YtefjhnhdagolhaaGreat
open Go.RowKit
attribute [local go_sem ↓] Go.wp_at_zero Go.wp_at_succ
set_option maxRecDepth 20000 in
set_option maxHeartbeats 4000000 in
theorem refNew_table (cap st co : Int) (nx ou : List Int) (vn vo : Value) (w : World) (hn : Sl w vn (ints nx)) (ho : Sl w vo (ints ou)) (n : Nat) (ht : tableOk st co nx ou = true) (n1 : nx.length ≤ 1048576) (n3 : ou.length ≤ 1048576) (h1 : 1 ≤ n) (h2 : n ≤ 64) (h3 : 0 ≤ cap) (h4 : cap ≤ 64) :
    Calls Tryz.prog 41 #[.agg #[.int .i64 5, .int .i64 (n : Int), .int .i64 cap, .int .i64 st, .int .i64 co, vn, vo]] w fun e w' => ∃ b, e = .returned (.tuple #[.pointer (some ⟨b, 0, none⟩), .int .i64 0]) ∧ RefMade w 5 n cap st co nx ou vn vo b w' := by
  obtain ⟨pi, hpi, hpz⟩ := Option.map_eq_some_iff.1 info_pthread
  simp only [Prod.mk.injEq] at hpz
  obtain ⟨hp1, hp2, hp3⟩ := hpz
  have HPI := hide hpi
  have HP1 := hide hp1
  have HP2 := hide hp2
  have HP3 := hide hp3
  clear hpi hp1 hp2 hp3
  have hmk := run_make_zeros (P := Tryz.prog) 22 3 (.int .i64 0) 8 Tryz.underlying22 info_int rfl (n : Int) n rfl (by omega) (by omega)
  have HC := hide (fun W hW => refTable_any st co nx ou vn vo W (hn.below hW) (ho.below hW))
  have HD := hide (fun W hW => own_any st co nx ou vn vo W (hn.below hW) (ho.below hW) n1 n3)
  clear hn ho
  have HT := hide ht
  clear ht
  go_enter Tryz.func41, Tryz.ntmps41
  go_wp2_with fail
  refine (HC.out _ (below_alloc _ _)).mono ?_
  rintro e w1 ⟨rfl, hb1⟩
  rw [HT.out]
  have hR1 : Row w1 w.heap.size 26 (ccs 5 n cap st co vn vo) := (Row.new' rfl).old hb1
  have hB1 : Below w.heap.size w w1 := Below.next (below_alloc w _) hb1 (by simp)
  have hz1 : w.heap.size < w1.heap.size := hR1.lt
  have p0 : w1.cell? ⟨w.heap.size, 0, none⟩ = some (.int .i64 5) := hR1.cell_of rfl
  have p3 : w1.cell? ⟨w.heap.size, 3, none⟩ = some (.int .i64 st) := hR1.cell_of rfl
  have p4 : w1.cell? ⟨w.heap.size, 4, none⟩ = some (.int .i64 co) := hR1.cell_of rfl
  have p5 : w1.cell? ⟨w.heap.size, 5, none⟩ = some vn := hR1.cell_of rfl
  have p6 : w1.cell? ⟨w.heap.size, 6, none⟩ = some vo := hR1.cell_of rfl
  have HR1 := hide hR1
  have HB1 := hide hB1
  clear hR1 hB1 hb1
  go_wp2_with fail
  refine (HD.out _ HB1.out).mono ?_
  rintro e w2 ⟨g1, g2, rfl, hg1, hg2, hr1, hr2, hb2⟩
  have hR2 : Row w2 w.heap.size 26 (ccs 5 n cap st co vn vo) := HR1.out.old hb2
  have s3 : w2.cell? ⟨w.heap.size, 3, none⟩ = some (.int .i64 st) := hR2.cell_of rfl
  have s4 : w2.cell? ⟨w.heap.size, 4, none⟩ = some (.int .i64 co) := hR2.cell_of rfl
  have s5 : w2.cell? ⟨w.heap.size, 5, none⟩ = some vn := hR2.cell_of rfl
  have s6 : w2.cell? ⟨w.heap.size, 6, none⟩ = some vo := hR2.cell_of rfl
  have sf := hR2.frozen
  have hz2 := hb2.size
  have HR2 := hide hR2
  have HG1 := hide hr1
  have HG2 := hide hr2
  have HB2 := hide (Below.next HB1.out hb2 HB1.out.size)
  clear hR2 hr1 hr2 hb2 p0 p3 p4 p5 p6
  go_upto_region 10 with fail
  generalize hW1 : World.setCell (World.setCell (World.setCell (World.setCell w2 _ _) _ _) _ _) _ _ = W1
  have HBW := hide (show Below w.heap.size w W1 by rw [← hW1]; exact ((((HB2.out.setCell (Nat.le_refl _) _).setCell (Nat.le_refl _) _).setCell (Nat.le_refl _) _).setCell (Nat.le_refl _) _))
  have hs1 : w.heap.size + 1 ≤ W1.heap.size := by rw [← hW1]; simp; omega
  have HRN := hide (show Row W1 w.heap.size 26 (ccs 5 n cap st co (.slice (some ⟨g1, 0, none⟩) nx.length nx.length) (.slice (some ⟨g2, 0, none⟩) ou.length ou.length)) by rw [← hW1]; exact (((HR2.out.set 3 _).set 4 _).set 5 _).set 6 _)
  have HW1a := hide (show Row W1 g1 3 (ints nx) by rw [← hW1]; exact Row.setOther (Row.setOther (Row.setOther (Row.setOther HG1.out (by simp; omega) _) (by simp; omega) _) (by simp; omega) _) (by simp; omega) _)
  have HW1b := hide (show Row W1 g2 3 (ints ou) by rw [← hW1]; exact Row.setOther (Row.setOther (Row.setOther (Row.setOther HG2.out (by simp; omega) _) (by simp; omega) _) (by simp; omega) _) (by simp; omega) _)
  have q0 : W1.cell? ⟨w.heap.size, 0, none⟩ = some (.int .i64 5) := HRN.out.cell_of rfl
  have q1 : W1.cell? ⟨w.heap.size, 1, none⟩ = some (.int .i64 (n : Int)) := HRN.out.cell_of rfl
  have q2 : W1.cell? ⟨w.heap.size, 2, none⟩ = some (.int .i64 cap) := HRN.out.cell_of rfl
  have q3 : W1.cell? ⟨w.heap.size, 3, none⟩ = some (.int .i64 st) := HRN.out.cell_of rfl
  have q4 : W1.cell? ⟨w.heap.size, 4, none⟩ = some (.int .i64 co) := HRN.out.cell_of rfl
  have q5 : W1.cell? ⟨w.heap.size, 5, none⟩ = some (.slice (some ⟨g1, 0, none⟩) nx.length nx.length) := HRN.out.cell_of rfl
  have q6 : W1.cell? ⟨w.heap.size, 6, none⟩ = some (.slice (some ⟨g2, 0, none⟩) ou.length ou.length) := HRN.out.cell_of rfl
  clear hW1 s3 s4 s5 s6 sf
  have hI0 : RfI W1 n (ccs 5 n cap st co (.slice (some ⟨g1, 0, none⟩) nx.length nx.length) (.slice (some ⟨g2, 0, none⟩) ou.length ou.length)) (.slice none 0 0) 0 (fun _ => 0) (fun _ => 0) (W1.alloc (.cells (ccs 5 n cap st co (.slice (some ⟨g1, 0, none⟩) nx.length nx.length) (.slice (some ⟨g2, 0, none⟩) ou.length ou.length) ++ [Value.slice none 0 0, .slice none 0 0]).toArray 105)) :=
    ⟨Row.new' rfl, World.ownsRow_nil _ _ _ _, fun t ht => absurd ht (by omega), fun s t _ h => absurd h (by omega), below_alloc _ _⟩
  have HI0 := hide hI0
  clear hI0
  go_wp2_with fail
  go_loopw [6] (fun i w' => ∃ k v bT bF, k ≤ n ∧ i = .int .i64 (k : Int) ∧ RfI W1 n (ccs 5 n cap st co (.slice (some ⟨g1, 0, none⟩) nx.length nx.length) (.slice (some ⟨g2, 0, none⟩) ou.length ou.length)) v k bT bF w') (fun i _ => n - (intOf i).toNat)
  case atStart => exact ⟨0, _, _, _, Nat.zero_le _, rfl, HI0.out⟩
  case round =>
    obtain ⟨k, v, bT, bF, hk, rfl, hI⟩ := hrel
    have hcN : wr.cell? ⟨w.heap.size, 1, none⟩ = some (.int .i64 (n : Int)) := cell_later hI.2.2.2.2 (HRN.out.cell_of rfl)
    by_cases hlt : k < n
    · have hlt' : (k : Int) < (n : Int) := by omega
      have hcv : wr.cell? ⟨W1.heap.size, 7, none⟩ = some v := hI.1.cell_of rfl
      have hth : wr.there W1.heap.size 7 1 := hI.1.there (by simp [ccs])
      have hvlt := hI.2.1.lt
      have hzI := hI.1.lt
      have hneE : some W1.heap.size ≠ v.ownBlock := fun e => by have := (hvlt _ e.symm).1; omega
      have hneN : some w.heap.size ≠ v.ownBlock := fun e => by have := (hvlt _ e.symm).1; omega
      have hsz : (Tryz.prog.info? 103).map (·.size) = some 1 := by kernel_rfl
      have HI := hide hI
      have HCV := hide hcv
      clear hI hcv hvlt
      go_wp2
      refine rg0 (S := (fun w' => w'.cell? ⟨w.heap.size, 1, none⟩ = some (.int .i64 (n : Int)) ∧ w'.there W1.heap.size 7 1)) 15 rfl (by kernel_rfl) ?_ (fun hHeld => ?_)
      · exact ⟨hcN, hth⟩
      iterate 4 (refine tk 14 (by rfl) (by kernel_rfl) (by exact fun _ _ _ h => h) (.inl ⟨by rfl, fun w hS => by (try dsimp only at hS); go_simp; (try with_reducible rfl)⟩) (by assumption) ?_; try go_frame)
      iterate 2 (refine tk 15 (by rfl) (by kernel_rfl) (by exact fun _ _ _ h => h) (.inl ⟨by rfl, fun w hS => by (try dsimp only at hS); go_simp; (try with_reducible rfl)⟩) (by assumption) ?_; try go_frame)
      refine wpAnyH_ready (rs := [4, 7]) (by kernel_rfl) (by simp) (rc (by rfl) (fun K hK => ?_) (rc (by rfl) (fun K hK => ?_) AllReadyH.nil))
      · rw [if_pos (by rfl)]
        refine wp_load_one _ _ rfl _ _ v rfl (by kernel_rfl) (by refine cell_later ?_ HCV.out; repeat (first | exact Below.refl _ _ | refine Below.drew ?_ | refine Below.alloc ?_ (by first | (simp; done) | (simp; omega)) _)) ?_
        refine hK.out _ _ ?_ (fun hHeld => ?_)
        · exact hHeld
        clear hK K
        (try go_frame)
        refine rd1 7 (by rfl) (by kernel_rfl) (fun K hK => ?_)
        go_simp
        refine hK.out _ _ ?_ (fun hHeld => ?_)
        · exact ⟨cell_later (below_alloc _ _) hHeld.1, World.there_alloc hHeld.2 _⟩
        clear hK K
        (try go_frame)
        iterate 1 (refine tk 14 (by rfl) (by kernel_rfl) (by exact fun _ _ _ h => h) (.inl ⟨by rfl, fun w hS => by (try dsimp only at hS); go_simp; (try with_reducible rfl)⟩) (by assumption) ?_; try go_frame)
        refine rd1 9 (by rfl) (by kernel_rfl) (fun K hK => ?_)
        go_simp
        refine hK.out _ _ ?_ (fun hHeld => ?_)
        · exact ⟨cell_later (below_alloc _ _) hHeld.1, World.there_alloc hHeld.2 _⟩
        clear hK K
        (try go_frame)
        refine rd1 10 (by rfl) (by kernel_rfl) (fun K hK => ?_)
        go_simp
        refine hK.out _ _ ?_ (fun hHeld => ?_)
        · exact ⟨cell_later (below_alloc _ _) hHeld.1, World.there_alloc hHeld.2 _⟩
        clear hK K
        (try go_frame)
        refine rd1 11 (by rfl) (by kernel_rfl) (fun K hK => ?_)
        refine step_append_lies _ rfl (.tmp 65) (.tmp 71) 103 rfl (W1.heap.size + 1) 107 pi (.pointer none) 1 8 Tryz.underlying103 HPI.out HP1.out HP2.out HP3.out rfl (by decide) v k (ptrs bT k) rfl ?_ ⟨wr.heap.size + 1 + 1, 0, none⟩ 1 1 [.pointer (some ⟨wr.heap.size + 1, 0, none⟩)] rfl rfl ?_ (by simp [Value.oneCell']) (by decide) (by unfold maxLen; omega) (by omega) ?_ (wr.heap.size + 1 + 1 + 1) (by simp) ?_
        · exact ((HI.out.2.1.alloc _).alloc _).alloc _
        · exact World.news_of_block (Row.drew (Row.new' (by simp)))
        · simp; omega
        intro g gc w4 hown hgr hat hlt4
        have HO := hide hown
        have HG := hide hgr
        have HA := hide hat
        clear hown hgr hat
        refine hK.out _ _ ?_ (fun hHeld => ?_)
        · exact keepG1 HG.out hHeld hneE hneN
        clear hK K
        (try go_frame)
        iterate 2 (refine tk 14 (by rfl) (by kernel_rfl) (by exact fun _ _ _ h => h) (.inl ⟨by rfl, fun w hS => by (try dsimp only at hS); go_simp; (try with_reducible rfl)⟩) (by assumption) ?_; try go_frame)
        refine rd1 14 (by rfl) (by kernel_rfl) (fun K hK => ?_)
        rw [if_pos (by rfl)]
        refine wp_store_one _ _ _ rfl W1.heap.size 7 _ rfl rfl rfl rfl hHeld.2 hsz ?_
        refine hK.out _ _ ?_ (fun hHeld => ?_)
        · exact ⟨(World.cell?_setCell_far _ _ _ _ (by simp; omega)).trans hHeld.1, there_set hHeld.2 _ rfl _⟩
        clear hK K
        (try go_frame)
        refine wpAnyH_done (by kernel_rfl) ?_ _
        (try go_wp2_with fail)
        go_roundw
        case rel => exact ⟨k + 1, _, _, _, by omega, by go_num, RfI.next rfl HI.out (Below.drew (Below.alloc (Below.alloc (below_alloc _ _) (by simp) _) (by simp; omega) _)) (Nat.le_succ _) (Nat.le_refl _) (by omega) (Row.drew (Row.alloc (Row.new' (xs := rthNew n wr.heap.size) (by simp)) _)) (Row.drew (Row.alloc (Row.alloc (Row.new' rfl) _) _)) HO.out HG.out (Or.imp_right (fun h => by rw [h]; simp) HA.out)⟩
        case measure => simp [intOf]; omega
      · go_simp
        refine hK.out _ _ ?_ (fun hHeld => ?_)
        · exact ⟨cell_later (below_alloc _ _) hHeld.1, World.there_alloc hHeld.2 _⟩
        clear hK K
        (try go_frame)
        iterate 1 (refine tk 15 (by rfl) (by kernel_rfl) (by exact fun _ _ _ h => h) (.inl ⟨by rfl, fun w hS => by (try dsimp only at hS); go_simp; (try with_reducible rfl)⟩) (by assumption) ?_; try go_frame)
        refine wpAnyH_ready (rs := [4, 9]) (by kernel_rfl) (by simp) (rc (by rfl) (fun K hK => ?_) (rc (by rfl) (fun K hK => ?_) AllReadyH.nil))
        · rw [if_pos (by rfl)]
          refine wp_load_one _ _ rfl _ _ v rfl (by kernel_rfl) (by refine cell_later ?_ HCV.out; repeat (first | exact Below.refl _ _ | refine Below.drew ?_ | refine Below.alloc ?_ (by first | (simp; done) | (simp; omega)) _)) ?_
          refine hK.out _ _ ?_ (fun hHeld => ?_)
          · exact hHeld
          clear hK K
          (try go_frame)
          refine rd1 9 (by rfl) (by kernel_rfl) (fun K hK => ?_)
          go_simp
          refine hK.out _ _ ?_ (fun hHeld => ?_)
          · exact ⟨cell_later (below_alloc _ _) hHeld.1, World.there_alloc hHeld.2 _⟩
          clear hK K
          (try go_frame)
          refine rd1 10 (by rfl) (by kernel_rfl) (fun K hK => ?_)
          go_simp
          refine hK.out _ _ ?_ (fun hHeld => ?_)
          · exact ⟨cell_later (below_alloc _ _) hHeld.1, World.there_alloc hHeld.2 _⟩
          clear hK K
          (try go_frame)
          refine rd1 11 (by rfl) (by kernel_rfl) (fun K hK => ?_)
          refine step_append_lies _ rfl (.tmp 65) (.tmp 71) 103 rfl (W1.heap.size + 1) 107 pi (.pointer none) 1 8 Tryz.underlying103 HPI.out HP1.out HP2.out HP3.out rfl (by decide) v k (ptrs bT k) rfl ?_ ⟨wr.heap.size + 1 + 1, 0, none⟩ 1 1 [.pointer (some ⟨wr.heap.size + 1, 0, none⟩)] rfl rfl ?_ (by simp [Value.oneCell']) (by decide) (by unfold maxLen; omega) (by omega) ?_ (wr.heap.size + 1 + 1 + 1) (by simp) ?_
          · exact ((HI.out.2.1.alloc _).alloc _).alloc _
          · exact World.news_of_block (Row.drew (Row.new' (by simp)))
          · simp; omega
          intro g gc w4 hown hgr hat hlt4
          have HO := hide hown
          have HG := hide hgr
          have HA := hide hat
          clear hown hgr hat
          refine hK.out _ _ ?_ (fun hHeld => ?_)
          · exact keepG1 HG.out hHeld hneE hneN
          clear hK K
          (try go_frame)
          iterate 2 (refine tk 14 (by rfl) (by kernel_rfl) (by exact fun _ _ _ h => h) (.inl ⟨by rfl, fun w hS => by (try dsimp only at hS); go_simp; (try with_reducible rfl)⟩) (by assumption) ?_; try go_frame)
          refine rd1 14 (by rfl) (by kernel_rfl) (fun K hK => ?_)
          rw [if_pos (by rfl)]
          refine wp_store_one _ _ _ rfl W1.heap.size 7 _ rfl rfl rfl rfl hHeld.2 hsz ?_
          refine hK.out _ _ ?_ (fun hHeld => ?_)
          · exact ⟨(World.cell?_setCell_far _ _ _ _ (by simp; omega)).trans hHeld.1, there_set hHeld.2 _ rfl _⟩
          clear hK K
          (try go_frame)
          refine wpAnyH_done (by kernel_rfl) ?_ _
          (try go_wp2_with fail)
          go_roundw
          case rel => exact ⟨k + 1, _, _, _, by omega, by go_num, RfI.next rfl HI.out (Below.drew (Below.alloc (Below.alloc (below_alloc _ _) (by simp) _) (by simp; omega) _)) (Nat.le_succ _) (Nat.le_refl _) (by omega) (Row.drew (Row.alloc (Row.new' (xs := rthNew n wr.heap.size) (by simp)) _)) (Row.drew (Row.alloc (Row.alloc (Row.new' rfl) _) _)) HO.out HG.out (Or.imp_right (fun h => by rw [h]; simp) HA.out)⟩
          case measure => simp [intOf]; omega
        · go_simp
          refine hK.out _ _ ?_ (fun hHeld => ?_)
          · exact ⟨cell_later (below_alloc _ _) hHeld.1, World.there_alloc hHeld.2 _⟩
          clear hK K
          (try go_frame)
          refine wpAnyH_ready (rs := [4, 10]) (by kernel_rfl) (by simp) (rc (by rfl) (fun K hK => ?_) (rc (by rfl) (fun K hK => ?_) AllReadyH.nil))
          · rw [if_pos (by rfl)]
            refine wp_load_one _ _ rfl _ _ v rfl (by kernel_rfl) (by refine cell_later ?_ HCV.out; repeat (first | exact Below.refl _ _ | refine Below.drew ?_ | refine Below.alloc ?_ (by first | (simp; done) | (simp; omega)) _)) ?_
            refine hK.out _ _ ?_ (fun hHeld => ?_)
            · exact hHeld
            clear hK K
            (try go_frame)
            refine rd1 10 (by rfl) (by kernel_rfl) (fun K hK => ?_)
            go_simp
            refine hK.out _ _ ?_ (fun hHeld => ?_)
            · exact ⟨cell_later (below_alloc _ _) hHeld.1, World.there_alloc hHeld.2 _⟩
            clear hK K
            (try go_frame)
            refine rd1 11 (by rfl) (by kernel_rfl) (fun K hK => ?_)
            refine step_append_lies _ rfl (.tmp 65) (.tmp 71) 103 rfl (W1.heap.size + 1) 107 pi (.pointer none) 1 8 Tryz.underlying103 HPI.out HP1.out HP2.out HP3.out rfl (by decide) v k (ptrs bT k) rfl ?_ ⟨wr.heap.size + 1 + 1, 0, none⟩ 1 1 [.pointer (some ⟨wr.heap.size + 1, 0, none⟩)] rfl rfl ?_ (by simp [Value.oneCell']) (by decide) (by unfold maxLen; omega) (by omega) ?_ (wr.heap.size + 1 + 1 + 1) (by simp) ?_
            · exact ((HI.out.2.1.alloc _).alloc _).alloc _
            · exact World.news_of_block (Row.drew (Row.new' (by simp)))
            · simp; omega
            intro g gc w4 hown hgr hat hlt4
            have HO := hide hown
            have HG := hide hgr
            have HA := hide hat
            clear hown hgr hat
            refine hK.out _ _ ?_ (fun hHeld => ?_)
            · exact keepG1 HG.out hHeld hneE hneN
            clear hK K
            (try go_frame)
            iterate 2 (refine tk 14 (by rfl) (by kernel_rfl) (by exact fun _ _ _ h => h) (.inl ⟨by rfl, fun w hS => by (try dsimp only at hS); go_simp; (try with_reducible rfl)⟩) (by assumption) ?_; try go_frame)
            refine rd1 14 (by rfl) (by kernel_rfl) (fun K hK => ?_)
            rw [if_pos (by rfl)]
            refine wp_store_one _ _ _ rfl W1.heap.size 7 _ rfl rfl rfl rfl hHeld.2 hsz ?_
            refine hK.out _ _ ?_ (fun hHeld => ?_)
            · exact ⟨(World.cell?_setCell_far _ _ _ _ (by simp; omega)).trans hHeld.1, there_set hHeld.2 _ rfl _⟩
            clear hK K
            (try go_frame)
            refine wpAnyH_done (by kernel_rfl) ?_ _
            (try go_wp2_with fail)
            go_roundw
            case rel => exact ⟨k + 1, _, _, _, by omega, by go_num, RfI.next rfl HI.out (Below.drew (Below.alloc (Below.alloc (below_alloc _ _) (by simp) _) (by simp; omega) _)) (Nat.le_succ _) (Nat.le_refl _) (by omega) (Row.drew (Row.alloc (Row.new' (xs := rthNew n wr.heap.size) (by simp)) _)) (Row.drew (Row.alloc (Row.alloc (Row.new' rfl) _) _)) HO.out HG.out (Or.imp_right (fun h => by rw [h]; simp) HA.out)⟩
            case measure => simp [intOf]; omega
          · go_simp
            refine hK.out _ _ ?_ (fun hHeld => ?_)
            · exact ⟨cell_later (below_alloc _ _) hHeld.1, World.there_alloc hHeld.2 _⟩
            clear hK K
            (try go_frame)
            refine rd1 4 (by rfl) (by kernel_rfl) (fun K hK => ?_)
            rw [if_pos (by rfl)]
            refine wp_load_one _ _ rfl _ _ v rfl (by kernel_rfl) (by refine cell_later ?_ HCV.out; repeat (first | exact Below.refl _ _ | refine Below.drew ?_ | refine Below.alloc ?_ (by first | (simp; done) | (simp; omega)) _)) ?_
            refine hK.out _ _ ?_ (fun hHeld => ?_)
            · exact hHeld
            clear hK K
            (try go_frame)
            refine rd1 11 (by rfl) (by kernel_rfl) (fun K hK => ?_)
            refine step_append_lies _ rfl (.tmp 65) (.tmp 71) 103 rfl (W1.heap.size + 1) 107 pi (.pointer none) 1 8 Tryz.underlying103 HPI.out HP1.out HP2.out HP3.out rfl (by decide) v k (ptrs bT k) rfl ?_ ⟨wr.heap.size + 1 + 1, 0, none⟩ 1 1 [.pointer (some ⟨wr.heap.size + 1, 0, none⟩)] rfl rfl ?_ (by simp [Value.oneCell']) (by decide) (by unfold maxLen; omega) (by omega) ?_ (wr.heap.size + 1 + 1 + 1) (by simp) ?_
            · exact ((HI.out.2.1.alloc _).alloc _).alloc _
            · exact World.news_of_block (Row.drew (Row.new' (by simp)))
            · simp; omega
            intro g gc w4 hown hgr hat hlt4
            have HO := hide hown
            have HG := hide hgr
            have HA := hide hat
            clear hown hgr hat
            refine hK.out _ _ ?_ (fun hHeld => ?_)
            · exact keepG1 HG.out hHeld hneE hneN
            clear hK K
            (try go_frame)
            iterate 2 (refine tk 14 (by rfl) (by kernel_rfl) (by exact fun _ _ _ h => h) (.inl ⟨by rfl, fun w hS => by (try dsimp only at hS); go_simp; (try with_reducible rfl)⟩) (by assumption) ?_; try go_frame)
            refine rd1 14 (by rfl) (by kernel_rfl) (fun K hK => ?_)
            rw [if_pos (by rfl)]
            refine wp_store_one _ _ _ rfl W1.heap.size 7 _ rfl rfl rfl rfl hHeld.2 hsz ?_
            refine hK.out _ _ ?_ (fun hHeld => ?_)
            · exact ⟨(World.cell?_setCell_far _ _ _ _ (by simp; omega)).trans hHeld.1, there_set hHeld.2 _ rfl _⟩
            clear hK K
            (try go_frame)
            refine wpAnyH_done (by kernel_rfl) ?_ _
            (try go_wp2_with fail)
            go_roundw
            case rel => exact ⟨k + 1, _, _, _, by omega, by go_num, RfI.next rfl HI.out (Below.drew (Below.alloc (Below.alloc (below_alloc _ _) (by simp) _) (by simp; omega) _)) (Nat.le_succ _) (Nat.le_refl _) (by omega) (Row.drew (Row.alloc (Row.new' (xs := rthNew n wr.heap.size) (by simp)) _)) (Row.drew (Row.alloc (Row.alloc (Row.new' rfl) _) _)) HO.out HG.out (Or.imp_right (fun h => by rw [h]; simp) HA.out)⟩
            case measure => simp [intOf]; omega
    · have hke : k = n := by omega
      subst hke
      have HI := hide hI
      clear hI
      have hlt' : ¬ (k : Int) < (k : Int) := by omega
      go_wp2
      go_ret2
      exact ⟨W1.heap.size, rfl, W1, _, _, v, bT, bF, rfl, HBW.out, HI.out, .inr ⟨rfl, g1, g2, rfl, rfl, by omega, by omega, HW1a.out, HW1b.out⟩⟩
end Go.Proofs.YtefjhnhdagolhaaGreat
namespace Go.Proofs.YtefjhnhdagolhaaGreat
open Go.RowKit
attribute [local go_sem ↓] Go.wp_at_zero Go.wp_at_succ
structure RefRd (b n g gc : Nat) (bT : Nat → Nat) (kind cap st co : Int) (vn vo : Value) (w : World) : Prop where
  row : Row w b 105 (ccs kind n cap st co vn vo ++ [.slice (some ⟨g, 0, none⟩) n gc, .slice none 0 0])
  ptr : ∀ t, t < n → w.cell? ⟨g, t, none⟩ = some (.pointer (some ⟨bT t, 0, none⟩))
  ended : ∀ t, t < n → w.cell? ⟨bT t, 1, none⟩ = some (.int .i64 0)
  part : ∀ t, t < n → w.cell? ⟨bT t, 3, none⟩ = some (.int .i64 0)
theorem RefRd.later {b n g gc : Nat} {bT : Nat → Nat} {kind cap st co : Int} {vn vo : Value} {w w' : World} (h : RefRd b n g gc bT kind cap st co vn vo w) (hb : Below w.heap.size w w') : RefRd b n g gc bT kind cap st co vn vo w' :=
  ⟨h.row.old hb, fun t ht => cell_later hb (h.ptr t ht), fun t ht => cell_later hb (h.ended t ht), fun t ht => cell_later hb (h.part t ht)⟩
section
variable {b n g gc : Nat} {bT : Nat → Nat} {kind cap st co : Int} {vn vo : Value} (w : World)
set_option maxHeartbeats 400000 in
theorem refWords (hR : RefRd b n g gc bT kind cap st co vn vo w) (_h1 : 1 ≤ n) (_h2 : n ≤ 64) :
    Calls Tryz.prog 86 #[.pointer (some ⟨b, 0, none⟩)] w fun e w' => e = .returned (.int .i64 (((n : Int) + 15) / 16)) ∧ w' = w := by
  have c1 : w.cell? ⟨b, 1, none⟩ = some (.int .i64 (n : Int)) := hR.row.cell_of rfl
  clear hR
  go_enter Tryz.func86, Tryz.ntmps86
  go_wp2
  go_ret
  exact ⟨rfl, rfl⟩
set_option maxHeartbeats 400000 in
theorem refParts (hR : RefRd b n g gc bT kind cap st co vn vo w) (_h1 : 1 ≤ n) (_h2 : n ≤ 64) :
    Calls Tryz.prog 109 #[.pointer (some ⟨b, 0, none⟩)] w fun e w' => e = .returned (.int .i64 (((n : Int) + 15) / 16 + 2 * (n : Int) + 1)) ∧ ∃ k, w' = w.drewN k := by
  have c1 : w.cell? ⟨b, 1, none⟩ = some (.int .i64 (n : Int)) := hR.row.cell_of rfl
  have HR := hide (fun k => hR.later (Below.drewN (Below.refl _ _) k))
  clear hR
  go_enter Tryz.func109, Tryz.ntmps109
  go_wp2
  go_quiet ((go_at_call 86; exact Calls.quiet_of_same (refWords _ (HR.out _) _h1 _h2)))
  go_wp2
  go_ret
  exact ⟨rfl, _, rfl⟩
set_option maxHeartbeats 800000 in
theorem refBound (hR : RefRd b n g gc bT kind cap st co vn vo w) (_h1 : 1 ≤ n) (_h2 : n ≤ 64) (_h3 : 0 ≤ cap) (_h4 : cap ≤ 64) :
    Calls Tryz.prog 84 #[.pointer (some ⟨b, 0, none⟩)] w fun e w' => e = .returned (.int .i64 (4 + 2 * (cap + 3 + 2 * (((n : Int) + 15) / 16 + 2 * (n : Int) + 1) + ((n : Int) + 15) / 16 + 3 * (n : Int)) + 3)) ∧ ∃ k, w' = w.drewN k := by
  have c1 : w.cell? ⟨b, 1, none⟩ = some (.int .i64 (n : Int)) := hR.row.cell_of rfl
  have c2 : w.cell? ⟨b, 2, none⟩ = some (.int .i64 cap) := hR.row.cell_of rfl
  have HR := hide (fun k => hR.later (Below.drewN (Below.refl _ _) k))
  have HR0 := hide hR
  clear hR
  go_enter Tryz.func84, Tryz.ntmps84
  go_wp2_with fail
  refine (refWords _ HR0.out _h1 _h2).mono ?_
  rintro e w1 ⟨rfl, rfl⟩
  go_wp2_with fail
  refine (refParts _ HR0.out _h1 _h2).mono ?_
  rintro e w1 ⟨rfl, k, rfl⟩
  go_wp2_with fail
  go_quiet (fail)
  go_wp2
  go_ret
  exact ⟨rfl, _, by first | rfl | rw [World.drewN_drewN]⟩
set_option maxHeartbeats 400000 in
theorem refAnswer_out (t : Int) (hR : RefRd b n g gc bT kind cap st co vn vo w) (_h2 : n ≤ 64) (ht : t < 0 ∨ (n : Int) ≤ t) :
    Calls Tryz.prog 54 #[.pointer (some ⟨b, 0, none⟩), .int .i64 t] w fun e w' => e = .returned (.tuple #[.agg #[.int .i64 0, .int .i64 0], .int .i64 3]) ∧ Below w.heap.size w w' := by
  have c7 : w.cell? ⟨b, 7, none⟩ = some (.slice (some ⟨g, 0, none⟩) n gc) := hR.row.cell_of rfl
  have c7' := fun ob => cell_new c7 ob
  clear hR
  by_cases h0 : t < 0
  · go_enter Tryz.func54, Tryz.ntmps54
    go_wp2
    exact bodyPost_ret (v := .tuple #[.agg #[.int .i64 0, .int .i64 0], .int .i64 3]) (by simp [results, Tryz.results54, go_sem]) rfl ⟨rfl, (by repeat (first | exact Below.refl _ _ | assumption | refine Below.drewN ?_ _ | refine Below.alloc ?_ (by simp) _))⟩
  · have h1 : (n : Int) ≤ t := by omega
    clear ht
    go_enter Tryz.func54, Tryz.ntmps54
    go_wp2
    exact bodyPost_ret (v := .tuple #[.agg #[.int .i64 0, .int .i64 0], .int .i64 3]) (by simp [results, Tryz.results54, go_sem]) rfl ⟨rfl, (by repeat (first | exact Below.refl _ _ | assumption | refine Below.drewN ?_ _ | refine Below.alloc ?_ (by simp) _))⟩
set_option maxHeartbeats 400000 in
theorem refAnswer_new (t : Nat) (hR : RefRd b n g gc bT kind cap st co vn vo w) (_h2 : n ≤ 64) (ht : t < n) :
    Calls Tryz.prog 54 #[.pointer (some ⟨b, 0, none⟩), .int .i64 (t : Int)] w fun e w' => e = .returned (.tuple #[.agg #[.int .i64 0, .int .i64 0], .int .i64 5]) ∧ Below w.heap.size w w' := by
  have c7 : w.cell? ⟨b, 7, none⟩ = some (.slice (some ⟨g, 0, none⟩) n gc) := hR.row.cell_of rfl
  have c7' := fun ob => cell_new c7 ob
  have p1 := fun ob => cell_new (hR.ptr t ht) ob
  have p2 := fun ob => cell_new (hR.ended t ht) ob
  have p3 := fun ob => cell_new (hR.part t ht) ob
  have x1 : (0 : Int) ≤ (t : Int) := by omega
  have x2 : (t : Int) < (n : Int) := by omega
  have x3 : ¬ (n : Int) ≤ (t : Int) := by omega
  clear hR
  go_enter Tryz.func54, Tryz.ntmps54
  go_wp2
  exact bodyPost_ret (v := .tuple #[.agg #[.int .i64 0, .int .i64 0], .int .i64 5]) (by simp [results, Tryz.results54, go_sem]) rfl ⟨rfl, (by repeat (first | exact Below.refl _ _ | assumption | refine Below.drewN ?_ _ | refine Below.alloc ?_ (by simp) _))⟩
set_option maxHeartbeats 400000 in
theorem refOrder_new (hR : RefRd b n g gc bT kind cap st co vn vo w) :
    Calls Tryz.prog 55 #[.pointer (some ⟨b, 0, none⟩)] w fun e w' => e = .returned (.slice none 0 0) ∧ w' = w := by
  have c8 : w.cell? ⟨b, 8, none⟩ = some (.slice none 0 0) := hR.row.cell_of rfl
  clear hR
  go_enter Tryz.func55, Tryz.ntmps55
  go_wp2
  go_loop [3, 4] (fun s i => s = .slice none 0 0 ∧ i = .int .i64 0) (fun _ _ => 0)
  case atStart => exact ⟨rfl, rfl⟩
  case round =>
    obtain ⟨rfl, rfl⟩ := hrel
    go_wp2
    go_ret
    exact ⟨rfl, rfl⟩
end
end Go.Proofs.YtefjhnhdagolhaaGreat
namespace Go.Proofs.YtefjhnhdagolhaaGreat
open Go.RowKit
attribute [local go_sem ↓] Go.wp_at_zero Go.wp_at_succ
section
variable (kind n cap st co : Int) (a1 : Option Addr) (l1 c1 : Nat) (a2 : Option Addr) (l2 c2 : Nat) (w : World)
set_option maxHeartbeats 1000000 in
theorem start_num (hk : kind = 1 ∨ kind = 5) :
    Calls Tryz.prog 113 #[.agg #[.int .i64 kind, .int .i64 n, .int .i64 cap, .int .i64 st, .int .i64 co, .slice a1 l1 c1, .slice a2 l2 c2]] w fun e w' => ∃ g, e = .returned (.agg #[.int .i64 kind, .int .i64 st, .int .i64 co, .slice a1 l1 c1, .slice a2 l2 c2, .slice (some ⟨g, 0, none⟩) 1 1]) ∧
      w.heap.size ≤ g ∧ Row w' g 3 [.int .i64 0] ∧ Below w.heap.size w w' := by
  rcases hk with rfl | rfl
  all_goals
    go_enter Tryz.func113, Tryz.ntmps113
    go_wp2
    refine bodyPost_ret (v := .agg #[_, .int .i64 st, .int .i64 co, .slice a1 l1 c1, .slice a2 l2 c2, .slice (some ⟨w.heap.size + 1 + 1 + 1, 0, none⟩) 1 1]) (by simp [results, Tryz.results113, go_sem]) rfl ⟨_, rfl, by omega, ?_, ?_⟩
    · exact Row.new' (xs := [.int .i64 0]) (by simp)
    · exact (by repeat (first | exact Below.refl _ _ | refine Below.drewN ?_ _ | refine Below.drew ?_ | refine Below.alloc ?_ (by first | (simp; done) | (simp; omega)) _ | refine Below.next ?_ (by assumption) (by first | (simp; done) | (simp; omega))))
set_option maxHeartbeats 1000000 in
theorem start_list (h1 : 2 ≤ kind) (h2 : kind ≤ 4) :
    Calls Tryz.prog 113 #[.agg #[.int .i64 kind, .int .i64 n, .int .i64 cap, .int .i64 st, .int .i64 co, .slice a1 l1 c1, .slice a2 l2 c2]] w fun e w' => e = .returned (.agg #[.int .i64 kind, .int .i64 st, .int .i64 co, .slice a1 l1 c1, .slice a2 l2 c2, .slice none 0 0]) ∧
      Below w.heap.size w w' := by
  have k1 : (kind == 1) = false := beq_eq_false_iff_ne.2 (by omega)
  have k2 : (kind == 5) = false := beq_eq_false_iff_ne.2 (by omega)
  go_enter Tryz.func113, Tryz.ntmps113
  go_wp2
  refine bodyPost_ret (v := .agg #[.int .i64 kind, .int .i64 st, .int .i64 co, .slice a1 l1 c1, .slice a2 l2 c2, .slice none 0 0]) (by simp [results, Tryz.results113, go_sem]) rfl ⟨rfl, ?_⟩
  exact (by repeat (first | exact Below.refl _ _ | refine Below.drewN ?_ _ | refine Below.drew ?_ | refine Below.alloc ?_ (by first | (simp; done) | (simp; omega)) _ | refine Below.next ?_ (by assumption) (by first | (simp; done) | (simp; omega))))
def holdsNew (kind : Int) : List Int := if kind = 1 ∨ kind = 5 then [0] else []
theorem start_any (h1 : 1 ≤ kind) (h2 : kind ≤ 5) :
    Calls Tryz.prog 113 #[.agg #[.int .i64 kind, .int .i64 n, .int .i64 cap, .int .i64 st, .int .i64 co, .slice a1 l1 c1, .slice a2 l2 c2]] w fun e w' => ∃ a l c, e = .returned (.agg #[.int .i64 kind, .int .i64 st, .int .i64 co, .slice a1 l1 c1, .slice a2 l2 c2, .slice a l c]) ∧
      w'.ownsRow w.heap.size 3 1 (.slice a l c) (holdsNew kind).length (ints (holdsNew kind)) ∧ Below w.heap.size w w' ∧ (holdsNew kind = [] → a = none ∧ l = 0 ∧ c = 0) := by
  by_cases hk : kind = 1 ∨ kind = 5
  · refine (start_num kind n cap st co a1 l1 c1 a2 l2 c2 w hk).mono ?_
    rintro e w' ⟨g, rfl, hg, hr, hb⟩
    refine ⟨_, _, _, rfl, ?_, hb, fun hh => by rw [holdsNew, if_pos hk] at hh; cases hh⟩
    rw [holdsNew, if_pos hk]
    exact ⟨rfl, .inr ⟨g, 1, #[.int .i64 0], rfl, hg, hr, Nat.le_refl _, by decide, rfl, rfl⟩⟩
  · refine (start_list kind n cap st co a1 l1 c1 a2 l2 c2 w (by omega) (by omega)).mono ?_
    rintro e w' ⟨rfl, hb⟩
    refine ⟨_, _, _, rfl, ?_, hb, fun _ => ⟨rfl, rfl, rfl⟩⟩
    rw [holdsNew, if_neg hk]
    exact World.ownsRow_nil _ _ _ _
end
end Go.Proofs.YtefjhnhdagolhaaGreat
namespace Go.Proofs.YtefjhnhdagolhaaGreat
open Go.RowKit
theorem Made.eng {w : World} {kind : Int} {n : Nat} {cap st co : Int} {nx ou : List Int} {b : Nat} {w' : World} (h : Made w kind n cap st co nx ou b w') (hn : 1 ≤ n) (h2 : n ≤ 64) (h3 : 0 ≤ cap) (h4 : cap ≤ 64) :
    ∃ tE bN fA fO fS fB, Row w' b 74 [.iface tE (.pointer (some ⟨bN, 0, none⟩))] ∧ Eng w.heap.size tE bN fA fO fS fB n cap (holdsNew kind) w' ∧ Below w.heap.size w w' := by
  rcases h with ⟨rfl, bN, hr, hE, -⟩ | ⟨rfl, bN, hr, hE, -⟩ | ⟨rfl, bN, hr, hE, -⟩ | ⟨rfl, bN, hr, hE, -⟩ | ⟨rfl, g1, k1, g2, k2, ⟨bN, hr, hE, -⟩, -, -⟩
  · exact ⟨_, bN, _, _, _, _, hr, int.eng_new _ n cap _ _ _ _ [0] counterTell_m (counterTell_c _) (counterTell 0) bN w' (hE.reads hn) hn h2 h3 h4, hE.below.1⟩
  · exact ⟨_, bN, _, _, _, _, hr, list.eng_new _ n cap _ _ _ _ [] stackTell_m (stackTell_c _) stackTell bN w' (hE.reads hn) hn h2 h3 h4, hE.below.1⟩
  · exact ⟨_, bN, _, _, _, _, hr, row.eng_new _ n cap _ _ _ _ [] queueTell_m (queueTell_c _) queueTell bN w' (hE.reads hn) hn h2 h3 h4, hE.below.1⟩
  · exact ⟨_, bN, _, _, _, _, hr, tree.eng_new _ n cap _ _ _ _ [] mapTell_m (mapTell_c _) mapTell bN w' (hE.reads hn) hn h2 h3 h4, hE.below.1⟩
  · exact ⟨_, bN, _, _, _, _, hr, int.eng_new _ n cap _ _ _ _ [0] (tableTell_m _ _ _ _) (tableTell_c _ _ _ _ _) (tableTell _ _ _ _ 0) bN w' (hE.reads hn) hn h2 h3 h4, hE.below.1⟩
end Go.Proofs.YtefjhnhdagolhaaGreat
