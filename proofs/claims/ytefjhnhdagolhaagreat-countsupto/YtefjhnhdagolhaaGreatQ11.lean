import Derived.Test.YtefjhnhdagolhaaGreatQ10
import Derived.Test.YtefjhnhdagolhaaGreatQ00
import Derived.Test.YtefjhnhdagolhaaGreatQ03
namespace Go.Proofs.YtefjhnhdagolhaaGreat
open Go.RowKit
attribute [local go_sem ↓] Go.wp_at_zero Go.wp_at_succ
def RefMade (w : World) (kind : Int) (n : Nat) (cap st co : Int) (nx ou : List Int) (vn vo : Value) (b : Nat) (w' : World) : Prop :=
  ∃ W1 vn' vo' v bT bF, b = W1.heap.size ∧ Below w.heap.size w W1 ∧ RfI W1 n (ccs kind n cap st co vn' vo') v n bT bF w' ∧
    ((kind ≠ 5 ∧ vn' = vn ∧ vo' = vo) ∨ (kind = 5 ∧ ∃ g1 g2, vn' = .slice (some ⟨g1, 0, none⟩) nx.length nx.length ∧ vo' = .slice (some ⟨g2, 0, none⟩) ou.length ou.length ∧ w.heap.size ≤ g1 ∧ w.heap.size ≤ g2 ∧ Row W1 g1 3 (ints nx) ∧ Row W1 g2 3 (ints ou)))
theorem info_pthread : (Tryz.prog.info? 107).map (fun i => (i.zero, i.size, i.bytes)) = some (some (.pointer none), 1, 8) := by kernel_rfl
set_option maxHeartbeats 2000000 in
theorem refNew_one (cap st co : Int) (nx ou : List Int) (vn vo : Value) (w : World) (kind th : Int) (h : ¬ (1 ≤ kind ∧ kind ≤ 5 ∧ 1 ≤ th ∧ th ≤ 64 ∧ 0 ≤ cap ∧ cap ≤ 64)) :
    Calls Tryz.prog 41 #[.agg #[.int .i64 kind, .int .i64 th, .int .i64 cap, .int .i64 st, .int .i64 co, vn, vo]] w fun e w' => e = .returned (.tuple #[.pointer none, .int .i64 (cfgErr kind th cap st co nx ou)]) ∧ Below w.heap.size w w' := by
  rw [cfgErr_one h]
  by_cases c0 : kind < 1
  · clear h
    go_enter Tryz.func41, Tryz.ntmps41
    go_wp2
    go_ret2
    exact ⟨rfl, (by repeat (first | exact Below.refl _ _ | assumption | refine Below.drewN ?_ _ | refine Below.alloc ?_ (by simp) _))⟩
  by_cases c1 : 5 < kind
  · clear h
    go_enter Tryz.func41, Tryz.ntmps41
    go_wp2
    go_ret2
    exact ⟨rfl, (by repeat (first | exact Below.refl _ _ | assumption | refine Below.drewN ?_ _ | refine Below.alloc ?_ (by simp) _))⟩
  by_cases c2 : th < 1
  · clear h
    go_enter Tryz.func41, Tryz.ntmps41
    go_wp2
    go_ret2
    exact ⟨rfl, (by repeat (first | exact Below.refl _ _ | assumption | refine Below.drewN ?_ _ | refine Below.alloc ?_ (by simp) _))⟩
  by_cases c3 : 64 < th
  · clear h
    go_enter Tryz.func41, Tryz.ntmps41
    go_wp2
    go_ret2
    exact ⟨rfl, (by repeat (first | exact Below.refl _ _ | assumption | refine Below.drewN ?_ _ | refine Below.alloc ?_ (by simp) _))⟩
  by_cases c4 : cap < 0
  · clear h
    go_enter Tryz.func41, Tryz.ntmps41
    go_wp2
    go_ret2
    exact ⟨rfl, (by repeat (first | exact Below.refl _ _ | assumption | refine Below.drewN ?_ _ | refine Below.alloc ?_ (by simp) _))⟩
  by_cases c5 : 64 < cap
  · clear h
    go_enter Tryz.func41, Tryz.ntmps41
    go_wp2
    go_ret2
    exact ⟨rfl, (by repeat (first | exact Below.refl _ _ | assumption | refine Below.drewN ?_ _ | refine Below.alloc ?_ (by simp) _))⟩
  exact absurd ⟨by omega, by omega, by omega, by omega, by omega, by omega⟩ h
set_option maxHeartbeats 2000000 in
theorem refNew_two (cap st co : Int) (nx ou : List Int) (vn vo : Value) (w : World) (hn : Sl w vn (ints nx)) (ho : Sl w vo (ints ou)) (th : Int) (h : 1 ≤ th ∧ th ≤ 64 ∧ 0 ≤ cap ∧ cap ≤ 64) (ht : tableOk st co nx ou = false) :
    Calls Tryz.prog 41 #[.agg #[.int .i64 5, .int .i64 th, .int .i64 cap, .int .i64 st, .int .i64 co, vn, vo]] w fun e w' => e = .returned (.tuple #[.pointer none, .int .i64 2]) ∧ Below w.heap.size w w' := by
  obtain ⟨c1, c2, c3, c4⟩ := h
  have hc := fun W hW => refTable_any st co nx ou vn vo W (hn.below hW) (ho.below hW)
  rw [ht] at hc
  have HC := hide hc
  clear hc hn ho ht
  go_enter Tryz.func41, Tryz.ntmps41
  go_wp2_with fail
  refine (HC.out _ (below_alloc _ _)).mono ?_
  rintro e w1 ⟨rfl, hb1⟩
  go_wp2_with fail
  go_ret2
  exact ⟨rfl, Below.next (below_alloc _ _) hb1 (by simp)⟩
set_option maxRecDepth 20000 in
set_option maxHeartbeats 4000000 in
theorem refNew_plain (cap st co : Int) (nx ou : List Int) (vn vo : Value) (w : World) (kind : Int) (n : Nat) (k1 : 1 ≤ kind) (k2 : kind ≤ 4) (h1 : 1 ≤ n) (h2 : n ≤ 64) (h3 : 0 ≤ cap) (h4 : cap ≤ 64) :
    Calls Tryz.prog 41 #[.agg #[.int .i64 kind, .int .i64 (n : Int), .int .i64 cap, .int .i64 st, .int .i64 co, vn, vo]] w fun e w' => ∃ b, e = .returned (.tuple #[.pointer (some ⟨b, 0, none⟩), .int .i64 0]) ∧ RefMade w kind n cap st co nx ou vn vo b w' := by
  obtain ⟨pi, hpi, hpz⟩ := Option.map_eq_some_iff.1 info_pthread
  simp only [Prod.mk.injEq] at hpz
  obtain ⟨hp1, hp2, hp3⟩ := hpz
  have HPI := hide hpi
  have HP1 := hide hp1
  have HP2 := hide hp2
  have HP3 := hide hp3
  clear hpi hp1 hp2 hp3
  have hmk := run_make_zeros (P := Tryz.prog) 22 3 (.int .i64 0) 8 Tryz.underlying22 info_int rfl (n : Int) n rfl (by omega) (by omega)
  have c1 : ¬ kind < 1 := by omega
  have c2 : ¬ 5 < kind := by omega
  have c3 : (kind != 5) = true := by rw [bne_iff_ne]; omega
  have c4 : (kind == 5) = false := beq_eq_false_iff_ne.2 (by omega)
  go_enter Tryz.func41, Tryz.ntmps41
  go_upto_region 10 with fail
  generalize hW1 : World.alloc w _ = W1
  have HBW := hide (show Below w.heap.size w W1 by rw [← hW1]; exact below_alloc w _)
  have hs1 : w.heap.size + 1 ≤ W1.heap.size := by rw [← hW1]; simp
  have HRN := hide (show Row W1 w.heap.size 26 (ccs kind n cap st co vn vo) by rw [← hW1]; exact Row.new' rfl)
  have q0 : W1.cell? ⟨w.heap.size, 0, none⟩ = some (.int .i64 kind) := HRN.out.cell_of rfl
  have q1 : W1.cell? ⟨w.heap.size, 1, none⟩ = some (.int .i64 (n : Int)) := HRN.out.cell_of rfl
  have q2 : W1.cell? ⟨w.heap.size, 2, none⟩ = some (.int .i64 cap) := HRN.out.cell_of rfl
  have q3 : W1.cell? ⟨w.heap.size, 3, none⟩ = some (.int .i64 st) := HRN.out.cell_of rfl
  have q4 : W1.cell? ⟨w.heap.size, 4, none⟩ = some (.int .i64 co) := HRN.out.cell_of rfl
  have q5 : W1.cell? ⟨w.heap.size, 5, none⟩ = some vn := HRN.out.cell_of rfl
  have q6 : W1.cell? ⟨w.heap.size, 6, none⟩ = some vo := HRN.out.cell_of rfl
  clear hW1
  have hI0 : RfI W1 n (ccs kind n cap st co vn vo) (.slice none 0 0) 0 (fun _ => 0) (fun _ => 0) (W1.alloc (.cells (ccs kind n cap st co vn vo ++ [Value.slice none 0 0, .slice none 0 0]).toArray 105)) :=
    ⟨Row.new' rfl, World.ownsRow_nil _ _ _ _, fun t ht => absurd ht (by omega), fun s t _ h => absurd h (by omega), below_alloc _ _⟩
  have HI0 := hide hI0
  clear hI0
  go_wp2_with fail
  go_loopw [6] (fun i w' => ∃ k v bT bF, k ≤ n ∧ i = .int .i64 (k : Int) ∧ RfI W1 n (ccs kind n cap st co vn vo) v k bT bF w') (fun i _ => n - (intOf i).toNat)
  case atStart => exact ⟨0, _, _, _, Nat.zero_le _, rfl, HI0.out⟩
  case round =>
    obtain ⟨k, v, bT, bF, hk, rfl, hI⟩ := hrel
    have hcN : wr.cell? ⟨w.heap.size, 1, none⟩ = some (.int .i64 (n : Int)) := cell_later hI.2.2.2.2 (HRN.out.cell_of rfl)
    by_cases hlt : k < n
    · have hlt' : (k : Int) < (n : Int) := by omega
      have hcv : wr.cell? ⟨W1.heap.size, 7, none⟩ = some v := hI.1.cell_of rfl
      have hth : wr.there W1.heap.size 7 1 := hI.1.there (by simp [ccs])
      have hvlt := hI.2.1.lt
      have hzI := hI.1.lt
      have hneE : some W1.heap.size ≠ v.ownBlock := fun e => by have := (hvlt _ e.symm).1; omega
      have hneN : some w.heap.size ≠ v.ownBlock := fun e => by have := (hvlt _ e.symm).1; omega
      have hsz : (Tryz.prog.info? 103).map (·.size) = some 1 := by kernel_rfl
      have HI := hide hI
      have HCV := hide hcv
      clear hI hcv hvlt
      go_wp2
      refine wp_region_held_drew (S := (fun w' => w'.cell? ⟨w.heap.size, 1, none⟩ = some (.int .i64 (n : Int)) ∧ w'.there W1.heap.size 7 1)) (by kernel_rfl) ?_ (fun hHeld => ?_)
      · exact ⟨hcN, hth⟩
      refine wpAnyH_take (i := 0) (oi := ⟨some 61, .move (.tmp 5), 82, "steps.go:59", #[], none⟩) (v := ?v935) rfl (by kernel_rfl) (by kernel_rfl) (by kernel_rfl) (fun _ _ _ h => h) (Or.inl ⟨by rfl, ?hy935⟩) (by assumption) ?rest935
      case hy935 => (intro w hSw; (try dsimp only at hSw); go_simp; (try with_reducible rfl))
      (try go_frame)
      refine wpAnyH_take (i := 1) (oi := ⟨some 62, .move (.tmp 5), 82, "steps.go:59", #[], none⟩) (v := ?v936) rfl (by kernel_rfl) (by kernel_rfl) (by kernel_rfl) (fun _ _ _ h => h) (Or.inl ⟨by rfl, ?hy936⟩) (by assumption) ?rest936
      case hy936 => (intro w hSw; (try dsimp only at hSw); go_simp; (try with_reducible rfl))
      (try go_frame)
      refine wpAnyH_take (i := 2) (oi := ⟨some 63, .nilCheck (.tmp 62), 0, "steps.go:59", #[⟨1, .data⟩], none⟩) (v := ?v937) rfl (by kernel_rfl) (by kernel_rfl) (by kernel_rfl) (fun _ _ _ h => h) (Or.inl ⟨by rfl, ?hy937⟩) (by assumption) ?rest937
      case hy937 => (intro w hSw; (try dsimp only at hSw); go_simp; (try with_reducible rfl))
      (try go_frame)
      refine wpAnyH_take (i := 3) (oi := ⟨some 64, .fieldAddr 105 (.tmp 63) 1, 0, "steps.go:59", #[⟨2, .data⟩], none⟩) (v := ?v938) rfl (by kernel_rfl) (by kernel_rfl) (by kernel_rfl) (fun _ _ _ h => h) (Or.inl ⟨by rfl, ?hy938⟩) (by assumption) ?rest938
      case hy938 => (intro w hSw; (try dsimp only at hSw); go_simp; (try with_reducible rfl))
      (try go_frame)
      refine wpAnyH_take (i := 5) (oi := ⟨some 66, .fieldAddr 26 (.tmp 1) 1, 0, "steps.go:59", #[], none⟩) (v := ?v939) rfl (by kernel_rfl) (by kernel_rfl) (by kernel_rfl) (fun _ _ _ h => h) (Or.inl ⟨by rfl, ?hy939⟩) (by assumption) ?rest939
      case hy939 => (intro w hSw; (try dsimp only at hSw); go_simp; (try with_reducible rfl))
      (try go_frame)
      refine wpAnyH_take (i := 6) (oi := ⟨some 67, .load 3 (.tmp 66), 3, "steps.go:59", #[⟨5, .data⟩], none⟩) (v := ?v940) rfl (by kernel_rfl) (by kernel_rfl) (by kernel_rfl) (fun _ _ _ h => h) (Or.inl ⟨by rfl, ?hy940⟩) (by assumption) ?rest940
      case hy940 => (intro w hSw; (try dsimp only at hSw); go_simp; (try with_reducible rfl))
      (try go_frame)
      refine wpAnyH_ready (rs := [4, 7]) (by kernel_rfl) (by simp) ?_
      refine AllReadyH.cons (o := ⟨some 65, .load 103 (.tmp 64), 103, "steps.go:59", #[⟨3, .data⟩], none⟩) (by rfl) (fun K hK => ?_) (AllReadyH.cons (o := ⟨some 68, .makeSlice 22 (.tmp 67) (.tmp 67), 22, "steps.go:59", #[⟨6, .data⟩, ⟨6, .data⟩], none⟩) (by rfl) (fun K hK => ?_) AllReadyH.nil)
      · rw [if_pos (by rfl)]
        refine wp_load_one _ _ rfl _ _ v rfl (by kernel_rfl) (by refine cell_later ?_ HCV.out; repeat (first | exact Below.refl _ _ | refine Below.drew ?_ | refine Below.alloc ?_ (by first | (simp; done) | (simp; omega)) _)) ?_
        refine hK.out _ _ ?_ (fun hHeld => ?_)
        · exact hHeld
        clear hK K
        (try go_frame)
        refine wpAnyH_ready (rs := [7]) (by kernel_rfl) (by simp) ?_
        refine AllReadyH.cons (o := ⟨some 68, .makeSlice 22 (.tmp 67) (.tmp 67), 22, "steps.go:59", #[⟨6, .data⟩, ⟨6, .data⟩], none⟩) (by rfl) (fun K hK => ?_) AllReadyH.nil
        go_simp
        refine hK.out _ _ ?_ (fun hHeld => ?_)
        · exact ⟨cell_later (below_alloc _ _) hHeld.1, World.there_alloc hHeld.2 _⟩
        clear hK K
        (try go_frame)
        refine wpAnyH_take (i := 8) (oi := ⟨some 69, .build 109 #[(8, .tmp 68)], 109, "steps.go:59", #[⟨7, .data⟩], none⟩) (v := ?v941) rfl (by kernel_rfl) (by kernel_rfl) (by kernel_rfl) (fun _ _ _ h => h) (Or.inl ⟨by rfl, ?hy941⟩) (by assumption) ?rest941
        case hy941 => (intro w hSw; (try dsimp only at hSw); go_simp; (try with_reducible rfl))
        (try go_frame)
        refine wpAnyH_ready (rs := [9]) (by kernel_rfl) (by simp) ?_
        refine AllReadyH.cons (o := ⟨some 70, .box 109 (.tmp 69), 107, "steps.go:59", #[⟨8, .data⟩], none⟩) (by rfl) (fun K hK => ?_) AllReadyH.nil
        go_simp
        refine hK.out _ _ ?_ (fun hHeld => ?_)
        · exact ⟨cell_later (below_alloc _ _) hHeld.1, World.there_alloc hHeld.2 _⟩
        clear hK K
        (try go_frame)
        refine wpAnyH_ready (rs := [10]) (by kernel_rfl) (by simp) ?_
        refine AllReadyH.cons (o := ⟨some 71, .buildSlice 103 1 #[(0, .tmp 70)], 103, "steps.go:59", #[⟨9, .data⟩], none⟩) (by rfl) (fun K hK => ?_) AllReadyH.nil
        go_simp
        refine hK.out _ _ ?_ (fun hHeld => ?_)
        · exact ⟨cell_later (below_alloc _ _) hHeld.1, World.there_alloc hHeld.2 _⟩
        clear hK K
        (try go_frame)
        refine wpAnyH_ready (rs := [11]) (by kernel_rfl) (by simp) ?_
        refine AllReadyH.cons (o := ⟨some 72, .call ⟨.builtin .append, #[.tmp 65, .tmp 71], #[103, 103]⟩, 103, "steps.go:59", #[⟨4, .data⟩, ⟨10, .data⟩], none⟩) (by rfl) (fun K hK => ?_) AllReadyH.nil
        refine step_append_lies _ rfl (.tmp 65) (.tmp 71) 103 rfl (W1.heap.size + 1) 107 pi (.pointer none) 1 8 Tryz.underlying103 HPI.out HP1.out HP2.out HP3.out rfl (by decide) v k (ptrs bT k) rfl ?_ ⟨wr.heap.size + 1 + 1, 0, none⟩ 1 1 [.pointer (some ⟨wr.heap.size + 1, 0, none⟩)] rfl rfl ?_ (by simp [Value.oneCell']) (by decide) (by unfold maxLen; omega) (by omega) ?_ (wr.heap.size + 1 + 1 + 1) (by simp) ?_
        · exact ((HI.out.2.1.alloc _).alloc _).alloc _
        · exact World.news_of_block (Row.drew (Row.new' (by simp)))
        · simp; omega
        intro g gc w4 hown hgr hat hlt4
        have HO := hide hown
        have HG := hide hgr
        have HA := hide hat
        clear hown hgr hat
        refine hK.out _ _ ?_ (fun hHeld => ?_)
        · exact keepG1 HG.out hHeld hneE hneN
        clear hK K
        (try go_frame)
        refine wpAnyH_take (i := 12) (oi := ⟨some 73, .nilCheck (.tmp 61), 0, "steps.go:59", #[⟨0, .data⟩, ⟨0, .phase⟩, ⟨1, .phase⟩, ⟨2, .phase⟩, ⟨3, .phase⟩, ⟨4, .phase⟩, ⟨5, .phase⟩, ⟨6, .phase⟩, ⟨7, .phase⟩, ⟨8, .phase⟩, ⟨9, .phase⟩, ⟨10, .phase⟩, ⟨11, .phase⟩], none⟩) (v := ?v942) rfl (by kernel_rfl) (by kernel_rfl) (by kernel_rfl) (fun _ _ _ h => h) (Or.inl ⟨by rfl, ?hy942⟩) (by assumption) ?rest942
        case hy942 => (intro w hSw; (try dsimp only at hSw); go_simp; (try with_reducible rfl))
        (try go_frame)
        refine wpAnyH_take (i := 13) (oi := ⟨some 74, .fieldAddr 105 (.tmp 73) 1, 0, "steps.go:59", #[⟨12, .data⟩, ⟨0, .phase⟩, ⟨1, .phase⟩, ⟨2, .phase⟩, ⟨3, .phase⟩, ⟨4, .phase⟩, ⟨5, .phase⟩, ⟨6, .phase⟩, ⟨7, .phase⟩, ⟨8, .phase⟩, ⟨9, .phase⟩, ⟨10, .phase⟩, ⟨11, .phase⟩], none⟩) (v := ?v943) rfl (by kernel_rfl) (by kernel_rfl) (by kernel_rfl) (fun _ _ _ h => h) (Or.inl ⟨by rfl, ?hy943⟩) (by assumption) ?rest943
        case hy943 => (intro w hSw; (try dsimp only at hSw); go_simp; (try with_reducible rfl))
        (try go_frame)
        refine wpAnyH_ready (rs := [14]) (by kernel_rfl) (by simp) ?_
        refine AllReadyH.cons (o := ⟨none, .store 103 (.tmp 74) (.tmp 72), 0, "steps.go:59", #[⟨13, .data⟩, ⟨11, .data⟩, ⟨11, .chain⟩, ⟨0, .phase⟩, ⟨1, .phase⟩, ⟨2, .phase⟩, ⟨3, .phase⟩, ⟨4, .phase⟩, ⟨5, .phase⟩, ⟨6, .phase⟩, ⟨7, .phase⟩, ⟨8, .phase⟩, ⟨9, .phase⟩, ⟨10, .phase⟩, ⟨11, .phase⟩], none⟩) (by rfl) (fun K hK => ?_) AllReadyH.nil
        rw [if_pos (by rfl)]
        refine wp_store_one _ _ _ rfl W1.heap.size 7 _ rfl rfl rfl rfl hHeld.2 hsz ?_
        refine hK.out _ _ ?_ (fun hHeld => ?_)
        · exact ⟨(World.cell?_setCell_far _ _ _ _ (by simp; omega)).trans hHeld.1, there_set hHeld.2 _ rfl _⟩
        clear hK K
        (try go_frame)
        refine wpAnyH_done (by kernel_rfl) ?_ _
        (try go_wp2_with fail)
        go_roundw
        case rel => exact ⟨k + 1, _, _, _, by omega, by go_num, RfI.next rfl HI.out (Below.drew (Below.alloc (Below.alloc (below_alloc _ _) (by simp) _) (by simp; omega) _)) (Nat.le_succ _) (Nat.le_refl _) (by omega) (Row.drew (Row.alloc (Row.new' (xs := rthNew n wr.heap.size) (by simp)) _)) (Row.drew (Row.alloc (Row.alloc (Row.new' rfl) _) _)) HO.out HG.out (Or.imp_right (fun h => by rw [h]; simp) HA.out)⟩
        case measure => simp [intOf]; omega
      · go_simp
        refine hK.out _ _ ?_ (fun hHeld => ?_)
        · exact ⟨cell_later (below_alloc _ _) hHeld.1, World.there_alloc hHeld.2 _⟩
        clear hK K
        (try go_frame)
        refine wpAnyH_take (i := 8) (oi := ⟨some 69, .build 109 #[(8, .tmp 68)], 109, "steps.go:59", #[⟨7, .data⟩], none⟩) (v := ?v944) rfl (by kernel_rfl) (by kernel_rfl) (by kernel_rfl) (fun _ _ _ h => h) (Or.inl ⟨by rfl, ?hy944⟩) (by assumption) ?rest944
        case hy944 => (intro w hSw; (try dsimp only at hSw); go_simp; (try with_reducible rfl))
        (try go_frame)
        refine wpAnyH_ready (rs := [4, 9]) (by kernel_rfl) (by simp) ?_
        refine AllReadyH.cons (o := ⟨some 65, .load 103 (.tmp 64), 103, "steps.go:59", #[⟨3, .data⟩], none⟩) (by rfl) (fun K hK => ?_) (AllReadyH.cons (o := ⟨some 70, .box 109 (.tmp 69), 107, "steps.go:59", #[⟨8, .data⟩], none⟩) (by rfl) (fun K hK => ?_) AllReadyH.nil)
        · rw [if_pos (by rfl)]
          refine wp_load_one _ _ rfl _ _ v rfl (by kernel_rfl) (by refine cell_later ?_ HCV.out; repeat (first | exact Below.refl _ _ | refine Below.drew ?_ | refine Below.alloc ?_ (by first | (simp; done) | (simp; omega)) _)) ?_
          refine hK.out _ _ ?_ (fun hHeld => ?_)
          · exact hHeld
          clear hK K
          (try go_frame)
          refine wpAnyH_ready (rs := [9]) (by kernel_rfl) (by simp) ?_
          refine AllReadyH.cons (o := ⟨some 70, .box 109 (.tmp 69), 107, "steps.go:59", #[⟨8, .data⟩], none⟩) (by rfl) (fun K hK => ?_) AllReadyH.nil
          go_simp
          refine hK.out _ _ ?_ (fun hHeld => ?_)
          · exact ⟨cell_later (below_alloc _ _) hHeld.1, World.there_alloc hHeld.2 _⟩
          clear hK K
          (try go_frame)
          refine wpAnyH_ready (rs := [10]) (by kernel_rfl) (by simp) ?_
          refine AllReadyH.cons (o := ⟨some 71, .buildSlice 103 1 #[(0, .tmp 70)], 103, "steps.go:59", #[⟨9, .data⟩], none⟩) (by rfl) (fun K hK => ?_) AllReadyH.nil
          go_simp
          refine hK.out _ _ ?_ (fun hHeld => ?_)
          · exact ⟨cell_later (below_alloc _ _) hHeld.1, World.there_alloc hHeld.2 _⟩
          clear hK K
          (try go_frame)
          refine wpAnyH_ready (rs := [11]) (by kernel_rfl) (by simp) ?_
          refine AllReadyH.cons (o := ⟨some 72, .call ⟨.builtin .append, #[.tmp 65, .tmp 71], #[103, 103]⟩, 103, "steps.go:59", #[⟨4, .data⟩, ⟨10, .data⟩], none⟩) (by rfl) (fun K hK => ?_) AllReadyH.nil
          refine step_append_lies _ rfl (.tmp 65) (.tmp 71) 103 rfl (W1.heap.size + 1) 107 pi (.pointer none) 1 8 Tryz.underlying103 HPI.out HP1.out HP2.out HP3.out rfl (by decide) v k (ptrs bT k) rfl ?_ ⟨wr.heap.size + 1 + 1, 0, none⟩ 1 1 [.pointer (some ⟨wr.heap.size + 1, 0, none⟩)] rfl rfl ?_ (by simp [Value.oneCell']) (by decide) (by unfold maxLen; omega) (by omega) ?_ (wr.heap.size + 1 + 1 + 1) (by simp) ?_
          · exact ((HI.out.2.1.alloc _).alloc _).alloc _
          · exact World.news_of_block (Row.drew (Row.new' (by simp)))
          · simp; omega
          intro g gc w4 hown hgr hat hlt4
          have HO := hide hown
          have HG := hide hgr
          have HA := hide hat
          clear hown hgr hat
          refine hK.out _ _ ?_ (fun hHeld => ?_)
          · exact keepG1 HG.out hHeld hneE hneN
          clear hK K
          (try go_frame)
          refine wpAnyH_take (i := 12) (oi := ⟨some 73, .nilCheck (.tmp 61), 0, "steps.go:59", #[⟨0, .data⟩, ⟨0, .phase⟩, ⟨1, .phase⟩, ⟨2, .phase⟩, ⟨3, .phase⟩, ⟨4, .phase⟩, ⟨5, .phase⟩, ⟨6, .phase⟩, ⟨7, .phase⟩, ⟨8, .phase⟩, ⟨9, .phase⟩, ⟨10, .phase⟩, ⟨11, .phase⟩], none⟩) (v := ?v945) rfl (by kernel_rfl) (by kernel_rfl) (by kernel_rfl) (fun _ _ _ h => h) (Or.inl ⟨by rfl, ?hy945⟩) (by assumption) ?rest945
          case hy945 => (intro w hSw; (try dsimp only at hSw); go_simp; (try with_reducible rfl))
          (try go_frame)
          refine wpAnyH_take (i := 13) (oi := ⟨some 74, .fieldAddr 105 (.tmp 73) 1, 0, "steps.go:59", #[⟨12, .data⟩, ⟨0, .phase⟩, ⟨1, .phase⟩, ⟨2, .phase⟩, ⟨3, .phase⟩, ⟨4, .phase⟩, ⟨5, .phase⟩, ⟨6, .phase⟩, ⟨7, .phase⟩, ⟨8, .phase⟩, ⟨9, .phase⟩, ⟨10, .phase⟩, ⟨11, .phase⟩], none⟩) (v := ?v946) rfl (by kernel_rfl) (by kernel_rfl) (by kernel_rfl) (fun _ _ _ h => h) (Or.inl ⟨by rfl, ?hy946⟩) (by assumption) ?rest946
          case hy946 => (intro w hSw; (try dsimp only at hSw); go_simp; (try with_reducible rfl))
          (try go_frame)
          refine wpAnyH_ready (rs := [14]) (by kernel_rfl) (by simp) ?_
          refine AllReadyH.cons (o := ⟨none, .store 103 (.tmp 74) (.tmp 72), 0, "steps.go:59", #[⟨13, .data⟩, ⟨11, .data⟩, ⟨11, .chain⟩, ⟨0, .phase⟩, ⟨1, .phase⟩, ⟨2, .phase⟩, ⟨3, .phase⟩, ⟨4, .phase⟩, ⟨5, .phase⟩, ⟨6, .phase⟩, ⟨7, .phase⟩, ⟨8, .phase⟩, ⟨9, .phase⟩, ⟨10, .phase⟩, ⟨11, .phase⟩], none⟩) (by rfl) (fun K hK => ?_) AllReadyH.nil
          rw [if_pos (by rfl)]
          refine wp_store_one _ _ _ rfl W1.heap.size 7 _ rfl rfl rfl rfl hHeld.2 hsz ?_
          refine hK.out _ _ ?_ (fun hHeld => ?_)
          · exact ⟨(World.cell?_setCell_far _ _ _ _ (by simp; omega)).trans hHeld.1, there_set hHeld.2 _ rfl _⟩
          clear hK K
          (try go_frame)
          refine wpAnyH_done (by kernel_rfl) ?_ _
          (try go_wp2_with fail)
          go_roundw
          case rel => exact ⟨k + 1, _, _, _, by omega, by go_num, RfI.next rfl HI.out (Below.drew (Below.alloc (Below.alloc (below_alloc _ _) (by simp) _) (by simp; omega) _)) (Nat.le_succ _) (Nat.le_refl _) (by omega) (Row.drew (Row.alloc (Row.new' (xs := rthNew n wr.heap.size) (by simp)) _)) (Row.drew (Row.alloc (Row.alloc (Row.new' rfl) _) _)) HO.out HG.out (Or.imp_right (fun h => by rw [h]; simp) HA.out)⟩
          case measure => simp [intOf]; omega
        · go_simp
          refine hK.out _ _ ?_ (fun hHeld => ?_)
          · exact ⟨cell_later (below_alloc _ _) hHeld.1, World.there_alloc hHeld.2 _⟩
          clear hK K
          (try go_frame)
          refine wpAnyH_ready (rs := [4, 10]) (by kernel_rfl) (by simp) ?_
          refine AllReadyH.cons (o := ⟨some 65, .load 103 (.tmp 64), 103, "steps.go:59", #[⟨3, .data⟩], none⟩) (by rfl) (fun K hK => ?_) (AllReadyH.cons (o := ⟨some 71, .buildSlice 103 1 #[(0, .tmp 70)], 103, "steps.go:59", #[⟨9, .data⟩], none⟩) (by rfl) (fun K hK => ?_) AllReadyH.nil)
          · rw [if_pos (by rfl)]
            refine wp_load_one _ _ rfl _ _ v rfl (by kernel_rfl) (by refine cell_later ?_ HCV.out; repeat (first | exact Below.refl _ _ | refine Below.drew ?_ | refine Below.alloc ?_ (by first | (simp; done) | (simp; omega)) _)) ?_
            refine hK.out _ _ ?_ (fun hHeld => ?_)
            · exact hHeld
            clear hK K
            (try go_frame)
            refine wpAnyH_ready (rs := [10]) (by kernel_rfl) (by simp) ?_
            refine AllReadyH.cons (o := ⟨some 71, .buildSlice 103 1 #[(0, .tmp 70)], 103, "steps.go:59", #[⟨9, .data⟩], none⟩) (by rfl) (fun K hK => ?_) AllReadyH.nil
            go_simp
            refine hK.out _ _ ?_ (fun hHeld => ?_)
            · exact ⟨cell_later (below_alloc _ _) hHeld.1, World.there_alloc hHeld.2 _⟩
            clear hK K
            (try go_frame)
            refine wpAnyH_ready (rs := [11]) (by kernel_rfl) (by simp) ?_
            refine AllReadyH.cons (o := ⟨some 72, .call ⟨.builtin .append, #[.tmp 65, .tmp 71], #[103, 103]⟩, 103, "steps.go:59", #[⟨4, .data⟩, ⟨10, .data⟩], none⟩) (by rfl) (fun K hK => ?_) AllReadyH.nil
            refine step_append_lies _ rfl (.tmp 65) (.tmp 71) 103 rfl (W1.heap.size + 1) 107 pi (.pointer none) 1 8 Tryz.underlying103 HPI.out HP1.out HP2.out HP3.out rfl (by decide) v k (ptrs bT k) rfl ?_ ⟨wr.heap.size + 1 + 1, 0, none⟩ 1 1 [.pointer (some ⟨wr.heap.size + 1, 0, none⟩)] rfl rfl ?_ (by simp [Value.oneCell']) (by decide) (by unfold maxLen; omega) (by omega) ?_ (wr.heap.size + 1 + 1 + 1) (by simp) ?_
            · exact ((HI.out.2.1.alloc _).alloc _).alloc _
            · exact World.news_of_block (Row.drew (Row.new' (by simp)))
            · simp; omega
            intro g gc w4 hown hgr hat hlt4
            have HO := hide hown
            have HG := hide hgr
            have HA := hide hat
            clear hown hgr hat
            refine hK.out _ _ ?_ (fun hHeld => ?_)
            · exact keepG1 HG.out hHeld hneE hneN
            clear hK K
            (try go_frame)
            refine wpAnyH_take (i := 12) (oi := ⟨some 73, .nilCheck (.tmp 61), 0, "steps.go:59", #[⟨0, .data⟩, ⟨0, .phase⟩, ⟨1, .phase⟩, ⟨2, .phase⟩, ⟨3, .phase⟩, ⟨4, .phase⟩, ⟨5, .phase⟩, ⟨6, .phase⟩, ⟨7, .phase⟩, ⟨8, .phase⟩, ⟨9, .phase⟩, ⟨10, .phase⟩, ⟨11, .phase⟩], none⟩) (v := ?v947) rfl (by kernel_rfl) (by kernel_rfl) (by kernel_rfl) (fun _ _ _ h => h) (Or.inl ⟨by rfl, ?hy947⟩) (by assumption) ?rest947
            case hy947 => (intro w hSw; (try dsimp only at hSw); go_simp; (try with_reducible rfl))
            (try go_frame)
            refine wpAnyH_take (i := 13) (oi := ⟨some 74, .fieldAddr 105 (.tmp 73) 1, 0, "steps.go:59", #[⟨12, .data⟩, ⟨0, .phase⟩, ⟨1, .phase⟩, ⟨2, .phase⟩, ⟨3, .phase⟩, ⟨4, .phase⟩, ⟨5, .phase⟩, ⟨6, .phase⟩, ⟨7, .phase⟩, ⟨8, .phase⟩, ⟨9, .phase⟩, ⟨10, .phase⟩, ⟨11, .phase⟩], none⟩) (v := ?v948) rfl (by kernel_rfl) (by kernel_rfl) (by kernel_rfl) (fun _ _ _ h => h) (Or.inl ⟨by rfl, ?hy948⟩) (by assumption) ?rest948
            case hy948 => (intro w hSw; (try dsimp only at hSw); go_simp; (try with_reducible rfl))
            (try go_frame)
            refine wpAnyH_ready (rs := [14]) (by kernel_rfl) (by simp) ?_
            refine AllReadyH.cons (o := ⟨none, .store 103 (.tmp 74) (.tmp 72), 0, "steps.go:59", #[⟨13, .data⟩, ⟨11, .data⟩, ⟨11, .chain⟩, ⟨0, .phase⟩, ⟨1, .phase⟩, ⟨2, .phase⟩, ⟨3, .phase⟩, ⟨4, .phase⟩, ⟨5, .phase⟩, ⟨6, .phase⟩, ⟨7, .phase⟩, ⟨8, .phase⟩, ⟨9, .phase⟩, ⟨10, .phase⟩, ⟨11, .phase⟩], none⟩) (by rfl) (fun K hK => ?_) AllReadyH.nil
            rw [if_pos (by rfl)]
            refine wp_store_one _ _ _ rfl W1.heap.size 7 _ rfl rfl rfl rfl hHeld.2 hsz ?_
            refine hK.out _ _ ?_ (fun hHeld => ?_)
            · exact ⟨(World.cell?_setCell_far _ _ _ _ (by simp; omega)).trans hHeld.1, there_set hHeld.2 _ rfl _⟩
            clear hK K
            (try go_frame)
            refine wpAnyH_done (by kernel_rfl) ?_ _
            (try go_wp2_with fail)
            go_roundw
            case rel => exact ⟨k + 1, _, _, _, by omega, by go_num, RfI.next rfl HI.out (Below.drew (Below.alloc (Below.alloc (below_alloc _ _) (by simp) _) (by simp; omega) _)) (Nat.le_succ _) (Nat.le_refl _) (by omega) (Row.drew (Row.alloc (Row.new' (xs := rthNew n wr.heap.size) (by simp)) _)) (Row.drew (Row.alloc (Row.alloc (Row.new' rfl) _) _)) HO.out HG.out (Or.imp_right (fun h => by rw [h]; simp) HA.out)⟩
            case measure => simp [intOf]; omega
          · go_simp
            refine hK.out _ _ ?_ (fun hHeld => ?_)
            · exact ⟨cell_later (below_alloc _ _) hHeld.1, World.there_alloc hHeld.2 _⟩
            clear hK K
            (try go_frame)
            refine wpAnyH_ready (rs := [4]) (by kernel_rfl) (by simp) ?_
            refine AllReadyH.cons (o := ⟨some 65, .load 103 (.tmp 64), 103, "steps.go:59", #[⟨3, .data⟩], none⟩) (by rfl) (fun K hK => ?_) AllReadyH.nil
            rw [if_pos (by rfl)]
            refine wp_load_one _ _ rfl _ _ v rfl (by kernel_rfl) (by refine cell_later ?_ HCV.out; repeat (first | exact Below.refl _ _ | refine Below.drew ?_ | refine Below.alloc ?_ (by first | (simp; done) | (simp; omega)) _)) ?_
            refine hK.out _ _ ?_ (fun hHeld => ?_)
            · exact hHeld
            clear hK K
            (try go_frame)
            refine wpAnyH_ready (rs := [11]) (by kernel_rfl) (by simp) ?_
            refine AllReadyH.cons (o := ⟨some 72, .call ⟨.builtin .append, #[.tmp 65, .tmp 71], #[103, 103]⟩, 103, "steps.go:59", #[⟨4, .data⟩, ⟨10, .data⟩], none⟩) (by rfl) (fun K hK => ?_) AllReadyH.nil
            refine step_append_lies _ rfl (.tmp 65) (.tmp 71) 103 rfl (W1.heap.size + 1) 107 pi (.pointer none) 1 8 Tryz.underlying103 HPI.out HP1.out HP2.out HP3.out rfl (by decide) v k (ptrs bT k) rfl ?_ ⟨wr.heap.size + 1 + 1, 0, none⟩ 1 1 [.pointer (some ⟨wr.heap.size + 1, 0, none⟩)] rfl rfl ?_ (by simp [Value.oneCell']) (by decide) (by unfold maxLen; omega) (by omega) ?_ (wr.heap.size + 1 + 1 + 1) (by simp) ?_
            · exact ((HI.out.2.1.alloc _).alloc _).alloc _
            · exact World.news_of_block (Row.drew (Row.new' (by simp)))
            · simp; omega
            intro g gc w4 hown hgr hat hlt4
            have HO := hide hown
            have HG := hide hgr
            have HA := hide hat
            clear hown hgr hat
            refine hK.out _ _ ?_ (fun hHeld => ?_)
            · exact keepG1 HG.out hHeld hneE hneN
            clear hK K
            (try go_frame)
            refine wpAnyH_take (i := 12) (oi := ⟨some 73, .nilCheck (.tmp 61), 0, "steps.go:59", #[⟨0, .data⟩, ⟨0, .phase⟩, ⟨1, .phase⟩, ⟨2, .phase⟩, ⟨3, .phase⟩, ⟨4, .phase⟩, ⟨5, .phase⟩, ⟨6, .phase⟩, ⟨7, .phase⟩, ⟨8, .phase⟩, ⟨9, .phase⟩, ⟨10, .phase⟩, ⟨11, .phase⟩], none⟩) (v := ?v949) rfl (by kernel_rfl) (by kernel_rfl) (by kernel_rfl) (fun _ _ _ h => h) (Or.inl ⟨by rfl, ?hy949⟩) (by assumption) ?rest949
            case hy949 => (intro w hSw; (try dsimp only at hSw); go_simp; (try with_reducible rfl))
            (try go_frame)
            refine wpAnyH_take (i := 13) (oi := ⟨some 74, .fieldAddr 105 (.tmp 73) 1, 0, "steps.go:59", #[⟨12, .data⟩, ⟨0, .phase⟩, ⟨1, .phase⟩, ⟨2, .phase⟩, ⟨3, .phase⟩, ⟨4, .phase⟩, ⟨5, .phase⟩, ⟨6, .phase⟩, ⟨7, .phase⟩, ⟨8, .phase⟩, ⟨9, .phase⟩, ⟨10, .phase⟩, ⟨11, .phase⟩], none⟩) (v := ?v950) rfl (by kernel_rfl) (by kernel_rfl) (by kernel_rfl) (fun _ _ _ h => h) (Or.inl ⟨by rfl, ?hy950⟩) (by assumption) ?rest950
            case hy950 => (intro w hSw; (try dsimp only at hSw); go_simp; (try with_reducible rfl))
            (try go_frame)
            refine wpAnyH_ready (rs := [14]) (by kernel_rfl) (by simp) ?_
            refine AllReadyH.cons (o := ⟨none, .store 103 (.tmp 74) (.tmp 72), 0, "steps.go:59", #[⟨13, .data⟩, ⟨11, .data⟩, ⟨11, .chain⟩, ⟨0, .phase⟩, ⟨1, .phase⟩, ⟨2, .phase⟩, ⟨3, .phase⟩, ⟨4, .phase⟩, ⟨5, .phase⟩, ⟨6, .phase⟩, ⟨7, .phase⟩, ⟨8, .phase⟩, ⟨9, .phase⟩, ⟨10, .phase⟩, ⟨11, .phase⟩], none⟩) (by rfl) (fun K hK => ?_) AllReadyH.nil
            rw [if_pos (by rfl)]
            refine wp_store_one _ _ _ rfl W1.heap.size 7 _ rfl rfl rfl rfl hHeld.2 hsz ?_
            refine hK.out _ _ ?_ (fun hHeld => ?_)
            · exact ⟨(World.cell?_setCell_far _ _ _ _ (by simp; omega)).trans hHeld.1, there_set hHeld.2 _ rfl _⟩
            clear hK K
            (try go_frame)
            refine wpAnyH_done (by kernel_rfl) ?_ _
            (try go_wp2_with fail)
            go_roundw
            case rel => exact ⟨k + 1, _, _, _, by omega, by go_num, RfI.next rfl HI.out (Below.drew (Below.alloc (Below.alloc (below_alloc _ _) (by simp) _) (by simp; omega) _)) (Nat.le_succ _) (Nat.le_refl _) (by omega) (Row.drew (Row.alloc (Row.new' (xs := rthNew n wr.heap.size) (by simp)) _)) (Row.drew (Row.alloc (Row.alloc (Row.new' rfl) _) _)) HO.out HG.out (Or.imp_right (fun h => by rw [h]; simp) HA.out)⟩
            case measure => simp [intOf]; omega
    · have hke : k = n := by omega
      subst hke
      have HI := hide hI
      clear hI
      have hlt' : ¬ (k : Int) < (k : Int) := by omega
      go_wp2
      go_ret2
      exact ⟨W1.heap.size, rfl, W1, _, _, v, bT, bF, rfl, HBW.out, HI.out, .inl ⟨by omega, rfl, rfl⟩⟩
end Go.Proofs.YtefjhnhdagolhaaGreat
namespace Go.Proofs.YtefjhnhdagolhaaGreat
open Go.RowKit
def Keeps (base : Nat) (w w' : World) : Prop := ∀ k, base ≤ k → k < w.heap.size → w'.heap[k]? = w.heap[k]?
theorem Keeps.row {base : Nat} {w w' : World} (h : Keeps base w w') {g : Nat} {t : TypeId} {xs : List Value} (hr : Row w g t xs) (hg : base ≤ g) : Row w' g t xs := hr.of_block (h g hg hr.lt)
theorem Keeps.of_below {base : Nat} {w w' : World} (hb : Below w.heap.size w w') : Keeps base w w' := fun k _ h2 => hb.block k h2
theorem Keeps.set {base : Nat} {w w' : World} (h : Keeps base w w') {a : Addr} (ha : a.block < base) (v : Value) : Keeps base w (w'.setCell a v) := fun k h1 h2 => (Below.heap_setCell w' a v k (by omega)).trans (h k h1 h2)
end Go.Proofs.YtefjhnhdagolhaaGreat
namespace Go.Proofs.YtefjhnhdagolhaaGreat
open Go.RowKit
set_option maxHeartbeats 400000 in
theorem counterTell (x : Int) (w : World) : Calls Tryz.prog 362 #[.agg #[], .int .i64 x] w fun e w' => ∃ v, e = .returned v ∧ w'.ownsRow w.heap.size 3 1 v 1 (ints [x]) ∧ Below w.heap.size w w' := by
  go_enter Tryz.func362, Tryz.ntmps362
  go_wp2
  go_ret
  refine ⟨_, rfl, ⟨rfl, .inr ⟨w.heap.size + 1, 1, #[.int .i64 x], rfl, by omega, ?_, by omega, by decide, rfl, rfl⟩⟩, (by repeat (first | exact Below.refl _ _ | refine Below.drewN ?_ _ | refine Below.drew ?_ | refine Below.alloc ?_ (by first | (simp; done) | (simp; omega)) _ | refine Below.next ?_ (by assumption) (by first | (simp; done) | (simp; omega))))⟩
  exact Row.new' (xs := [.int .i64 x]) (by simp)
theorem counterTell_c (s : Value) (w : World) : (callFunc 362 #[.agg #[], s]).run Tryz.prog w = .ok (.enter 362 #[.agg #[], s]) w := by kernel_rfl
end Go.Proofs.YtefjhnhdagolhaaGreat
namespace Go.Proofs.YtefjhnhdagolhaaGreat
open Go.RowKit
structure Eng (base : Nat) (tE : TypeId) (bN fA fO fS fB n : Nat) (cap : Int) (xs : List Int) (w : World) : Prop where
  mA : ∀ W, (method 553 tE (.pointer (some ⟨bN, 0, none⟩)) "Answer").run Tryz.prog W = .ok (fA, .pointer (some ⟨bN, 0, none⟩)) W
  mO : ∀ W, (method 553 tE (.pointer (some ⟨bN, 0, none⟩)) "Order").run Tryz.prog W = .ok (fO, .pointer (some ⟨bN, 0, none⟩)) W
  mS : ∀ W, (method 553 tE (.pointer (some ⟨bN, 0, none⟩)) "State").run Tryz.prog W = .ok (fS, .pointer (some ⟨bN, 0, none⟩)) W
  mB : ∀ W, (method 553 tE (.pointer (some ⟨bN, 0, none⟩)) "Bound").run Tryz.prog W = .ok (fB, .pointer (some ⟨bN, 0, none⟩)) W
  cA : ∀ (t : Value) (W : World), (callFunc fA #[.pointer (some ⟨bN, 0, none⟩), t]).run Tryz.prog W = .ok (.enter fA #[.pointer (some ⟨bN, 0, none⟩), t]) W
  cO : ∀ W, (callFunc fO #[.pointer (some ⟨bN, 0, none⟩)]).run Tryz.prog W = .ok (.enter fO #[.pointer (some ⟨bN, 0, none⟩)]) W
  cS : ∀ W, (callFunc fS #[.pointer (some ⟨bN, 0, none⟩)]).run Tryz.prog W = .ok (.enter fS #[.pointer (some ⟨bN, 0, none⟩)]) W
  cB : ∀ W, (callFunc fB #[.pointer (some ⟨bN, 0, none⟩)]).run Tryz.prog W = .ok (.enter fB #[.pointer (some ⟨bN, 0, none⟩)]) W
  aOut : ∀ (t : Int) (W : World), Keeps base w W → (t < 0 ∨ (n : Int) ≤ t) → Calls Tryz.prog fA #[.pointer (some ⟨bN, 0, none⟩), .int .i64 t] W fun e w' => e = .returned (.tuple #[.agg #[.int .i64 0, .int .i64 0], .int .i64 3]) ∧ Below W.heap.size W w'
  aNew : ∀ (t : Nat) (W : World), Keeps base w W → t < n → Calls Tryz.prog fA #[.pointer (some ⟨bN, 0, none⟩), .int .i64 (t : Int)] W fun e w' => e = .returned (.tuple #[.agg #[.int .i64 0, .int .i64 0], .int .i64 5]) ∧ Below W.heap.size W w'
  ord : ∀ W, Keeps base w W → Calls Tryz.prog fO #[.pointer (some ⟨bN, 0, none⟩)] W fun e w' => e = .returned (.slice none 0 0) ∧ Below W.heap.size W w'
  sta : ∀ W, Keeps base w W → Calls Tryz.prog fS #[.pointer (some ⟨bN, 0, none⟩)] W fun e w' => ∃ v, e = .returned v ∧ w'.ownsRow W.heap.size 3 1 v xs.length (ints xs) ∧ Below W.heap.size W w'
  bnd : ∀ W, Keeps base w W → Calls Tryz.prog fB #[.pointer (some ⟨bN, 0, none⟩)] W fun e w' => e = .returned (.int .i64 (4 + 2 * (cap + 3 + 2 * (((n : Int) + 15) / 16 + 2 * (n : Int) + 1) + ((n : Int) + 15) / 16 + 3 * (n : Int)) + 3)) ∧ Below W.heap.size W w'
end Go.Proofs.YtefjhnhdagolhaaGreat
namespace Go.Proofs.YtefjhnhdagolhaaGreat
open Go.RowKit
attribute [local go_sem ↓] Go.wp_at_zero Go.wp_at_succ
structure RefRd (b n g gc : Nat) (bT : Nat → Nat) (kind cap st co : Int) (vn vo : Value) (w : World) : Prop where
  row : Row w b 105 (ccs kind n cap st co vn vo ++ [.slice (some ⟨g, 0, none⟩) n gc, .slice none 0 0])
  ptr : ∀ t, t < n → w.cell? ⟨g, t, none⟩ = some (.pointer (some ⟨bT t, 0, none⟩))
  ended : ∀ t, t < n → w.cell? ⟨bT t, 1, none⟩ = some (.int .i64 0)
  part : ∀ t, t < n → w.cell? ⟨bT t, 3, none⟩ = some (.int .i64 0)
theorem RefMade.reads {w0 : World} {kind : Int} {n : Nat} {cap st co : Int} {nx ou : List Int} {vn vo : Value} {b : Nat} {w : World} (h : RefMade w0 kind n cap st co nx ou vn vo b w) (hn : 1 ≤ n) :
    ∃ g gc bT vn' vo', RefRd b n g gc bT kind cap st co vn' vo' w ∧ Below w0.heap.size w0 w := by
  obtain ⟨W1, vn', vo', v, bT, bF, rfl, hb, hI, -⟩ := h
  obtain ⟨hE, hO, hT, -, hB⟩ := hI
  obtain ⟨hl, ⟨rfl, hn0⟩ | ⟨g, gc, cur, rfl, -, hg, hnc, hcm, hcs, htk⟩⟩ := hO
  · omega
  · refine ⟨g, gc, bT, vn', vo', ⟨hE, fun t ht => ?_, fun t ht => (hT t ht).1.cell_of rfl, fun t ht => (hT t ht).1.cell_of rfl⟩, Below.next hb hB hb.size⟩
    rw [cell_of_row w g _ cur _ _ hg]
    have : (ptrs bT n)[t]? = some (.pointer (some ⟨bT t, 0, none⟩)) := by simp [ptrs, List.getElem?_range ht]
    rw [← htk, List.getElem?_take] at this
    split at this
    · simpa using this
    · cases this
section
variable {b n g gc : Nat} {bT : Nat → Nat} {kind cap st co : Int} {vn vo : Value} (w : World)
end
end Go.Proofs.YtefjhnhdagolhaaGreat
