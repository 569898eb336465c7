import Derived.Test.YtefjhnhdagolhaaGreatPRA
namespace Go.Proofs.YtefjhnhdagolhaaGreat
open Go.RowKit
attribute [local go_sem ↓] Go.wp_at_zero Go.wp_at_succ

set_option maxRecDepth 20000 in
set_option maxHeartbeats 4000000 in
theorem refNew_table (cap st co : Int) (nx ou : List Int) (vn vo : Value) (w : World) (hn : Sl w vn (ints nx)) (ho : Sl w vo (ints ou)) (n : Nat) (ht : tableOk st co nx ou = true) (n1 : nx.length ≤ 1048576) (n3 : ou.length ≤ 1048576) (h1 : 1 ≤ n) (h2 : n ≤ 64) (h3 : 0 ≤ cap) (h4 : cap ≤ 64) :
    Calls Tryz.prog 41 #[.agg #[.int .i64 5, .int .i64 (n : Int), .int .i64 cap, .int .i64 st, .int .i64 co, vn, vo]] w fun e w' => ∃ b, e = .returned (.tuple #[.pointer (some ⟨b, 0, none⟩), .int .i64 0]) ∧ RefMade w 5 n cap st co nx ou vn vo b w' := by
  obtain ⟨pi, hpi, hpz⟩ := Option.map_eq_some_iff.1 info_pthread
  simp only [Prod.mk.injEq] at hpz
  obtain ⟨hp1, hp2, hp3⟩ := hpz
  have HPI := hide hpi
  have HP1 := hide hp1
  have HP2 := hide hp2
  have HP3 := hide hp3
  clear hpi hp1 hp2 hp3
  have hmk := run_make_zeros (P := Tryz.prog) 22 3 (.int .i64 0) 8 Tryz.underlying22 info_int rfl (n : Int) n rfl (by omega) (by omega)
  have HC := hide (fun W hW => refTable_any st co nx ou vn vo W (hn.below hW) (ho.below hW))
  have HD := hide (fun W hW => own_any st co nx ou vn vo W (hn.below hW) (ho.below hW) n1 n3)
  clear hn ho
  have HT := hide ht
  clear ht
  go_enter Tryz.func41, Tryz.ntmps41
  go_wp2_with fail
  refine (HC.out _ (below_alloc _ _)).mono ?_
  rintro e w1 ⟨rfl, hb1⟩
  rw [HT.out]
  have hR1 : Row w1 w.heap.size 26 (ccs 5 n cap st co vn vo) := (Row.new' rfl).old hb1
  have hB1 : Below w.heap.size w w1 := Below.next (below_alloc w _) hb1 (by simp)
  have hz1 : w.heap.size < w1.heap.size := hR1.lt
  have p0 : w1.cell? ⟨w.heap.size, 0, none⟩ = some (.int .i64 5) := hR1.cell_of rfl
  have p3 : w1.cell? ⟨w.heap.size, 3, none⟩ = some (.int .i64 st) := hR1.cell_of rfl
  have p4 : w1.cell? ⟨w.heap.size, 4, none⟩ = some (.int .i64 co) := hR1.cell_of rfl
  have p5 : w1.cell? ⟨w.heap.size, 5, none⟩ = some vn := hR1.cell_of rfl
  have p6 : w1.cell? ⟨w.heap.size, 6, none⟩ = some vo := hR1.cell_of rfl
  have HR1 := hide hR1
  have HB1 := hide hB1
  clear hR1 hB1 hb1
  go_wp2_with fail
  refine (HD.out _ HB1.out).mono ?_
  rintro e w2 ⟨g1, g2, rfl, hg1, hg2, hr1, hr2, hb2⟩
  have hR2 : Row w2 w.heap.size 26 (ccs 5 n cap st co vn vo) := HR1.out.old hb2
  have s3 : w2.cell? ⟨w.heap.size, 3, none⟩ = some (.int .i64 st) := hR2.cell_of rfl
  have s4 : w2.cell? ⟨w.heap.size, 4, none⟩ = some (.int .i64 co) := hR2.cell_of rfl
  have s5 : w2.cell? ⟨w.heap.size, 5, none⟩ = some vn := hR2.cell_of rfl
  have s6 : w2.cell? ⟨w.heap.size, 6, none⟩ = some vo := hR2.cell_of rfl
  have sf := hR2.frozen
  have hz2 := hb2.size
  have HR2 := hide hR2
  have HG1 := hide hr1
  have HG2 := hide hr2
  have HB2 := hide (Below.next HB1.out hb2 HB1.out.size)
  clear hR2 hr1 hr2 hb2 p0 p3 p4 p5 p6
  go_upto_region 10 with fail
  generalize hW1 : World.setCell (World.setCell (World.setCell (World.setCell w2 _ _) _ _) _ _) _ _ = W1
  have HBW := hide (show Below w.heap.size w W1 by rw [← hW1]; exact ((((HB2.out.setCell (Nat.le_refl _) _).setCell (Nat.le_refl _) _).setCell (Nat.le_refl _) _).setCell (Nat.le_refl _) _))
  have hs1 : w.heap.size + 1 ≤ W1.heap.size := by rw [← hW1]; simp; omega
  have HRN := hide (show Row W1 w.heap.size 26 (ccs 5 n cap st co (.slice (some ⟨g1, 0, none⟩) nx.length nx.length) (.slice (some ⟨g2, 0, none⟩) ou.length ou.length)) by rw [← hW1]; exact (((HR2.out.set 3 _).set 4 _).set 5 _).set 6 _)
  have HW1a := hide (show Row W1 g1 3 (ints nx) by rw [← hW1]; exact Row.setOther (Row.setOther (Row.setOther (Row.setOther HG1.out (by simp; omega) _) (by simp; omega) _) (by simp; omega) _) (by simp; omega) _)
  have HW1b := hide (show Row W1 g2 3 (ints ou) by rw [← hW1]; exact Row.setOther (Row.setOther (Row.setOther (Row.setOther HG2.out (by simp; omega) _) (by simp; omega) _) (by simp; omega) _) (by simp; omega) _)
  have q0 : W1.cell? ⟨w.heap.size, 0, none⟩ = some (.int .i64 5) := HRN.out.cell_of rfl
  have q1 : W1.cell? ⟨w.heap.size, 1, none⟩ = some (.int .i64 (n : Int)) := HRN.out.cell_of rfl
  have q2 : W1.cell? ⟨w.heap.size, 2, none⟩ = some (.int .i64 cap) := HRN.out.cell_of rfl
  have q3 : W1.cell? ⟨w.heap.size, 3, none⟩ = some (.int .i64 st) := HRN.out.cell_of rfl
  have q4 : W1.cell? ⟨w.heap.size, 4, none⟩ = some (.int .i64 co) := HRN.out.cell_of rfl
  have q5 : W1.cell? ⟨w.heap.size, 5, none⟩ = some (.slice (some ⟨g1, 0, none⟩) nx.length nx.length) := HRN.out.cell_of rfl
  have q6 : W1.cell? ⟨w.heap.size, 6, none⟩ = some (.slice (some ⟨g2, 0, none⟩) ou.length ou.length) := HRN.out.cell_of rfl
  clear hW1 s3 s4 s5 s6 sf
  have hI0 : RfI W1 n (ccs 5 n cap st co (.slice (some ⟨g1, 0, none⟩) nx.length nx.length) (.slice (some ⟨g2, 0, none⟩) ou.length ou.length)) (.slice none 0 0) 0 (fun _ => 0) (fun _ => 0) (W1.alloc (.cells (ccs 5 n cap st co (.slice (some ⟨g1, 0, none⟩) nx.length nx.length) (.slice (some ⟨g2, 0, none⟩) ou.length ou.length) ++ [Value.slice none 0 0, .slice none 0 0]).toArray 105)) :=
    ⟨Row.new' rfl, World.ownsRow_nil _ _ _ _, fun t ht => absurd ht (by omega), fun s t _ h => absurd h (by omega), below_alloc _ _⟩
  have HI0 := hide hI0
  clear hI0
  go_wp2_with fail
  go_loopw [6] (fun i w' => ∃ k v bT bF, k ≤ n ∧ i = .int .i64 (k : Int) ∧ RfI W1 n (ccs 5 n cap st co (.slice (some ⟨g1, 0, none⟩) nx.length nx.length) (.slice (some ⟨g2, 0, none⟩) ou.length ou.length)) v k bT bF w') (fun i _ => n - (intOf i).toNat)
  case atStart => exact ⟨0, _, _, _, Nat.zero_le _, rfl, HI0.out⟩
  case round =>
    obtain ⟨k, v, bT, bF, hk, rfl, hI⟩ := hrel
    have hcN : wr.cell? ⟨w.heap.size, 1, none⟩ = some (.int .i64 (n : Int)) := cell_later hI.2.2.2.2 (HRN.out.cell_of rfl)
    by_cases hlt : k < n
    · have hlt' : (k : Int) < (n : Int) := by omega
      have hcv : wr.cell? ⟨W1.heap.size, 7, none⟩ = some v := hI.1.cell_of rfl
      have hth : wr.there W1.heap.size 7 1 := hI.1.there (by simp [ccs])
      have hvlt := hI.2.1.lt
      have hzI := hI.1.lt
      have hneE : some W1.heap.size ≠ v.ownBlock := fun e => by have := (hvlt _ e.symm).1; omega
      have hneN : some w.heap.size ≠ v.ownBlock := fun e => by have := (hvlt _ e.symm).1; omega
      have hsz : (Tryz.prog.info? 103).map (·.size) = some 1 := by kernel_rfl
      have HI := hide hI
      have HCV := hide hcv
      clear hI hcv hvlt
      go_wp2
      refine wp_region_held_drew (S := (fun w' => w'.cell? ⟨w.heap.size, 1, none⟩ = some (.int .i64 (n : Int)) ∧ w'.there W1.heap.size 7 1)) (by kernel_rfl) ?_ (fun hHeld => ?_)
      · exact ⟨hcN, hth⟩
      refine wpAnyH_take (i := 0) (oi := { dst := some 61, op := Go.Op.move (Go.Operand.tmp 5), type := 82, pos := "steps.go:59", after := #[], guard := none }) (v := ?v383) rfl (by kernel_rfl) (by kernel_rfl) (by kernel_rfl) (fun _ _ _ h => h) (Or.inl ⟨by rfl, ?hy383⟩) (by assumption) ?rest383
      case hy383 => (intro w hSw; (try dsimp only at hSw); go_simp; (try with_reducible rfl))
      (try go_frame)
      refine wpAnyH_take (i := 1) (oi := { dst := some 62, op := Go.Op.move (Go.Operand.tmp 5), type := 82, pos := "steps.go:59", after := #[], guard := none }) (v := ?v384) rfl (by kernel_rfl) (by kernel_rfl) (by kernel_rfl) (fun _ _ _ h => h) (Or.inl ⟨by rfl, ?hy384⟩) (by assumption) ?rest384
      case hy384 => (intro w hSw; (try dsimp only at hSw); go_simp; (try with_reducible rfl))
      (try go_frame)
      refine wpAnyH_take (i := 2) (oi := { dst := some 63, op := Go.Op.nilCheck (Go.Operand.tmp 62), type := 0, pos := "steps.go:59", after := #[{ on := 1, ground := Go.Ground.data }], guard := none }) (v := ?v385) rfl (by kernel_rfl) (by kernel_rfl) (by kernel_rfl) (fun _ _ _ h => h) (Or.inl ⟨by rfl, ?hy385⟩) (by assumption) ?rest385
      case hy385 => (intro w hSw; (try dsimp only at hSw); go_simp; (try with_reducible rfl))
      (try go_frame)
      refine wpAnyH_take (i := 3) (oi := { dst := some 64, op := Go.Op.fieldAddr 105 (Go.Operand.tmp 63) 1, type := 0, pos := "steps.go:59", after := #[{ on := 2, ground := Go.Ground.data }], guard := none }) (v := ?v386) rfl (by kernel_rfl) (by kernel_rfl) (by kernel_rfl) (fun _ _ _ h => h) (Or.inl ⟨by rfl, ?hy386⟩) (by assumption) ?rest386
      case hy386 => (intro w hSw; (try dsimp only at hSw); go_simp; (try with_reducible rfl))
      (try go_frame)
      refine wpAnyH_take (i := 5) (oi := { dst := some 66, op := Go.Op.fieldAddr 26 (Go.Operand.tmp 1) 1, type := 0, pos := "steps.go:59", after := #[], guard := none }) (v := ?v387) rfl (by kernel_rfl) (by kernel_rfl) (by kernel_rfl) (fun _ _ _ h => h) (Or.inl ⟨by rfl, ?hy387⟩) (by assumption) ?rest387
      case hy387 => (intro w hSw; (try dsimp only at hSw); go_simp; (try with_reducible rfl))
      (try go_frame)
      refine wpAnyH_take (i := 6) (oi := { dst := some 67, op := Go.Op.load 3 (Go.Operand.tmp 66), type := 3, pos := "steps.go:59", after := #[{ on := 5, ground := Go.Ground.data }], guard := none }) (v := ?v388) rfl (by kernel_rfl) (by kernel_rfl) (by kernel_rfl) (fun _ _ _ h => h) (Or.inl ⟨by rfl, ?hy388⟩) (by assumption) ?rest388
      case hy388 => (intro w hSw; (try dsimp only at hSw); go_simp; (try with_reducible rfl))
      (try go_frame)
      refine wpAnyH_ready (rs := [4, 7]) (by kernel_rfl) (by simp) ?_
      refine AllReadyH.cons (o := { dst := some 65, op := Go.Op.load 103 (Go.Operand.tmp 64), type := 103, pos := "steps.go:59", after := #[{ on := 3, ground := Go.Ground.data }], guard := none }) (by rfl) (fun K hK => ?_) (AllReadyH.cons (o := { dst := some 68, op := Go.Op.makeSlice 22 (Go.Operand.tmp 67) (Go.Operand.tmp 67), type := 22, pos := "steps.go:59", after := #[{ on := 6, ground := Go.Ground.data }, { on := 6, ground := Go.Ground.data }], guard := none }) (by rfl) (fun K hK => ?_) AllReadyH.nil)
      · rw [if_pos (by rfl)]
        refine wp_load_one _ _ rfl _ _ v rfl (by kernel_rfl) (by refine cell_later ?_ HCV.out; repeat (first | exact Below.refl _ _ | refine Below.drew ?_ | refine Below.alloc ?_ (by first | (simp; done) | (simp; omega)) _)) ?_
        refine hK.out _ _ ?_ (fun hHeld => ?_)
        · exact hHeld
        clear hK K
        (try go_frame)
        refine wpAnyH_ready (rs := [7]) (by kernel_rfl) (by simp) ?_
        refine AllReadyH.cons (o := { dst := some 68, op := Go.Op.makeSlice 22 (Go.Operand.tmp 67) (Go.Operand.tmp 67), type := 22, pos := "steps.go:59", after := #[{ on := 6, ground := Go.Ground.data }, { on := 6, ground := Go.Ground.data }], guard := none }) (by rfl) (fun K hK => ?_) AllReadyH.nil
        go_simp
        refine hK.out _ _ ?_ (fun hHeld => ?_)
        · exact ⟨cell_later (below_alloc _ _) hHeld.1, World.there_alloc hHeld.2 _⟩
        clear hK K
        (try go_frame)
        refine wpAnyH_take (i := 8) (oi := { dst := some 69, op := Go.Op.build 109 #[(8, Go.Operand.tmp 68)], type := 109, pos := "steps.go:59", after := #[{ on := 7, ground := Go.Ground.data }], guard := none }) (v := ?v389) rfl (by kernel_rfl) (by kernel_rfl) (by kernel_rfl) (fun _ _ _ h => h) (Or.inl ⟨by rfl, ?hy389⟩) (by assumption) ?rest389
        case hy389 => (intro w hSw; (try dsimp only at hSw); go_simp; (try with_reducible rfl))
        (try go_frame)
        refine wpAnyH_ready (rs := [9]) (by kernel_rfl) (by simp) ?_
        refine AllReadyH.cons (o := { dst := some 70, op := Go.Op.box 109 (Go.Operand.tmp 69), type := 107, pos := "steps.go:59", after := #[{ on := 8, ground := Go.Ground.data }], guard := none }) (by rfl) (fun K hK => ?_) AllReadyH.nil
        go_simp
        refine hK.out _ _ ?_ (fun hHeld => ?_)
        · exact ⟨cell_later (below_alloc _ _) hHeld.1, World.there_alloc hHeld.2 _⟩
        clear hK K
        (try go_frame)
        refine wpAnyH_ready (rs := [10]) (by kernel_rfl) (by simp) ?_
        refine AllReadyH.cons (o := { dst := some 71, op := Go.Op.buildSlice 103 1 #[(0, Go.Operand.tmp 70)], type := 103, pos := "steps.go:59", after := #[{ on := 9, ground := Go.Ground.data }], guard := none }) (by rfl) (fun K hK => ?_) AllReadyH.nil
        go_simp
        refine hK.out _ _ ?_ (fun hHeld => ?_)
        · exact ⟨cell_later (below_alloc _ _) hHeld.1, World.there_alloc hHeld.2 _⟩
        clear hK K
        (try go_frame)
        refine wpAnyH_ready (rs := [11]) (by kernel_rfl) (by simp) ?_
        refine AllReadyH.cons (o := { dst := some 72, op := Go.Op.call { callee := Go.Callee.builtin Go.Builtin.append, args := #[Go.Operand.tmp 65, Go.Operand.tmp 71], argTypes := #[103, 103] }, type := 103, pos := "steps.go:59", after := #[{ on := 4, ground := Go.Ground.data }, { on := 10, ground := Go.Ground.data }], guard := none }) (by rfl) (fun K hK => ?_) AllReadyH.nil
        refine step_append_lies _ rfl (.tmp 65) (.tmp 71) 103 rfl (W1.heap.size + 1) 107 pi (.pointer none) 1 8 Tryz.underlying103 HPI.out HP1.out HP2.out HP3.out rfl (by decide) v k (ptrs bT k) rfl ?_ ⟨wr.heap.size + 1 + 1, 0, none⟩ 1 1 [.pointer (some ⟨wr.heap.size + 1, 0, none⟩)] rfl rfl ?_ (by simp [Value.oneCell']) (by decide) (by unfold maxLen; omega) (by omega) ?_ (wr.heap.size + 1 + 1 + 1) (by simp) ?_
        · exact ((HI.out.2.1.alloc _).alloc _).alloc _
        · exact World.news_of_block (Row.drew (Row.new' (by simp)))
        · simp; omega
        intro g gc w4 hown hgr hat hlt4
        have HO := hide hown
        have HG := hide hgr
        have HA := hide hat
        clear hown hgr hat
        refine hK.out _ _ ?_ (fun hHeld => ?_)
        · exact keepG1 HG.out hHeld hneE hneN
        clear hK K
        (try go_frame)
        refine wpAnyH_take (i := 12) (oi := { dst := some 73, op := Go.Op.nilCheck (Go.Operand.tmp 61), type := 0, pos := "steps.go:59", after := #[{ on := 0, ground := Go.Ground.data }, { on := 0, ground := Go.Ground.phase }, { on := 1, ground := Go.Ground.phase }, { on := 2, ground := Go.Ground.phase }, { on := 3, ground := Go.Ground.phase }, { on := 4, ground := Go.Ground.phase }, { on := 5, ground := Go.Ground.phase }, { on := 6, ground := Go.Ground.phase }, { on := 7, ground := Go.Ground.phase }, { on := 8, ground := Go.Ground.phase }, { on := 9, ground := Go.Ground.phase }, { on := 10, ground := Go.Ground.phase }, { on := 11, ground := Go.Ground.phase }], guard := none }) (v := ?v390) rfl (by kernel_rfl) (by kernel_rfl) (by kernel_rfl) (fun _ _ _ h => h) (Or.inl ⟨by rfl, ?hy390⟩) (by assumption) ?rest390
        case hy390 => (intro w hSw; (try dsimp only at hSw); go_simp; (try with_reducible rfl))
        (try go_frame)
        refine wpAnyH_take (i := 13) (oi := { dst := some 74, op := Go.Op.fieldAddr 105 (Go.Operand.tmp 73) 1, type := 0, pos := "steps.go:59", after := #[{ on := 12, ground := Go.Ground.data }, { on := 0, ground := Go.Ground.phase }, { on := 1, ground := Go.Ground.phase }, { on := 2, ground := Go.Ground.phase }, { on := 3, ground := Go.Ground.phase }, { on := 4, ground := Go.Ground.phase }, { on := 5, ground := Go.Ground.phase }, { on := 6, ground := Go.Ground.phase }, { on := 7, ground := Go.Ground.phase }, { on := 8, ground := Go.Ground.phase }, { on := 9, ground := Go.Ground.phase }, { on := 10, ground := Go.Ground.phase }, { on := 11, ground := Go.Ground.phase }], guard := none }) (v := ?v391) rfl (by kernel_rfl) (by kernel_rfl) (by kernel_rfl) (fun _ _ _ h => h) (Or.inl ⟨by rfl, ?hy391⟩) (by assumption) ?rest391
        case hy391 => (intro w hSw; (try dsimp only at hSw); go_simp; (try with_reducible rfl))
        (try go_frame)
        refine wpAnyH_ready (rs := [14]) (by kernel_rfl) (by simp) ?_
        refine AllReadyH.cons (o := { dst := none, op := Go.Op.store 103 (Go.Operand.tmp 74) (Go.Operand.tmp 72), type := 0, pos := "steps.go:59", after := #[{ on := 13, ground := Go.Ground.data }, { on := 11, ground := Go.Ground.data }, { on := 11, ground := Go.Ground.chain }, { on := 0, ground := Go.Ground.phase }, { on := 1, ground := Go.Ground.phase }, { on := 2, ground := Go.Ground.phase }, { on := 3, ground := Go.Ground.phase }, { on := 4, ground := Go.Ground.phase }, { on := 5, ground := Go.Ground.phase }, { on := 6, ground := Go.Ground.phase }, { on := 7, ground := Go.Ground.phase }, { on := 8, ground := Go.Ground.phase }, { on := 9, ground := Go.Ground.phase }, { on := 10, ground := Go.Ground.phase }, { on := 11, ground := Go.Ground.phase }], guard := none }) (by rfl) (fun K hK => ?_) AllReadyH.nil
        rw [if_pos (by rfl)]
        refine wp_store_one _ _ _ rfl W1.heap.size 7 _ rfl rfl rfl rfl hHeld.2 hsz ?_
        refine hK.out _ _ ?_ (fun hHeld => ?_)
        · exact ⟨(World.cell?_setCell_far _ _ _ _ (by simp; omega)).trans hHeld.1, there_set hHeld.2 _ rfl _⟩
        clear hK K
        (try go_frame)
        refine wpAnyH_done (by kernel_rfl) ?_ _
        (try go_wp2_with fail)
        go_roundw
        case rel => exact ⟨k + 1, _, _, _, by omega, by go_num, RfI.next rfl HI.out (Below.drew (Below.alloc (Below.alloc (below_alloc _ _) (by simp) _) (by simp; omega) _)) (Nat.le_succ _) (Nat.le_refl _) (by omega) (Row.drew (Row.alloc (Row.new' (xs := rthNew n wr.heap.size) (by simp)) _)) (Row.drew (Row.alloc (Row.alloc (Row.new' rfl) _) _)) HO.out HG.out (Or.imp_right (fun h => by rw [h]; simp) HA.out)⟩
        case measure => simp [intOf]; omega
      · go_simp
        refine hK.out _ _ ?_ (fun hHeld => ?_)
        · exact ⟨cell_later (below_alloc _ _) hHeld.1, World.there_alloc hHeld.2 _⟩
        clear hK K
        (try go_frame)
        refine wpAnyH_take (i := 8) (oi := { dst := some 69, op := Go.Op.build 109 #[(8, Go.Operand.tmp 68)], type := 109, pos := "steps.go:59", after := #[{ on := 7, ground := Go.Ground.data }], guard := none }) (v := ?v392) rfl (by kernel_rfl) (by kernel_rfl) (by kernel_rfl) (fun _ _ _ h => h) (Or.inl ⟨by rfl, ?hy392⟩) (by assumption) ?rest392
        case hy392 => (intro w hSw; (try dsimp only at hSw); go_simp; (try with_reducible rfl))
        (try go_frame)
        refine wpAnyH_ready (rs := [4, 9]) (by kernel_rfl) (by simp) ?_
        refine AllReadyH.cons (o := { dst := some 65, op := Go.Op.load 103 (Go.Operand.tmp 64), type := 103, pos := "steps.go:59", after := #[{ on := 3, ground := Go.Ground.data }], guard := none }) (by rfl) (fun K hK => ?_) (AllReadyH.cons (o := { dst := some 70, op := Go.Op.box 109 (Go.Operand.tmp 69), type := 107, pos := "steps.go:59", after := #[{ on := 8, ground := Go.Ground.data }], guard := none }) (by rfl) (fun K hK => ?_) AllReadyH.nil)
        · rw [if_pos (by rfl)]
          refine wp_load_one _ _ rfl _ _ v rfl (by kernel_rfl) (by refine cell_later ?_ HCV.out; repeat (first | exact Below.refl _ _ | refine Below.drew ?_ | refine Below.alloc ?_ (by first | (simp; done) | (simp; omega)) _)) ?_
          refine hK.out _ _ ?_ (fun hHeld => ?_)
          · exact hHeld
          clear hK K
          (try go_frame)
          refine wpAnyH_ready (rs := [9]) (by kernel_rfl) (by simp) ?_
          refine AllReadyH.cons (o := { dst := some 70, op := Go.Op.box 109 (Go.Operand.tmp 69), type := 107, pos := "steps.go:59", after := #[{ on := 8, ground := Go.Ground.data }], guard := none }) (by rfl) (fun K hK => ?_) AllReadyH.nil
          go_simp
          refine hK.out _ _ ?_ (fun hHeld => ?_)
          · exact ⟨cell_later (below_alloc _ _) hHeld.1, World.there_alloc hHeld.2 _⟩
          clear hK K
          (try go_frame)
          refine wpAnyH_ready (rs := [10]) (by kernel_rfl) (by simp) ?_
          refine AllReadyH.cons (o := { dst := some 71, op := Go.Op.buildSlice 103 1 #[(0, Go.Operand.tmp 70)], type := 103, pos := "steps.go:59", after := #[{ on := 9, ground := Go.Ground.data }], guard := none }) (by rfl) (fun K hK => ?_) AllReadyH.nil
          go_simp
          refine hK.out _ _ ?_ (fun hHeld => ?_)
          · exact ⟨cell_later (below_alloc _ _) hHeld.1, World.there_alloc hHeld.2 _⟩
          clear hK K
          (try go_frame)
          refine wpAnyH_ready (rs := [11]) (by kernel_rfl) (by simp) ?_
          refine AllReadyH.cons (o := { dst := some 72, op := Go.Op.call { callee := Go.Callee.builtin Go.Builtin.append, args := #[Go.Operand.tmp 65, Go.Operand.tmp 71], argTypes := #[103, 103] }, type := 103, pos := "steps.go:59", after := #[{ on := 4, ground := Go.Ground.data }, { on := 10, ground := Go.Ground.data }], guard := none }) (by rfl) (fun K hK => ?_) AllReadyH.nil
          refine step_append_lies _ rfl (.tmp 65) (.tmp 71) 103 rfl (W1.heap.size + 1) 107 pi (.pointer none) 1 8 Tryz.underlying103 HPI.out HP1.out HP2.out HP3.out rfl (by decide) v k (ptrs bT k) rfl ?_ ⟨wr.heap.size + 1 + 1, 0, none⟩ 1 1 [.pointer (some ⟨wr.heap.size + 1, 0, none⟩)] rfl rfl ?_ (by simp [Value.oneCell']) (by decide) (by unfold maxLen; omega) (by omega) ?_ (wr.heap.size + 1 + 1 + 1) (by simp) ?_
          · exact ((HI.out.2.1.alloc _).alloc _).alloc _
          · exact World.news_of_block (Row.drew (Row.new' (by simp)))
          · simp; omega
          intro g gc w4 hown hgr hat hlt4
          have HO := hide hown
          have HG := hide hgr
          have HA := hide hat
          clear hown hgr hat
          refine hK.out _ _ ?_ (fun hHeld => ?_)
          · exact keepG1 HG.out hHeld hneE hneN
          clear hK K
          (try go_frame)
          refine wpAnyH_take (i := 12) (oi := { dst := some 73, op := Go.Op.nilCheck (Go.Operand.tmp 61), type := 0, pos := "steps.go:59", after := #[{ on := 0, ground := Go.Ground.data }, { on := 0, ground := Go.Ground.phase }, { on := 1, ground := Go.Ground.phase }, { on := 2, ground := Go.Ground.phase }, { on := 3, ground := Go.Ground.phase }, { on := 4, ground := Go.Ground.phase }, { on := 5, ground := Go.Ground.phase }, { on := 6, ground := Go.Ground.phase }, { on := 7, ground := Go.Ground.phase }, { on := 8, ground := Go.Ground.phase }, { on := 9, ground := Go.Ground.phase }, { on := 10, ground := Go.Ground.phase }, { on := 11, ground := Go.Ground.phase }], guard := none }) (v := ?v393) rfl (by kernel_rfl) (by kernel_rfl) (by kernel_rfl) (fun _ _ _ h => h) (Or.inl ⟨by rfl, ?hy393⟩) (by assumption) ?rest393
          case hy393 => (intro w hSw; (try dsimp only at hSw); go_simp; (try with_reducible rfl))
          (try go_frame)
          refine wpAnyH_take (i := 13) (oi := { dst := some 74, op := Go.Op.fieldAddr 105 (Go.Operand.tmp 73) 1, type := 0, pos := "steps.go:59", after := #[{ on := 12, ground := Go.Ground.data }, { on := 0, ground := Go.Ground.phase }, { on := 1, ground := Go.Ground.phase }, { on := 2, ground := Go.Ground.phase }, { on := 3, ground := Go.Ground.phase }, { on := 4, ground := Go.Ground.phase }, { on := 5, ground := Go.Ground.phase }, { on := 6, ground := Go.Ground.phase }, { on := 7, ground := Go.Ground.phase }, { on := 8, ground := Go.Ground.phase }, { on := 9, ground := Go.Ground.phase }, { on := 10, ground := Go.Ground.phase }, { on := 11, ground := Go.Ground.phase }], guard := none }) (v := ?v394) rfl (by kernel_rfl) (by kernel_rfl) (by kernel_rfl) (fun _ _ _ h => h) (Or.inl ⟨by rfl, ?hy394⟩) (by assumption) ?rest394
          case hy394 => (intro w hSw; (try dsimp only at hSw); go_simp; (try with_reducible rfl))
          (try go_frame)
          refine wpAnyH_ready (rs := [14]) (by kernel_rfl) (by simp) ?_
          refine AllReadyH.cons (o := { dst := none, op := Go.Op.store 103 (Go.Operand.tmp 74) (Go.Operand.tmp 72), type := 0, pos := "steps.go:59", after := #[{ on := 13, ground := Go.Ground.data }, { on := 11, ground := Go.Ground.data }, { on := 11, ground := Go.Ground.chain }, { on := 0, ground := Go.Ground.phase }, { on := 1, ground := Go.Ground.phase }, { on := 2, ground := Go.Ground.phase }, { on := 3, ground := Go.Ground.phase }, { on := 4, ground := Go.Ground.phase }, { on := 5, ground := Go.Ground.phase }, { on := 6, ground := Go.Ground.phase }, { on := 7, ground := Go.Ground.phase }, { on := 8, ground := Go.Ground.phase }, { on := 9, ground := Go.Ground.phase }, { on := 10, ground := Go.Ground.phase }, { on := 11, ground := Go.Ground.phase }], guard := none }) (by rfl) (fun K hK => ?_) AllReadyH.nil
          rw [if_pos (by rfl)]
          refine wp_store_one _ _ _ rfl W1.heap.size 7 _ rfl rfl rfl rfl hHeld.2 hsz ?_
          refine hK.out _ _ ?_ (fun hHeld => ?_)
          · exact ⟨(World.cell?_setCell_far _ _ _ _ (by simp; omega)).trans hHeld.1, there_set hHeld.2 _ rfl _⟩
          clear hK K
          (try go_frame)
          refine wpAnyH_done (by kernel_rfl) ?_ _
          (try go_wp2_with fail)
          go_roundw
          case rel => exact ⟨k + 1, _, _, _, by omega, by go_num, RfI.next rfl HI.out (Below.drew (Below.alloc (Below.alloc (below_alloc _ _) (by simp) _) (by simp; omega) _)) (Nat.le_succ _) (Nat.le_refl _) (by omega) (Row.drew (Row.alloc (Row.new' (xs := rthNew n wr.heap.size) (by simp)) _)) (Row.drew (Row.alloc (Row.alloc (Row.new' rfl) _) _)) HO.out HG.out (Or.imp_right (fun h => by rw [h]; simp) HA.out)⟩
          case measure => simp [intOf]; omega
        · go_simp
          refine hK.out _ _ ?_ (fun hHeld => ?_)
          · exact ⟨cell_later (below_alloc _ _) hHeld.1, World.there_alloc hHeld.2 _⟩
          clear hK K
          (try go_frame)
          refine wpAnyH_ready (rs := [4, 10]) (by kernel_rfl) (by simp) ?_
          refine AllReadyH.cons (o := { dst := some 65, op := Go.Op.load 103 (Go.Operand.tmp 64), type := 103, pos := "steps.go:59", after := #[{ on := 3, ground := Go.Ground.data }], guard := none }) (by rfl) (fun K hK => ?_) (AllReadyH.cons (o := { dst := some 71, op := Go.Op.buildSlice 103 1 #[(0, Go.Operand.tmp 70)], type := 103, pos := "steps.go:59", after := #[{ on := 9, ground := Go.Ground.data }], guard := none }) (by rfl) (fun K hK => ?_) AllReadyH.nil)
          · rw [if_pos (by rfl)]
            refine wp_load_one _ _ rfl _ _ v rfl (by kernel_rfl) (by refine cell_later ?_ HCV.out; repeat (first | exact Below.refl _ _ | refine Below.drew ?_ | refine Below.alloc ?_ (by first | (simp; done) | (simp; omega)) _)) ?_
            refine hK.out _ _ ?_ (fun hHeld => ?_)
            · exact hHeld
            clear hK K
            (try go_frame)
            refine wpAnyH_ready (rs := [10]) (by kernel_rfl) (by simp) ?_
            refine AllReadyH.cons (o := { dst := some 71, op := Go.Op.buildSlice 103 1 #[(0, Go.Operand.tmp 70)], type := 103, pos := "steps.go:59", after := #[{ on := 9, ground := Go.Ground.data }], guard := none }) (by rfl) (fun K hK => ?_) AllReadyH.nil
            go_simp
            refine hK.out _ _ ?_ (fun hHeld => ?_)
            · exact ⟨cell_later (below_alloc _ _) hHeld.1, World.there_alloc hHeld.2 _⟩
            clear hK K
            (try go_frame)
            refine wpAnyH_ready (rs := [11]) (by kernel_rfl) (by simp) ?_
            refine AllReadyH.cons (o := { dst := some 72, op := Go.Op.call { callee := Go.Callee.builtin Go.Builtin.append, args := #[Go.Operand.tmp 65, Go.Operand.tmp 71], argTypes := #[103, 103] }, type := 103, pos := "steps.go:59", after := #[{ on := 4, ground := Go.Ground.data }, { on := 10, ground := Go.Ground.data }], guard := none }) (by rfl) (fun K hK => ?_) AllReadyH.nil
            refine step_append_lies _ rfl (.tmp 65) (.tmp 71) 103 rfl (W1.heap.size + 1) 107 pi (.pointer none) 1 8 Tryz.underlying103 HPI.out HP1.out HP2.out HP3.out rfl (by decide) v k (ptrs bT k) rfl ?_ ⟨wr.heap.size + 1 + 1, 0, none⟩ 1 1 [.pointer (some ⟨wr.heap.size + 1, 0, none⟩)] rfl rfl ?_ (by simp [Value.oneCell']) (by decide) (by unfold maxLen; omega) (by omega) ?_ (wr.heap.size + 1 + 1 + 1) (by simp) ?_
            · exact ((HI.out.2.1.alloc _).alloc _).alloc _
            · exact World.news_of_block (Row.drew (Row.new' (by simp)))
            · simp; omega
            intro g gc w4 hown hgr hat hlt4
            have HO := hide hown
            have HG := hide hgr
            have HA := hide hat
            clear hown hgr hat
            refine hK.out _ _ ?_ (fun hHeld => ?_)
            · exact keepG1 HG.out hHeld hneE hneN
            clear hK K
            (try go_frame)
            refine wpAnyH_take (i := 12) (oi := { dst := some 73, op := Go.Op.nilCheck (Go.Operand.tmp 61), type := 0, pos := "steps.go:59", after := #[{ on := 0, ground := Go.Ground.data }, { on := 0, ground := Go.Ground.phase }, { on := 1, ground := Go.Ground.phase }, { on := 2, ground := Go.Ground.phase }, { on := 3, ground := Go.Ground.phase }, { on := 4, ground := Go.Ground.phase }, { on := 5, ground := Go.Ground.phase }, { on := 6, ground := Go.Ground.phase }, { on := 7, ground := Go.Ground.phase }, { on := 8, ground := Go.Ground.phase }, { on := 9, ground := Go.Ground.phase }, { on := 10, ground := Go.Ground.phase }, { on := 11, ground := Go.Ground.phase }], guard := none }) (v := ?v395) rfl (by kernel_rfl) (by kernel_rfl) (by kernel_rfl) (fun _ _ _ h => h) (Or.inl ⟨by rfl, ?hy395⟩) (by assumption) ?rest395
            case hy395 => (intro w hSw; (try dsimp only at hSw); go_simp; (try with_reducible rfl))
            (try go_frame)
            refine wpAnyH_take (i := 13) (oi := { dst := some 74, op := Go.Op.fieldAddr 105 (Go.Operand.tmp 73) 1, type := 0, pos := "steps.go:59", after := #[{ on := 12, ground := Go.Ground.data }, { on := 0, ground := Go.Ground.phase }, { on := 1, ground := Go.Ground.phase }, { on := 2, ground := Go.Ground.phase }, { on := 3, ground := Go.Ground.phase }, { on := 4, ground := Go.Ground.phase }, { on := 5, ground := Go.Ground.phase }, { on := 6, ground := Go.Ground.phase }, { on := 7, ground := Go.Ground.phase }, { on := 8, ground := Go.Ground.phase }, { on := 9, ground := Go.Ground.phase }, { on := 10, ground := Go.Ground.phase }, { on := 11, ground := Go.Ground.phase }], guard := none }) (v := ?v396) rfl (by kernel_rfl) (by kernel_rfl) (by kernel_rfl) (fun _ _ _ h => h) (Or.inl ⟨by rfl, ?hy396⟩) (by assumption) ?rest396
            case hy396 => (intro w hSw; (try dsimp only at hSw); go_simp; (try with_reducible rfl))
            (try go_frame)
            refine wpAnyH_ready (rs := [14]) (by kernel_rfl) (by simp) ?_
            refine AllReadyH.cons (o := { dst := none, op := Go.Op.store 103 (Go.Operand.tmp 74) (Go.Operand.tmp 72), type := 0, pos := "steps.go:59", after := #[{ on := 13, ground := Go.Ground.data }, { on := 11, ground := Go.Ground.data }, { on := 11, ground := Go.Ground.chain }, { on := 0, ground := Go.Ground.phase }, { on := 1, ground := Go.Ground.phase }, { on := 2, ground := Go.Ground.phase }, { on := 3, ground := Go.Ground.phase }, { on := 4, ground := Go.Ground.phase }, { on := 5, ground := Go.Ground.phase }, { on := 6, ground := Go.Ground.phase }, { on := 7, ground := Go.Ground.phase }, { on := 8, ground := Go.Ground.phase }, { on := 9, ground := Go.Ground.phase }, { on := 10, ground := Go.Ground.phase }, { on := 11, ground := Go.Ground.phase }], guard := none }) (by rfl) (fun K hK => ?_) AllReadyH.nil
            rw [if_pos (by rfl)]
            refine wp_store_one _ _ _ rfl W1.heap.size 7 _ rfl rfl rfl rfl hHeld.2 hsz ?_
            refine hK.out _ _ ?_ (fun hHeld => ?_)
            · exact ⟨(World.cell?_setCell_far _ _ _ _ (by simp; omega)).trans hHeld.1, there_set hHeld.2 _ rfl _⟩
            clear hK K
            (try go_frame)
            refine wpAnyH_done (by kernel_rfl) ?_ _
            (try go_wp2_with fail)
            go_roundw
            case rel => exact ⟨k + 1, _, _, _, by omega, by go_num, RfI.next rfl HI.out (Below.drew (Below.alloc (Below.alloc (below_alloc _ _) (by simp) _) (by simp; omega) _)) (Nat.le_succ _) (Nat.le_refl _) (by omega) (Row.drew (Row.alloc (Row.new' (xs := rthNew n wr.heap.size) (by simp)) _)) (Row.drew (Row.alloc (Row.alloc (Row.new' rfl) _) _)) HO.out HG.out (Or.imp_right (fun h => by rw [h]; simp) HA.out)⟩
            case measure => simp [intOf]; omega
          · go_simp
            refine hK.out _ _ ?_ (fun hHeld => ?_)
            · exact ⟨cell_later (below_alloc _ _) hHeld.1, World.there_alloc hHeld.2 _⟩
            clear hK K
            (try go_frame)
            refine wpAnyH_ready (rs := [4]) (by kernel_rfl) (by simp) ?_
            refine AllReadyH.cons (o := { dst := some 65, op := Go.Op.load 103 (Go.Operand.tmp 64), type := 103, pos := "steps.go:59", after := #[{ on := 3, ground := Go.Ground.data }], guard := none }) (by rfl) (fun K hK => ?_) AllReadyH.nil
            rw [if_pos (by rfl)]
            refine wp_load_one _ _ rfl _ _ v rfl (by kernel_rfl) (by refine cell_later ?_ HCV.out; repeat (first | exact Below.refl _ _ | refine Below.drew ?_ | refine Below.alloc ?_ (by first | (simp; done) | (simp; omega)) _)) ?_
            refine hK.out _ _ ?_ (fun hHeld => ?_)
            · exact hHeld
            clear hK K
            (try go_frame)
            refine wpAnyH_ready (rs := [11]) (by kernel_rfl) (by simp) ?_
            refine AllReadyH.cons (o := { dst := some 72, op := Go.Op.call { callee := Go.Callee.builtin Go.Builtin.append, args := #[Go.Operand.tmp 65, Go.Operand.tmp 71], argTypes := #[103, 103] }, type := 103, pos := "steps.go:59", after := #[{ on := 4, ground := Go.Ground.data }, { on := 10, ground := Go.Ground.data }], guard := none }) (by rfl) (fun K hK => ?_) AllReadyH.nil
            refine step_append_lies _ rfl (.tmp 65) (.tmp 71) 103 rfl (W1.heap.size + 1) 107 pi (.pointer none) 1 8 Tryz.underlying103 HPI.out HP1.out HP2.out HP3.out rfl (by decide) v k (ptrs bT k) rfl ?_ ⟨wr.heap.size + 1 + 1, 0, none⟩ 1 1 [.pointer (some ⟨wr.heap.size + 1, 0, none⟩)] rfl rfl ?_ (by simp [Value.oneCell']) (by decide) (by unfold maxLen; omega) (by omega) ?_ (wr.heap.size + 1 + 1 + 1) (by simp) ?_
            · exact ((HI.out.2.1.alloc _).alloc _).alloc _
            · exact World.news_of_block (Row.drew (Row.new' (by simp)))
            · simp; omega
            intro g gc w4 hown hgr hat hlt4
            have HO := hide hown
            have HG := hide hgr
            have HA := hide hat
            clear hown hgr hat
            refine hK.out _ _ ?_ (fun hHeld => ?_)
            · exact keepG1 HG.out hHeld hneE hneN
            clear hK K
            (try go_frame)
            refine wpAnyH_take (i := 12) (oi := { dst := some 73, op := Go.Op.nilCheck (Go.Operand.tmp 61), type := 0, pos := "steps.go:59", after := #[{ on := 0, ground := Go.Ground.data }, { on := 0, ground := Go.Ground.phase }, { on := 1, ground := Go.Ground.phase }, { on := 2, ground := Go.Ground.phase }, { on := 3, ground := Go.Ground.phase }, { on := 4, ground := Go.Ground.phase }, { on := 5, ground := Go.Ground.phase }, { on := 6, ground := Go.Ground.phase }, { on := 7, ground := Go.Ground.phase }, { on := 8, ground := Go.Ground.phase }, { on := 9, ground := Go.Ground.phase }, { on := 10, ground := Go.Ground.phase }, { on := 11, ground := Go.Ground.phase }], guard := none }) (v := ?v397) rfl (by kernel_rfl) (by kernel_rfl) (by kernel_rfl) (fun _ _ _ h => h) (Or.inl ⟨by rfl, ?hy397⟩) (by assumption) ?rest397
            case hy397 => (intro w hSw; (try dsimp only at hSw); go_simp; (try with_reducible rfl))
            (try go_frame)
            refine wpAnyH_take (i := 13) (oi := { dst := some 74, op := Go.Op.fieldAddr 105 (Go.Operand.tmp 73) 1, type := 0, pos := "steps.go:59", after := #[{ on := 12, ground := Go.Ground.data }, { on := 0, ground := Go.Ground.phase }, { on := 1, ground := Go.Ground.phase }, { on := 2, ground := Go.Ground.phase }, { on := 3, ground := Go.Ground.phase }, { on := 4, ground := Go.Ground.phase }, { on := 5, ground := Go.Ground.phase }, { on := 6, ground := Go.Ground.phase }, { on := 7, ground := Go.Ground.phase }, { on := 8, ground := Go.Ground.phase }, { on := 9, ground := Go.Ground.phase }, { on := 10, ground := Go.Ground.phase }, { on := 11, ground := Go.Ground.phase }], guard := none }) (v := ?v398) rfl (by kernel_rfl) (by kernel_rfl) (by kernel_rfl) (fun _ _ _ h => h) (Or.inl ⟨by rfl, ?hy398⟩) (by assumption) ?rest398
            case hy398 => (intro w hSw; (try dsimp only at hSw); go_simp; (try with_reducible rfl))
            (try go_frame)
            refine wpAnyH_ready (rs := [14]) (by kernel_rfl) (by simp) ?_
            refine AllReadyH.cons (o := { dst := none, op := Go.Op.store 103 (Go.Operand.tmp 74) (Go.Operand.tmp 72), type := 0, pos := "steps.go:59", after := #[{ on := 13, ground := Go.Ground.data }, { on := 11, ground := Go.Ground.data }, { on := 11, ground := Go.Ground.chain }, { on := 0, ground := Go.Ground.phase }, { on := 1, ground := Go.Ground.phase }, { on := 2, ground := Go.Ground.phase }, { on := 3, ground := Go.Ground.phase }, { on := 4, ground := Go.Ground.phase }, { on := 5, ground := Go.Ground.phase }, { on := 6, ground := Go.Ground.phase }, { on := 7, ground := Go.Ground.phase }, { on := 8, ground := Go.Ground.phase }, { on := 9, ground := Go.Ground.phase }, { on := 10, ground := Go.Ground.phase }, { on := 11, ground := Go.Ground.phase }], guard := none }) (by rfl) (fun K hK => ?_) AllReadyH.nil
            rw [if_pos (by rfl)]
            refine wp_store_one _ _ _ rfl W1.heap.size 7 _ rfl rfl rfl rfl hHeld.2 hsz ?_
            refine hK.out _ _ ?_ (fun hHeld => ?_)
            · exact ⟨(World.cell?_setCell_far _ _ _ _ (by simp; omega)).trans hHeld.1, there_set hHeld.2 _ rfl _⟩
            clear hK K
            (try go_frame)
            refine wpAnyH_done (by kernel_rfl) ?_ _
            (try go_wp2_with fail)
            go_roundw
            case rel => exact ⟨k + 1, _, _, _, by omega, by go_num, RfI.next rfl HI.out (Below.drew (Below.alloc (Below.alloc (below_alloc _ _) (by simp) _) (by simp; omega) _)) (Nat.le_succ _) (Nat.le_refl _) (by omega) (Row.drew (Row.alloc (Row.new' (xs := rthNew n wr.heap.size) (by simp)) _)) (Row.drew (Row.alloc (Row.alloc (Row.new' rfl) _) _)) HO.out HG.out (Or.imp_right (fun h => by rw [h]; simp) HA.out)⟩
            case measure => simp [intOf]; omega
    · have hke : k = n := by omega
      subst hke
      have HI := hide hI
      clear hI
      have hlt' : ¬ (k : Int) < (k : Int) := by omega
      go_wp2
      go_ret2
      exact ⟨W1.heap.size, rfl, W1, _, _, v, bT, bF, rfl, HBW.out, HI.out, .inr ⟨rfl, g1, g2, rfl, rfl, by omega, by omega, HW1a.out, HW1b.out⟩⟩

end Go.Proofs.YtefjhnhdagolhaaGreat
