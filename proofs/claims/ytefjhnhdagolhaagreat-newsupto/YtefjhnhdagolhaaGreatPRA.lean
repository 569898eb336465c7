import Derived.Test.YtefjhnhdagolhaaGreatPR
namespace Go.Proofs.YtefjhnhdagolhaaGreat
open Go.RowKit
attribute [local go_sem ↓] Go.wp_at_zero Go.wp_at_succ

/-- What the document's New gives where it gives an object. -/
def RefMade (w : World) (kind : Int) (n : Nat) (cap st co : Int) (nx ou : List Int) (vn vo : Value) (b : Nat) (w' : World) : Prop :=
  ∃ W1 vn' vo' v bT bF, b = W1.heap.size ∧ Below w.heap.size w W1 ∧ RfI W1 n (ccs kind n cap st co vn' vo') v n bT bF w' ∧
    ((kind ≠ 5 ∧ vn' = vn ∧ vo' = vo) ∨ (kind = 5 ∧ ∃ g1 g2, vn' = .slice (some ⟨g1, 0, none⟩) nx.length nx.length ∧ vo' = .slice (some ⟨g2, 0, none⟩) ou.length ou.length ∧ w.heap.size ≤ g1 ∧ w.heap.size ≤ g2 ∧ Row W1 g1 3 (ints nx) ∧ Row W1 g2 3 (ints ou)))

theorem info_pthread : (Tryz.prog.info? 107).map (fun i => (i.zero, i.size, i.bytes)) = some (some (.pointer none), 1, 8) := by kernel_rfl

set_option maxHeartbeats 2000000 in
theorem refNew_one (cap st co : Int) (nx ou : List Int) (vn vo : Value) (w : World) (kind th : Int) (h : ¬ (1 ≤ kind ∧ kind ≤ 5 ∧ 1 ≤ th ∧ th ≤ 64 ∧ 0 ≤ cap ∧ cap ≤ 64)) :
    Calls Tryz.prog 41 #[.agg #[.int .i64 kind, .int .i64 th, .int .i64 cap, .int .i64 st, .int .i64 co, vn, vo]] w fun e w' => e = .returned (.tuple #[.pointer none, .int .i64 (cfgErr kind th cap st co nx ou)]) ∧ Below w.heap.size w w' := by
  rw [cfgErr_one h]
  by_cases c0 : kind < 1
  · clear h
    go_enter Tryz.func41, Tryz.ntmps41
    go_wp2
    go_ret2
    exact ⟨rfl, (by repeat (first | exact Below.refl _ _ | assumption | refine Below.drewN ?_ _ | refine Below.alloc ?_ (by simp) _))⟩
  by_cases c1 : 5 < kind
  · clear h
    go_enter Tryz.func41, Tryz.ntmps41
    go_wp2
    go_ret2
    exact ⟨rfl, (by repeat (first | exact Below.refl _ _ | assumption | refine Below.drewN ?_ _ | refine Below.alloc ?_ (by simp) _))⟩
  by_cases c2 : th < 1
  · clear h
    go_enter Tryz.func41, Tryz.ntmps41
    go_wp2
    go_ret2
    exact ⟨rfl, (by repeat (first | exact Below.refl _ _ | assumption | refine Below.drewN ?_ _ | refine Below.alloc ?_ (by simp) _))⟩
  by_cases c3 : 64 < th
  · clear h
    go_enter Tryz.func41, Tryz.ntmps41
    go_wp2
    go_ret2
    exact ⟨rfl, (by repeat (first | exact Below.refl _ _ | assumption | refine Below.drewN ?_ _ | refine Below.alloc ?_ (by simp) _))⟩
  by_cases c4 : cap < 0
  · clear h
    go_enter Tryz.func41, Tryz.ntmps41
    go_wp2
    go_ret2
    exact ⟨rfl, (by repeat (first | exact Below.refl _ _ | assumption | refine Below.drewN ?_ _ | refine Below.alloc ?_ (by simp) _))⟩
  by_cases c5 : 64 < cap
  · clear h
    go_enter Tryz.func41, Tryz.ntmps41
    go_wp2
    go_ret2
    exact ⟨rfl, (by repeat (first | exact Below.refl _ _ | assumption | refine Below.drewN ?_ _ | refine Below.alloc ?_ (by simp) _))⟩
  exact absurd ⟨by omega, by omega, by omega, by omega, by omega, by omega⟩ h

set_option maxHeartbeats 2000000 in
theorem refNew_two (cap st co : Int) (nx ou : List Int) (vn vo : Value) (w : World) (hn : Sl w vn (ints nx)) (ho : Sl w vo (ints ou)) (th : Int) (h : 1 ≤ th ∧ th ≤ 64 ∧ 0 ≤ cap ∧ cap ≤ 64) (ht : tableOk st co nx ou = false) :
    Calls Tryz.prog 41 #[.agg #[.int .i64 5, .int .i64 th, .int .i64 cap, .int .i64 st, .int .i64 co, vn, vo]] w fun e w' => e = .returned (.tuple #[.pointer none, .int .i64 2]) ∧ Below w.heap.size w w' := by
  obtain ⟨c1, c2, c3, c4⟩ := h
  have hc := fun W hW => refTable_any st co nx ou vn vo W (hn.below hW) (ho.below hW)
  rw [ht] at hc
  have HC := hide hc
  clear hc hn ho ht
  go_enter Tryz.func41, Tryz.ntmps41
  go_wp2_with fail
  refine (HC.out _ (below_alloc _ _)).mono ?_
  rintro e w1 ⟨rfl, hb1⟩
  go_wp2_with fail
  go_ret2
  exact ⟨rfl, Below.next (below_alloc _ _) hb1 (by simp)⟩

set_option maxRecDepth 20000 in
set_option maxHeartbeats 4000000 in
theorem refNew_plain (cap st co : Int) (nx ou : List Int) (vn vo : Value) (w : World) (kind : Int) (n : Nat) (k1 : 1 ≤ kind) (k2 : kind ≤ 4) (h1 : 1 ≤ n) (h2 : n ≤ 64) (h3 : 0 ≤ cap) (h4 : cap ≤ 64) :
    Calls Tryz.prog 41 #[.agg #[.int .i64 kind, .int .i64 (n : Int), .int .i64 cap, .int .i64 st, .int .i64 co, vn, vo]] w fun e w' => ∃ b, e = .returned (.tuple #[.pointer (some ⟨b, 0, none⟩), .int .i64 0]) ∧ RefMade w kind n cap st co nx ou vn vo b w' := by
  obtain ⟨pi, hpi, hpz⟩ := Option.map_eq_some_iff.1 info_pthread
  simp only [Prod.mk.injEq] at hpz
  obtain ⟨hp1, hp2, hp3⟩ := hpz
  have HPI := hide hpi
  have HP1 := hide hp1
  have HP2 := hide hp2
  have HP3 := hide hp3
  clear hpi hp1 hp2 hp3
  have hmk := run_make_zeros (P := Tryz.prog) 22 3 (.int .i64 0) 8 Tryz.underlying22 info_int rfl (n : Int) n rfl (by omega) (by omega)
  have c1 : ¬ kind < 1 := by omega
  have c2 : ¬ 5 < kind := by omega
  have c3 : (kind != 5) = true := by rw [bne_iff_ne]; omega
  have c4 : (kind == 5) = false := beq_eq_false_iff_ne.2 (by omega)
  go_enter Tryz.func41, Tryz.ntmps41
  go_upto_region 10 with fail
  generalize hW1 : World.alloc w _ = W1
  have HBW := hide (show Below w.heap.size w W1 by rw [← hW1]; exact below_alloc w _)
  have hs1 : w.heap.size + 1 ≤ W1.heap.size := by rw [← hW1]; simp
  have HRN := hide (show Row W1 w.heap.size 26 (ccs kind n cap st co vn vo) by rw [← hW1]; exact Row.new' rfl)
  have q0 : W1.cell? ⟨w.heap.size, 0, none⟩ = some (.int .i64 kind) := HRN.out.cell_of rfl
  have q1 : W1.cell? ⟨w.heap.size, 1, none⟩ = some (.int .i64 (n : Int)) := HRN.out.cell_of rfl
  have q2 : W1.cell? ⟨w.heap.size, 2, none⟩ = some (.int .i64 cap) := HRN.out.cell_of rfl
  have q3 : W1.cell? ⟨w.heap.size, 3, none⟩ = some (.int .i64 st) := HRN.out.cell_of rfl
  have q4 : W1.cell? ⟨w.heap.size, 4, none⟩ = some (.int .i64 co) := HRN.out.cell_of rfl
  have q5 : W1.cell? ⟨w.heap.size, 5, none⟩ = some vn := HRN.out.cell_of rfl
  have q6 : W1.cell? ⟨w.heap.size, 6, none⟩ = some vo := HRN.out.cell_of rfl
  clear hW1
  have hI0 : RfI W1 n (ccs kind n cap st co vn vo) (.slice none 0 0) 0 (fun _ => 0) (fun _ => 0) (W1.alloc (.cells (ccs kind n cap st co vn vo ++ [Value.slice none 0 0, .slice none 0 0]).toArray 105)) :=
    ⟨Row.new' rfl, World.ownsRow_nil _ _ _ _, fun t ht => absurd ht (by omega), fun s t _ h => absurd h (by omega), below_alloc _ _⟩
  have HI0 := hide hI0
  clear hI0
  go_wp2_with fail
  go_loopw [6] (fun i w' => ∃ k v bT bF, k ≤ n ∧ i = .int .i64 (k : Int) ∧ RfI W1 n (ccs kind n cap st co vn vo) v k bT bF w') (fun i _ => n - (intOf i).toNat)
  case atStart => exact ⟨0, _, _, _, Nat.zero_le _, rfl, HI0.out⟩
  case round =>
    obtain ⟨k, v, bT, bF, hk, rfl, hI⟩ := hrel
    have hcN : wr.cell? ⟨w.heap.size, 1, none⟩ = some (.int .i64 (n : Int)) := cell_later hI.2.2.2.2 (HRN.out.cell_of rfl)
    by_cases hlt : k < n
    · have hlt' : (k : Int) < (n : Int) := by omega
      have hcv : wr.cell? ⟨W1.heap.size, 7, none⟩ = some v := hI.1.cell_of rfl
      have hth : wr.there W1.heap.size 7 1 := hI.1.there (by simp [ccs])
      have hvlt := hI.2.1.lt
      have hzI := hI.1.lt
      have hneE : some W1.heap.size ≠ v.ownBlock := fun e => by have := (hvlt _ e.symm).1; omega
      have hneN : some w.heap.size ≠ v.ownBlock := fun e => by have := (hvlt _ e.symm).1; omega
      have hsz : (Tryz.prog.info? 103).map (·.size) = some 1 := by kernel_rfl
      have HI := hide hI
      have HCV := hide hcv
      clear hI hcv hvlt
      go_wp2
      refine wp_region_held_drew (S := (fun w' => w'.cell? ⟨w.heap.size, 1, none⟩ = some (.int .i64 (n : Int)) ∧ w'.there W1.heap.size 7 1)) (by kernel_rfl) ?_ (fun hHeld => ?_)
      · exact ⟨hcN, hth⟩
      refine wpAnyH_take (i := 0) (oi := { dst := some 61, op := Go.Op.move (Go.Operand.tmp 5), type := 82, pos := "steps.go:59", after := #[], guard := none }) (v := ?v367) rfl (by kernel_rfl) (by kernel_rfl) (by kernel_rfl) (fun _ _ _ h => h) (Or.inl ⟨by rfl, ?hy367⟩) (by assumption) ?rest367
      case hy367 => (intro w hSw; (try dsimp only at hSw); go_simp; (try with_reducible rfl))
      (try go_frame)
      refine wpAnyH_take (i := 1) (oi := { dst := some 62, op := Go.Op.move (Go.Operand.tmp 5), type := 82, pos := "steps.go:59", after := #[], guard := none }) (v := ?v368) rfl (by kernel_rfl) (by kernel_rfl) (by kernel_rfl) (fun _ _ _ h => h) (Or.inl ⟨by rfl, ?hy368⟩) (by assumption) ?rest368
      case hy368 => (intro w hSw; (try dsimp only at hSw); go_simp; (try with_reducible rfl))
      (try go_frame)
      refine wpAnyH_take (i := 2) (oi := { dst := some 63, op := Go.Op.nilCheck (Go.Operand.tmp 62), type := 0, pos := "steps.go:59", after := #[{ on := 1, ground := Go.Ground.data }], guard := none }) (v := ?v369) rfl (by kernel_rfl) (by kernel_rfl) (by kernel_rfl) (fun _ _ _ h => h) (Or.inl ⟨by rfl, ?hy369⟩) (by assumption) ?rest369
      case hy369 => (intro w hSw; (try dsimp only at hSw); go_simp; (try with_reducible rfl))
      (try go_frame)
      refine wpAnyH_take (i := 3) (oi := { dst := some 64, op := Go.Op.fieldAddr 105 (Go.Operand.tmp 63) 1, type := 0, pos := "steps.go:59", after := #[{ on := 2, ground := Go.Ground.data }], guard := none }) (v := ?v370) rfl (by kernel_rfl) (by kernel_rfl) (by kernel_rfl) (fun _ _ _ h => h) (Or.inl ⟨by rfl, ?hy370⟩) (by assumption) ?rest370
      case hy370 => (intro w hSw; (try dsimp only at hSw); go_simp; (try with_reducible rfl))
      (try go_frame)
      refine wpAnyH_take (i := 5) (oi := { dst := some 66, op := Go.Op.fieldAddr 26 (Go.Operand.tmp 1) 1, type := 0, pos := "steps.go:59", after := #[], guard := none }) (v := ?v371) rfl (by kernel_rfl) (by kernel_rfl) (by kernel_rfl) (fun _ _ _ h => h) (Or.inl ⟨by rfl, ?hy371⟩) (by assumption) ?rest371
      case hy371 => (intro w hSw; (try dsimp only at hSw); go_simp; (try with_reducible rfl))
      (try go_frame)
      refine wpAnyH_take (i := 6) (oi := { dst := some 67, op := Go.Op.load 3 (Go.Operand.tmp 66), type := 3, pos := "steps.go:59", after := #[{ on := 5, ground := Go.Ground.data }], guard := none }) (v := ?v372) rfl (by kernel_rfl) (by kernel_rfl) (by kernel_rfl) (fun _ _ _ h => h) (Or.inl ⟨by rfl, ?hy372⟩) (by assumption) ?rest372
      case hy372 => (intro w hSw; (try dsimp only at hSw); go_simp; (try with_reducible rfl))
      (try go_frame)
      refine wpAnyH_ready (rs := [4, 7]) (by kernel_rfl) (by simp) ?_
      refine AllReadyH.cons (o := { dst := some 65, op := Go.Op.load 103 (Go.Operand.tmp 64), type := 103, pos := "steps.go:59", after := #[{ on := 3, ground := Go.Ground.data }], guard := none }) (by rfl) (fun K hK => ?_) (AllReadyH.cons (o := { dst := some 68, op := Go.Op.makeSlice 22 (Go.Operand.tmp 67) (Go.Operand.tmp 67), type := 22, pos := "steps.go:59", after := #[{ on := 6, ground := Go.Ground.data }, { on := 6, ground := Go.Ground.data }], guard := none }) (by rfl) (fun K hK => ?_) AllReadyH.nil)
      · rw [if_pos (by rfl)]
        refine wp_load_one _ _ rfl _ _ v rfl (by kernel_rfl) (by refine cell_later ?_ HCV.out; repeat (first | exact Below.refl _ _ | refine Below.drew ?_ | refine Below.alloc ?_ (by first | (simp; done) | (simp; omega)) _)) ?_
        refine hK.out _ _ ?_ (fun hHeld => ?_)
        · exact hHeld
        clear hK K
        (try go_frame)
        refine wpAnyH_ready (rs := [7]) (by kernel_rfl) (by simp) ?_
        refine AllReadyH.cons (o := { dst := some 68, op := Go.Op.makeSlice 22 (Go.Operand.tmp 67) (Go.Operand.tmp 67), type := 22, pos := "steps.go:59", after := #[{ on := 6, ground := Go.Ground.data }, { on := 6, ground := Go.Ground.data }], guard := none }) (by rfl) (fun K hK => ?_) AllReadyH.nil
        go_simp
        refine hK.out _ _ ?_ (fun hHeld => ?_)
        · exact ⟨cell_later (below_alloc _ _) hHeld.1, World.there_alloc hHeld.2 _⟩
        clear hK K
        (try go_frame)
        refine wpAnyH_take (i := 8) (oi := { dst := some 69, op := Go.Op.build 109 #[(8, Go.Operand.tmp 68)], type := 109, pos := "steps.go:59", after := #[{ on := 7, ground := Go.Ground.data }], guard := none }) (v := ?v373) rfl (by kernel_rfl) (by kernel_rfl) (by kernel_rfl) (fun _ _ _ h => h) (Or.inl ⟨by rfl, ?hy373⟩) (by assumption) ?rest373
        case hy373 => (intro w hSw; (try dsimp only at hSw); go_simp; (try with_reducible rfl))
        (try go_frame)
        refine wpAnyH_ready (rs := [9]) (by kernel_rfl) (by simp) ?_
        refine AllReadyH.cons (o := { dst := some 70, op := Go.Op.box 109 (Go.Operand.tmp 69), type := 107, pos := "steps.go:59", after := #[{ on := 8, ground := Go.Ground.data }], guard := none }) (by rfl) (fun K hK => ?_) AllReadyH.nil
        go_simp
        refine hK.out _ _ ?_ (fun hHeld => ?_)
        · exact ⟨cell_later (below_alloc _ _) hHeld.1, World.there_alloc hHeld.2 _⟩
        clear hK K
        (try go_frame)
        refine wpAnyH_ready (rs := [10]) (by kernel_rfl) (by simp) ?_
        refine AllReadyH.cons (o := { dst := some 71, op := Go.Op.buildSlice 103 1 #[(0, Go.Operand.tmp 70)], type := 103, pos := "steps.go:59", after := #[{ on := 9, ground := Go.Ground.data }], guard := none }) (by rfl) (fun K hK => ?_) AllReadyH.nil
        go_simp
        refine hK.out _ _ ?_ (fun hHeld => ?_)
        · exact ⟨cell_later (below_alloc _ _) hHeld.1, World.there_alloc hHeld.2 _⟩
        clear hK K
        (try go_frame)
        refine wpAnyH_ready (rs := [11]) (by kernel_rfl) (by simp) ?_
        refine AllReadyH.cons (o := { dst := some 72, op := Go.Op.call { callee := Go.Callee.builtin Go.Builtin.append, args := #[Go.Operand.tmp 65, Go.Operand.tmp 71], argTypes := #[103, 103] }, type := 103, pos := "steps.go:59", after := #[{ on := 4, ground := Go.Ground.data }, { on := 10, ground := Go.Ground.data }], guard := none }) (by rfl) (fun K hK => ?_) AllReadyH.nil
        refine step_append_lies _ rfl (.tmp 65) (.tmp 71) 103 rfl (W1.heap.size + 1) 107 pi (.pointer none) 1 8 Tryz.underlying103 HPI.out HP1.out HP2.out HP3.out rfl (by decide) v k (ptrs bT k) rfl ?_ ⟨wr.heap.size + 1 + 1, 0, none⟩ 1 1 [.pointer (some ⟨wr.heap.size + 1, 0, none⟩)] rfl rfl ?_ (by simp [Value.oneCell']) (by decide) (by unfold maxLen; omega) (by omega) ?_ (wr.heap.size + 1 + 1 + 1) (by simp) ?_
        · exact ((HI.out.2.1.alloc _).alloc _).alloc _
        · exact World.news_of_block (Row.drew (Row.new' (by simp)))
        · simp; omega
        intro g gc w4 hown hgr hat hlt4
        have HO := hide hown
        have HG := hide hgr
        have HA := hide hat
        clear hown hgr hat
        refine hK.out _ _ ?_ (fun hHeld => ?_)
        · exact keepG1 HG.out hHeld hneE hneN
        clear hK K
        (try go_frame)
        refine wpAnyH_take (i := 12) (oi := { dst := some 73, op := Go.Op.nilCheck (Go.Operand.tmp 61), type := 0, pos := "steps.go:59", after := #[{ on := 0, ground := Go.Ground.data }, { on := 0, ground := Go.Ground.phase }, { on := 1, ground := Go.Ground.phase }, { on := 2, ground := Go.Ground.phase }, { on := 3, ground := Go.Ground.phase }, { on := 4, ground := Go.Ground.phase }, { on := 5, ground := Go.Ground.phase }, { on := 6, ground := Go.Ground.phase }, { on := 7, ground := Go.Ground.phase }, { on := 8, ground := Go.Ground.phase }, { on := 9, ground := Go.Ground.phase }, { on := 10, ground := Go.Ground.phase }, { on := 11, ground := Go.Ground.phase }], guard := none }) (v := ?v374) rfl (by kernel_rfl) (by kernel_rfl) (by kernel_rfl) (fun _ _ _ h => h) (Or.inl ⟨by rfl, ?hy374⟩) (by assumption) ?rest374
        case hy374 => (intro w hSw; (try dsimp only at hSw); go_simp; (try with_reducible rfl))
        (try go_frame)
        refine wpAnyH_take (i := 13) (oi := { dst := some 74, op := Go.Op.fieldAddr 105 (Go.Operand.tmp 73) 1, type := 0, pos := "steps.go:59", after := #[{ on := 12, ground := Go.Ground.data }, { on := 0, ground := Go.Ground.phase }, { on := 1, ground := Go.Ground.phase }, { on := 2, ground := Go.Ground.phase }, { on := 3, ground := Go.Ground.phase }, { on := 4, ground := Go.Ground.phase }, { on := 5, ground := Go.Ground.phase }, { on := 6, ground := Go.Ground.phase }, { on := 7, ground := Go.Ground.phase }, { on := 8, ground := Go.Ground.phase }, { on := 9, ground := Go.Ground.phase }, { on := 10, ground := Go.Ground.phase }, { on := 11, ground := Go.Ground.phase }], guard := none }) (v := ?v375) rfl (by kernel_rfl) (by kernel_rfl) (by kernel_rfl) (fun _ _ _ h => h) (Or.inl ⟨by rfl, ?hy375⟩) (by assumption) ?rest375
        case hy375 => (intro w hSw; (try dsimp only at hSw); go_simp; (try with_reducible rfl))
        (try go_frame)
        refine wpAnyH_ready (rs := [14]) (by kernel_rfl) (by simp) ?_
        refine AllReadyH.cons (o := { dst := none, op := Go.Op.store 103 (Go.Operand.tmp 74) (Go.Operand.tmp 72), type := 0, pos := "steps.go:59", after := #[{ on := 13, ground := Go.Ground.data }, { on := 11, ground := Go.Ground.data }, { on := 11, ground := Go.Ground.chain }, { on := 0, ground := Go.Ground.phase }, { on := 1, ground := Go.Ground.phase }, { on := 2, ground := Go.Ground.phase }, { on := 3, ground := Go.Ground.phase }, { on := 4, ground := Go.Ground.phase }, { on := 5, ground := Go.Ground.phase }, { on := 6, ground := Go.Ground.phase }, { on := 7, ground := Go.Ground.phase }, { on := 8, ground := Go.Ground.phase }, { on := 9, ground := Go.Ground.phase }, { on := 10, ground := Go.Ground.phase }, { on := 11, ground := Go.Ground.phase }], guard := none }) (by rfl) (fun K hK => ?_) AllReadyH.nil
        rw [if_pos (by rfl)]
        refine wp_store_one _ _ _ rfl W1.heap.size 7 _ rfl rfl rfl rfl hHeld.2 hsz ?_
        refine hK.out _ _ ?_ (fun hHeld => ?_)
        · exact ⟨(World.cell?_setCell_far _ _ _ _ (by simp; omega)).trans hHeld.1, there_set hHeld.2 _ rfl _⟩
        clear hK K
        (try go_frame)
        refine wpAnyH_done (by kernel_rfl) ?_ _
        (try go_wp2_with fail)
        go_roundw
        case rel => exact ⟨k + 1, _, _, _, by omega, by go_num, RfI.next rfl HI.out (Below.drew (Below.alloc (Below.alloc (below_alloc _ _) (by simp) _) (by simp; omega) _)) (Nat.le_succ _) (Nat.le_refl _) (by omega) (Row.drew (Row.alloc (Row.new' (xs := rthNew n wr.heap.size) (by simp)) _)) (Row.drew (Row.alloc (Row.alloc (Row.new' rfl) _) _)) HO.out HG.out (Or.imp_right (fun h => by rw [h]; simp) HA.out)⟩
        case measure => simp [intOf]; omega
      · go_simp
        refine hK.out _ _ ?_ (fun hHeld => ?_)
        · exact ⟨cell_later (below_alloc _ _) hHeld.1, World.there_alloc hHeld.2 _⟩
        clear hK K
        (try go_frame)
        refine wpAnyH_take (i := 8) (oi := { dst := some 69, op := Go.Op.build 109 #[(8, Go.Operand.tmp 68)], type := 109, pos := "steps.go:59", after := #[{ on := 7, ground := Go.Ground.data }], guard := none }) (v := ?v376) rfl (by kernel_rfl) (by kernel_rfl) (by kernel_rfl) (fun _ _ _ h => h) (Or.inl ⟨by rfl, ?hy376⟩) (by assumption) ?rest376
        case hy376 => (intro w hSw; (try dsimp only at hSw); go_simp; (try with_reducible rfl))
        (try go_frame)
        refine wpAnyH_ready (rs := [4, 9]) (by kernel_rfl) (by simp) ?_
        refine AllReadyH.cons (o := { dst := some 65, op := Go.Op.load 103 (Go.Operand.tmp 64), type := 103, pos := "steps.go:59", after := #[{ on := 3, ground := Go.Ground.data }], guard := none }) (by rfl) (fun K hK => ?_) (AllReadyH.cons (o := { dst := some 70, op := Go.Op.box 109 (Go.Operand.tmp 69), type := 107, pos := "steps.go:59", after := #[{ on := 8, ground := Go.Ground.data }], guard := none }) (by rfl) (fun K hK => ?_) AllReadyH.nil)
        · rw [if_pos (by rfl)]
          refine wp_load_one _ _ rfl _ _ v rfl (by kernel_rfl) (by refine cell_later ?_ HCV.out; repeat (first | exact Below.refl _ _ | refine Below.drew ?_ | refine Below.alloc ?_ (by first | (simp; done) | (simp; omega)) _)) ?_
          refine hK.out _ _ ?_ (fun hHeld => ?_)
          · exact hHeld
          clear hK K
          (try go_frame)
          refine wpAnyH_ready (rs := [9]) (by kernel_rfl) (by simp) ?_
          refine AllReadyH.cons (o := { dst := some 70, op := Go.Op.box 109 (Go.Operand.tmp 69), type := 107, pos := "steps.go:59", after := #[{ on := 8, ground := Go.Ground.data }], guard := none }) (by rfl) (fun K hK => ?_) AllReadyH.nil
          go_simp
          refine hK.out _ _ ?_ (fun hHeld => ?_)
          · exact ⟨cell_later (below_alloc _ _) hHeld.1, World.there_alloc hHeld.2 _⟩
          clear hK K
          (try go_frame)
          refine wpAnyH_ready (rs := [10]) (by kernel_rfl) (by simp) ?_
          refine AllReadyH.cons (o := { dst := some 71, op := Go.Op.buildSlice 103 1 #[(0, Go.Operand.tmp 70)], type := 103, pos := "steps.go:59", after := #[{ on := 9, ground := Go.Ground.data }], guard := none }) (by rfl) (fun K hK => ?_) AllReadyH.nil
          go_simp
          refine hK.out _ _ ?_ (fun hHeld => ?_)
          · exact ⟨cell_later (below_alloc _ _) hHeld.1, World.there_alloc hHeld.2 _⟩
          clear hK K
          (try go_frame)
          refine wpAnyH_ready (rs := [11]) (by kernel_rfl) (by simp) ?_
          refine AllReadyH.cons (o := { dst := some 72, op := Go.Op.call { callee := Go.Callee.builtin Go.Builtin.append, args := #[Go.Operand.tmp 65, Go.Operand.tmp 71], argTypes := #[103, 103] }, type := 103, pos := "steps.go:59", after := #[{ on := 4, ground := Go.Ground.data }, { on := 10, ground := Go.Ground.data }], guard := none }) (by rfl) (fun K hK => ?_) AllReadyH.nil
          refine step_append_lies _ rfl (.tmp 65) (.tmp 71) 103 rfl (W1.heap.size + 1) 107 pi (.pointer none) 1 8 Tryz.underlying103 HPI.out HP1.out HP2.out HP3.out rfl (by decide) v k (ptrs bT k) rfl ?_ ⟨wr.heap.size + 1 + 1, 0, none⟩ 1 1 [.pointer (some ⟨wr.heap.size + 1, 0, none⟩)] rfl rfl ?_ (by simp [Value.oneCell']) (by decide) (by unfold maxLen; omega) (by omega) ?_ (wr.heap.size + 1 + 1 + 1) (by simp) ?_
          · exact ((HI.out.2.1.alloc _).alloc _).alloc _
          · exact World.news_of_block (Row.drew (Row.new' (by simp)))
          · simp; omega
          intro g gc w4 hown hgr hat hlt4
          have HO := hide hown
          have HG := hide hgr
          have HA := hide hat
          clear hown hgr hat
          refine hK.out _ _ ?_ (fun hHeld => ?_)
          · exact keepG1 HG.out hHeld hneE hneN
          clear hK K
          (try go_frame)
          refine wpAnyH_take (i := 12) (oi := { dst := some 73, op := Go.Op.nilCheck (Go.Operand.tmp 61), type := 0, pos := "steps.go:59", after := #[{ on := 0, ground := Go.Ground.data }, { on := 0, ground := Go.Ground.phase }, { on := 1, ground := Go.Ground.phase }, { on := 2, ground := Go.Ground.phase }, { on := 3, ground := Go.Ground.phase }, { on := 4, ground := Go.Ground.phase }, { on := 5, ground := Go.Ground.phase }, { on := 6, ground := Go.Ground.phase }, { on := 7, ground := Go.Ground.phase }, { on := 8, ground := Go.Ground.phase }, { on := 9, ground := Go.Ground.phase }, { on := 10, ground := Go.Ground.phase }, { on := 11, ground := Go.Ground.phase }], guard := none }) (v := ?v377) rfl (by kernel_rfl) (by kernel_rfl) (by kernel_rfl) (fun _ _ _ h => h) (Or.inl ⟨by rfl, ?hy377⟩) (by assumption) ?rest377
          case hy377 => (intro w hSw; (try dsimp only at hSw); go_simp; (try with_reducible rfl))
          (try go_frame)
          refine wpAnyH_take (i := 13) (oi := { dst := some 74, op := Go.Op.fieldAddr 105 (Go.Operand.tmp 73) 1, type := 0, pos := "steps.go:59", after := #[{ on := 12, ground := Go.Ground.data }, { on := 0, ground := Go.Ground.phase }, { on := 1, ground := Go.Ground.phase }, { on := 2, ground := Go.Ground.phase }, { on := 3, ground := Go.Ground.phase }, { on := 4, ground := Go.Ground.phase }, { on := 5, ground := Go.Ground.phase }, { on := 6, ground := Go.Ground.phase }, { on := 7, ground := Go.Ground.phase }, { on := 8, ground := Go.Ground.phase }, { on := 9, ground := Go.Ground.phase }, { on := 10, ground := Go.Ground.phase }, { on := 11, ground := Go.Ground.phase }], guard := none }) (v := ?v378) rfl (by kernel_rfl) (by kernel_rfl) (by kernel_rfl) (fun _ _ _ h => h) (Or.inl ⟨by rfl, ?hy378⟩) (by assumption) ?rest378
          case hy378 => (intro w hSw; (try dsimp only at hSw); go_simp; (try with_reducible rfl))
          (try go_frame)
          refine wpAnyH_ready (rs := [14]) (by kernel_rfl) (by simp) ?_
          refine AllReadyH.cons (o := { dst := none, op := Go.Op.store 103 (Go.Operand.tmp 74) (Go.Operand.tmp 72), type := 0, pos := "steps.go:59", after := #[{ on := 13, ground := Go.Ground.data }, { on := 11, ground := Go.Ground.data }, { on := 11, ground := Go.Ground.chain }, { on := 0, ground := Go.Ground.phase }, { on := 1, ground := Go.Ground.phase }, { on := 2, ground := Go.Ground.phase }, { on := 3, ground := Go.Ground.phase }, { on := 4, ground := Go.Ground.phase }, { on := 5, ground := Go.Ground.phase }, { on := 6, ground := Go.Ground.phase }, { on := 7, ground := Go.Ground.phase }, { on := 8, ground := Go.Ground.phase }, { on := 9, ground := Go.Ground.phase }, { on := 10, ground := Go.Ground.phase }, { on := 11, ground := Go.Ground.phase }], guard := none }) (by rfl) (fun K hK => ?_) AllReadyH.nil
          rw [if_pos (by rfl)]
          refine wp_store_one _ _ _ rfl W1.heap.size 7 _ rfl rfl rfl rfl hHeld.2 hsz ?_
          refine hK.out _ _ ?_ (fun hHeld => ?_)
          · exact ⟨(World.cell?_setCell_far _ _ _ _ (by simp; omega)).trans hHeld.1, there_set hHeld.2 _ rfl _⟩
          clear hK K
          (try go_frame)
          refine wpAnyH_done (by kernel_rfl) ?_ _
          (try go_wp2_with fail)
          go_roundw
          case rel => exact ⟨k + 1, _, _, _, by omega, by go_num, RfI.next rfl HI.out (Below.drew (Below.alloc (Below.alloc (below_alloc _ _) (by simp) _) (by simp; omega) _)) (Nat.le_succ _) (Nat.le_refl _) (by omega) (Row.drew (Row.alloc (Row.new' (xs := rthNew n wr.heap.size) (by simp)) _)) (Row.drew (Row.alloc (Row.alloc (Row.new' rfl) _) _)) HO.out HG.out (Or.imp_right (fun h => by rw [h]; simp) HA.out)⟩
          case measure => simp [intOf]; omega
        · go_simp
          refine hK.out _ _ ?_ (fun hHeld => ?_)
          · exact ⟨cell_later (below_alloc _ _) hHeld.1, World.there_alloc hHeld.2 _⟩
          clear hK K
          (try go_frame)
          refine wpAnyH_ready (rs := [4, 10]) (by kernel_rfl) (by simp) ?_
          refine AllReadyH.cons (o := { dst := some 65, op := Go.Op.load 103 (Go.Operand.tmp 64), type := 103, pos := "steps.go:59", after := #[{ on := 3, ground := Go.Ground.data }], guard := none }) (by rfl) (fun K hK => ?_) (AllReadyH.cons (o := { dst := some 71, op := Go.Op.buildSlice 103 1 #[(0, Go.Operand.tmp 70)], type := 103, pos := "steps.go:59", after := #[{ on := 9, ground := Go.Ground.data }], guard := none }) (by rfl) (fun K hK => ?_) AllReadyH.nil)
          · rw [if_pos (by rfl)]
            refine wp_load_one _ _ rfl _ _ v rfl (by kernel_rfl) (by refine cell_later ?_ HCV.out; repeat (first | exact Below.refl _ _ | refine Below.drew ?_ | refine Below.alloc ?_ (by first | (simp; done) | (simp; omega)) _)) ?_
            refine hK.out _ _ ?_ (fun hHeld => ?_)
            · exact hHeld
            clear hK K
            (try go_frame)
            refine wpAnyH_ready (rs := [10]) (by kernel_rfl) (by simp) ?_
            refine AllReadyH.cons (o := { dst := some 71, op := Go.Op.buildSlice 103 1 #[(0, Go.Operand.tmp 70)], type := 103, pos := "steps.go:59", after := #[{ on := 9, ground := Go.Ground.data }], guard := none }) (by rfl) (fun K hK => ?_) AllReadyH.nil
            go_simp
            refine hK.out _ _ ?_ (fun hHeld => ?_)
            · exact ⟨cell_later (below_alloc _ _) hHeld.1, World.there_alloc hHeld.2 _⟩
            clear hK K
            (try go_frame)
            refine wpAnyH_ready (rs := [11]) (by kernel_rfl) (by simp) ?_
            refine AllReadyH.cons (o := { dst := some 72, op := Go.Op.call { callee := Go.Callee.builtin Go.Builtin.append, args := #[Go.Operand.tmp 65, Go.Operand.tmp 71], argTypes := #[103, 103] }, type := 103, pos := "steps.go:59", after := #[{ on := 4, ground := Go.Ground.data }, { on := 10, ground := Go.Ground.data }], guard := none }) (by rfl) (fun K hK => ?_) AllReadyH.nil
            refine step_append_lies _ rfl (.tmp 65) (.tmp 71) 103 rfl (W1.heap.size + 1) 107 pi (.pointer none) 1 8 Tryz.underlying103 HPI.out HP1.out HP2.out HP3.out rfl (by decide) v k (ptrs bT k) rfl ?_ ⟨wr.heap.size + 1 + 1, 0, none⟩ 1 1 [.pointer (some ⟨wr.heap.size + 1, 0, none⟩)] rfl rfl ?_ (by simp [Value.oneCell']) (by decide) (by unfold maxLen; omega) (by omega) ?_ (wr.heap.size + 1 + 1 + 1) (by simp) ?_
            · exact ((HI.out.2.1.alloc _).alloc _).alloc _
            · exact World.news_of_block (Row.drew (Row.new' (by simp)))
            · simp; omega
            intro g gc w4 hown hgr hat hlt4
            have HO := hide hown
            have HG := hide hgr
            have HA := hide hat
            clear hown hgr hat
            refine hK.out _ _ ?_ (fun hHeld => ?_)
            · exact keepG1 HG.out hHeld hneE hneN
            clear hK K
            (try go_frame)
            refine wpAnyH_take (i := 12) (oi := { dst := some 73, op := Go.Op.nilCheck (Go.Operand.tmp 61), type := 0, pos := "steps.go:59", after := #[{ on := 0, ground := Go.Ground.data }, { on := 0, ground := Go.Ground.phase }, { on := 1, ground := Go.Ground.phase }, { on := 2, ground := Go.Ground.phase }, { on := 3, ground := Go.Ground.phase }, { on := 4, ground := Go.Ground.phase }, { on := 5, ground := Go.Ground.phase }, { on := 6, ground := Go.Ground.phase }, { on := 7, ground := Go.Ground.phase }, { on := 8, ground := Go.Ground.phase }, { on := 9, ground := Go.Ground.phase }, { on := 10, ground := Go.Ground.phase }, { on := 11, ground := Go.Ground.phase }], guard := none }) (v := ?v379) rfl (by kernel_rfl) (by kernel_rfl) (by kernel_rfl) (fun _ _ _ h => h) (Or.inl ⟨by rfl, ?hy379⟩) (by assumption) ?rest379
            case hy379 => (intro w hSw; (try dsimp only at hSw); go_simp; (try with_reducible rfl))
            (try go_frame)
            refine wpAnyH_take (i := 13) (oi := { dst := some 74, op := Go.Op.fieldAddr 105 (Go.Operand.tmp 73) 1, type := 0, pos := "steps.go:59", after := #[{ on := 12, ground := Go.Ground.data }, { on := 0, ground := Go.Ground.phase }, { on := 1, ground := Go.Ground.phase }, { on := 2, ground := Go.Ground.phase }, { on := 3, ground := Go.Ground.phase }, { on := 4, ground := Go.Ground.phase }, { on := 5, ground := Go.Ground.phase }, { on := 6, ground := Go.Ground.phase }, { on := 7, ground := Go.Ground.phase }, { on := 8, ground := Go.Ground.phase }, { on := 9, ground := Go.Ground.phase }, { on := 10, ground := Go.Ground.phase }, { on := 11, ground := Go.Ground.phase }], guard := none }) (v := ?v380) rfl (by kernel_rfl) (by kernel_rfl) (by kernel_rfl) (fun _ _ _ h => h) (Or.inl ⟨by rfl, ?hy380⟩) (by assumption) ?rest380
            case hy380 => (intro w hSw; (try dsimp only at hSw); go_simp; (try with_reducible rfl))
            (try go_frame)
            refine wpAnyH_ready (rs := [14]) (by kernel_rfl) (by simp) ?_
            refine AllReadyH.cons (o := { dst := none, op := Go.Op.store 103 (Go.Operand.tmp 74) (Go.Operand.tmp 72), type := 0, pos := "steps.go:59", after := #[{ on := 13, ground := Go.Ground.data }, { on := 11, ground := Go.Ground.data }, { on := 11, ground := Go.Ground.chain }, { on := 0, ground := Go.Ground.phase }, { on := 1, ground := Go.Ground.phase }, { on := 2, ground := Go.Ground.phase }, { on := 3, ground := Go.Ground.phase }, { on := 4, ground := Go.Ground.phase }, { on := 5, ground := Go.Ground.phase }, { on := 6, ground := Go.Ground.phase }, { on := 7, ground := Go.Ground.phase }, { on := 8, ground := Go.Ground.phase }, { on := 9, ground := Go.Ground.phase }, { on := 10, ground := Go.Ground.phase }, { on := 11, ground := Go.Ground.phase }], guard := none }) (by rfl) (fun K hK => ?_) AllReadyH.nil
            rw [if_pos (by rfl)]
            refine wp_store_one _ _ _ rfl W1.heap.size 7 _ rfl rfl rfl rfl hHeld.2 hsz ?_
            refine hK.out _ _ ?_ (fun hHeld => ?_)
            · exact ⟨(World.cell?_setCell_far _ _ _ _ (by simp; omega)).trans hHeld.1, there_set hHeld.2 _ rfl _⟩
            clear hK K
            (try go_frame)
            refine wpAnyH_done (by kernel_rfl) ?_ _
            (try go_wp2_with fail)
            go_roundw
            case rel => exact ⟨k + 1, _, _, _, by omega, by go_num, RfI.next rfl HI.out (Below.drew (Below.alloc (Below.alloc (below_alloc _ _) (by simp) _) (by simp; omega) _)) (Nat.le_succ _) (Nat.le_refl _) (by omega) (Row.drew (Row.alloc (Row.new' (xs := rthNew n wr.heap.size) (by simp)) _)) (Row.drew (Row.alloc (Row.alloc (Row.new' rfl) _) _)) HO.out HG.out (Or.imp_right (fun h => by rw [h]; simp) HA.out)⟩
            case measure => simp [intOf]; omega
          · go_simp
            refine hK.out _ _ ?_ (fun hHeld => ?_)
            · exact ⟨cell_later (below_alloc _ _) hHeld.1, World.there_alloc hHeld.2 _⟩
            clear hK K
            (try go_frame)
            refine wpAnyH_ready (rs := [4]) (by kernel_rfl) (by simp) ?_
            refine AllReadyH.cons (o := { dst := some 65, op := Go.Op.load 103 (Go.Operand.tmp 64), type := 103, pos := "steps.go:59", after := #[{ on := 3, ground := Go.Ground.data }], guard := none }) (by rfl) (fun K hK => ?_) AllReadyH.nil
            rw [if_pos (by rfl)]
            refine wp_load_one _ _ rfl _ _ v rfl (by kernel_rfl) (by refine cell_later ?_ HCV.out; repeat (first | exact Below.refl _ _ | refine Below.drew ?_ | refine Below.alloc ?_ (by first | (simp; done) | (simp; omega)) _)) ?_
            refine hK.out _ _ ?_ (fun hHeld => ?_)
            · exact hHeld
            clear hK K
            (try go_frame)
            refine wpAnyH_ready (rs := [11]) (by kernel_rfl) (by simp) ?_
            refine AllReadyH.cons (o := { dst := some 72, op := Go.Op.call { callee := Go.Callee.builtin Go.Builtin.append, args := #[Go.Operand.tmp 65, Go.Operand.tmp 71], argTypes := #[103, 103] }, type := 103, pos := "steps.go:59", after := #[{ on := 4, ground := Go.Ground.data }, { on := 10, ground := Go.Ground.data }], guard := none }) (by rfl) (fun K hK => ?_) AllReadyH.nil
            refine step_append_lies _ rfl (.tmp 65) (.tmp 71) 103 rfl (W1.heap.size + 1) 107 pi (.pointer none) 1 8 Tryz.underlying103 HPI.out HP1.out HP2.out HP3.out rfl (by decide) v k (ptrs bT k) rfl ?_ ⟨wr.heap.size + 1 + 1, 0, none⟩ 1 1 [.pointer (some ⟨wr.heap.size + 1, 0, none⟩)] rfl rfl ?_ (by simp [Value.oneCell']) (by decide) (by unfold maxLen; omega) (by omega) ?_ (wr.heap.size + 1 + 1 + 1) (by simp) ?_
            · exact ((HI.out.2.1.alloc _).alloc _).alloc _
            · exact World.news_of_block (Row.drew (Row.new' (by simp)))
            · simp; omega
            intro g gc w4 hown hgr hat hlt4
            have HO := hide hown
            have HG := hide hgr
            have HA := hide hat
            clear hown hgr hat
            refine hK.out _ _ ?_ (fun hHeld => ?_)
            · exact keepG1 HG.out hHeld hneE hneN
            clear hK K
            (try go_frame)
            refine wpAnyH_take (i := 12) (oi := { dst := some 73, op := Go.Op.nilCheck (Go.Operand.tmp 61), type := 0, pos := "steps.go:59", after := #[{ on := 0, ground := Go.Ground.data }, { on := 0, ground := Go.Ground.phase }, { on := 1, ground := Go.Ground.phase }, { on := 2, ground := Go.Ground.phase }, { on := 3, ground := Go.Ground.phase }, { on := 4, ground := Go.Ground.phase }, { on := 5, ground := Go.Ground.phase }, { on := 6, ground := Go.Ground.phase }, { on := 7, ground := Go.Ground.phase }, { on := 8, ground := Go.Ground.phase }, { on := 9, ground := Go.Ground.phase }, { on := 10, ground := Go.Ground.phase }, { on := 11, ground := Go.Ground.phase }], guard := none }) (v := ?v381) rfl (by kernel_rfl) (by kernel_rfl) (by kernel_rfl) (fun _ _ _ h => h) (Or.inl ⟨by rfl, ?hy381⟩) (by assumption) ?rest381
            case hy381 => (intro w hSw; (try dsimp only at hSw); go_simp; (try with_reducible rfl))
            (try go_frame)
            refine wpAnyH_take (i := 13) (oi := { dst := some 74, op := Go.Op.fieldAddr 105 (Go.Operand.tmp 73) 1, type := 0, pos := "steps.go:59", after := #[{ on := 12, ground := Go.Ground.data }, { on := 0, ground := Go.Ground.phase }, { on := 1, ground := Go.Ground.phase }, { on := 2, ground := Go.Ground.phase }, { on := 3, ground := Go.Ground.phase }, { on := 4, ground := Go.Ground.phase }, { on := 5, ground := Go.Ground.phase }, { on := 6, ground := Go.Ground.phase }, { on := 7, ground := Go.Ground.phase }, { on := 8, ground := Go.Ground.phase }, { on := 9, ground := Go.Ground.phase }, { on := 10, ground := Go.Ground.phase }, { on := 11, ground := Go.Ground.phase }], guard := none }) (v := ?v382) rfl (by kernel_rfl) (by kernel_rfl) (by kernel_rfl) (fun _ _ _ h => h) (Or.inl ⟨by rfl, ?hy382⟩) (by assumption) ?rest382
            case hy382 => (intro w hSw; (try dsimp only at hSw); go_simp; (try with_reducible rfl))
            (try go_frame)
            refine wpAnyH_ready (rs := [14]) (by kernel_rfl) (by simp) ?_
            refine AllReadyH.cons (o := { dst := none, op := Go.Op.store 103 (Go.Operand.tmp 74) (Go.Operand.tmp 72), type := 0, pos := "steps.go:59", after := #[{ on := 13, ground := Go.Ground.data }, { on := 11, ground := Go.Ground.data }, { on := 11, ground := Go.Ground.chain }, { on := 0, ground := Go.Ground.phase }, { on := 1, ground := Go.Ground.phase }, { on := 2, ground := Go.Ground.phase }, { on := 3, ground := Go.Ground.phase }, { on := 4, ground := Go.Ground.phase }, { on := 5, ground := Go.Ground.phase }, { on := 6, ground := Go.Ground.phase }, { on := 7, ground := Go.Ground.phase }, { on := 8, ground := Go.Ground.phase }, { on := 9, ground := Go.Ground.phase }, { on := 10, ground := Go.Ground.phase }, { on := 11, ground := Go.Ground.phase }], guard := none }) (by rfl) (fun K hK => ?_) AllReadyH.nil
            rw [if_pos (by rfl)]
            refine wp_store_one _ _ _ rfl W1.heap.size 7 _ rfl rfl rfl rfl hHeld.2 hsz ?_
            refine hK.out _ _ ?_ (fun hHeld => ?_)
            · exact ⟨(World.cell?_setCell_far _ _ _ _ (by simp; omega)).trans hHeld.1, there_set hHeld.2 _ rfl _⟩
            clear hK K
            (try go_frame)
            refine wpAnyH_done (by kernel_rfl) ?_ _
            (try go_wp2_with fail)
            go_roundw
            case rel => exact ⟨k + 1, _, _, _, by omega, by go_num, RfI.next rfl HI.out (Below.drew (Below.alloc (Below.alloc (below_alloc _ _) (by simp) _) (by simp; omega) _)) (Nat.le_succ _) (Nat.le_refl _) (by omega) (Row.drew (Row.alloc (Row.new' (xs := rthNew n wr.heap.size) (by simp)) _)) (Row.drew (Row.alloc (Row.alloc (Row.new' rfl) _) _)) HO.out HG.out (Or.imp_right (fun h => by rw [h]; simp) HA.out)⟩
            case measure => simp [intOf]; omega
    · have hke : k = n := by omega
      subst hke
      have HI := hide hI
      clear hI
      have hlt' : ¬ (k : Int) < (k : Int) := by omega
      go_wp2
      go_ret2
      exact ⟨W1.heap.size, rfl, W1, _, _, v, bT, bF, rfl, HBW.out, HI.out, .inl ⟨by omega, rfl, rfl⟩⟩

end Go.Proofs.YtefjhnhdagolhaaGreat
