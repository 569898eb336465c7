import Derived.Test.YtefjhnhdagolhaaGreatQ25
import Derived.Test.YtefjhnhdagolhaaGreatQ02
namespace Go.Proofs.YtefjhnhdagolhaaGreat
open Go.RowKit
attribute [local go_sem ↓] Go.wp_at_zero Go.wp_at_succ
set_option maxHeartbeats 1000000 in
theorem badOp_w (w : World) : Calls Tryz.prog 363 #[] w fun e w' => e = .returned (.agg #[.int .i64 4, .int .i64 0]) ∧ Below w.heap.size w w' := by
  go_enter Tryz.func363, Tryz.ntmps363
  go_wp2
  exact bodyPost_ret (v := .agg #[.int .i64 4, .int .i64 0]) (by simp [results, Tryz.results363, go_sem]) rfl ⟨rfl, below_alloc _ _⟩
set_option maxHeartbeats 1000000 in
theorem done_w (x : Int) (w : World) : Calls Tryz.prog 364 #[.int .i64 x] w fun e w' => e = .returned (.agg #[.int .i64 1, .int .i64 x]) ∧ Below w.heap.size w w' := by
  go_enter Tryz.func364, Tryz.ntmps364
  go_wp2
  exact bodyPost_ret (v := .agg #[.int .i64 1, .int .i64 x]) (by simp [results, Tryz.results364, go_sem]) rfl ⟨rfl, below_alloc _ _⟩
set_option maxRecDepth 20000 in
set_option maxHeartbeats 1000000 in
theorem counterAdd (x a b : Int) (w : World) : Calls Tryz.prog 361 #[.agg #[], .int .i64 x, .agg #[.int .i64 1, .int .i64 a, .int .i64 b]] w fun e w' => e = .returned (.tuple #[.int .i64 (wrap64 (x + a)), .agg #[.int .i64 1, .int .i64 (wrap64 (x + a))]]) ∧ Below w.heap.size w w' := by
  go_enter Tryz.func361, Tryz.ntmps361
  go_wp2_with fail
  generalize hW : World.alloc _ _ = W
  have hb0 : Below w.heap.size w W := by rw [← hW]; exact ((below_alloc w _).alloc (by simp) _).alloc (by simp; omega) _
  have hro : Row W (w.heap.size + 1 + 1) 94 [.int .i64 0, .int .i64 0] := by rw [← hW]; exact Row.new' (by simp)
  have hlt := hro.lt
  clear hW
  refine (done_w _ _).mono ?_
  rintro e w4 ⟨rfl, hb⟩
  have hro4 := hro.old hb
  have a0 : w4.cell? ⟨w.heap.size + 1 + 1, 0, none⟩ = some (.int .i64 0) := hro4.cell_of rfl
  have a1 : w4.cell? ⟨w.heap.size + 1 + 1, 1, none⟩ = some (.int .i64 0) := hro4.cell_of rfl
  have f0 := hro4.frozen 0
  have f1 := hro4.frozen 1
  have HRo := hide (And.intro (hro4.set 0 (.int .i64 1)) ((hro4.set 0 (.int .i64 1)).set 1 (.int .i64 (wrap64 (x + a)))))
  have HB := hide (Below.next hb0 hb hb0.size)
  clear hb hro hro4 hb0
  go_wp2_with fail
  have q1 : ((w4.setCell ⟨w.heap.size + 1 + 1, 0, none⟩ (.int .i64 1)).setCell ⟨w.heap.size + 1 + 1, 1, none⟩ (.int .i64 (wrap64 (x + a)))).cell? ⟨w.heap.size + 1 + 1, 0, none⟩ = some (.int .i64 1) := HRo.out.2.cell_of rfl
  have q2 : ((w4.setCell ⟨w.heap.size + 1 + 1, 0, none⟩ (.int .i64 1)).setCell ⟨w.heap.size + 1 + 1, 1, none⟩ (.int .i64 (wrap64 (x + a)))).cell? ⟨w.heap.size + 1 + 1, 1, none⟩ = some (.int .i64 (wrap64 (x + a))) := HRo.out.2.cell_of rfl
  exact bodyPost_ret (v := .tuple #[.int .i64 (wrap64 (x + a)), .agg #[.int .i64 1, .int .i64 (wrap64 (x + a))]]) (by simp [results, Tryz.results361, go_sem, q1, q2]) rfl ⟨rfl, (HB.out.setCell (by simp; omega) _).setCell (by simp; omega) _⟩
set_option maxRecDepth 20000 in
set_option maxHeartbeats 1000000 in
theorem counterSum (x a b : Int) (w : World) : Calls Tryz.prog 361 #[.agg #[], .int .i64 x, .agg #[.int .i64 2, .int .i64 a, .int .i64 b]] w fun e w' => e = .returned (.tuple #[.int .i64 x, .agg #[.int .i64 1, .int .i64 x]]) ∧ Below w.heap.size w w' := by
  go_enter Tryz.func361, Tryz.ntmps361
  go_wp2_with fail
  generalize hW : World.alloc _ _ = W
  have hb0 : Below w.heap.size w W := by rw [← hW]; exact ((below_alloc w _).alloc (by simp) _).alloc (by simp; omega) _
  have hro : Row W (w.heap.size + 1 + 1) 94 [.int .i64 0, .int .i64 0] := by rw [← hW]; exact Row.new' (by simp)
  have hlt := hro.lt
  clear hW
  refine (done_w _ _).mono ?_
  rintro e w4 ⟨rfl, hb⟩
  have hro4 := hro.old hb
  have a0 : w4.cell? ⟨w.heap.size + 1 + 1, 0, none⟩ = some (.int .i64 0) := hro4.cell_of rfl
  have a1 : w4.cell? ⟨w.heap.size + 1 + 1, 1, none⟩ = some (.int .i64 0) := hro4.cell_of rfl
  have f0 := hro4.frozen 0
  have f1 := hro4.frozen 1
  have HRo := hide (And.intro (hro4.set 0 (.int .i64 1)) ((hro4.set 0 (.int .i64 1)).set 1 (.int .i64 x)))
  have HB := hide (Below.next hb0 hb hb0.size)
  clear hb hro hro4 hb0
  go_wp2_with fail
  have q1 : ((w4.setCell ⟨w.heap.size + 1 + 1, 0, none⟩ (.int .i64 1)).setCell ⟨w.heap.size + 1 + 1, 1, none⟩ (.int .i64 x)).cell? ⟨w.heap.size + 1 + 1, 0, none⟩ = some (.int .i64 1) := HRo.out.2.cell_of rfl
  have q2 : ((w4.setCell ⟨w.heap.size + 1 + 1, 0, none⟩ (.int .i64 1)).setCell ⟨w.heap.size + 1 + 1, 1, none⟩ (.int .i64 x)).cell? ⟨w.heap.size + 1 + 1, 1, none⟩ = some (.int .i64 x) := HRo.out.2.cell_of rfl
  exact bodyPost_ret (v := .tuple #[.int .i64 x, .agg #[.int .i64 1, .int .i64 x]]) (by simp [results, Tryz.results361, go_sem, q1, q2]) rfl ⟨rfl, (HB.out.setCell (by simp; omega) _).setCell (by simp; omega) _⟩
set_option maxRecDepth 20000 in
set_option maxHeartbeats 1000000 in
theorem counterBad (x c a b : Int) (w : World) (h1 : c ≠ 1) (h2 : c ≠ 2) : Calls Tryz.prog 361 #[.agg #[], .int .i64 x, .agg #[.int .i64 c, .int .i64 a, .int .i64 b]] w fun e w' => e = .returned (.tuple #[.int .i64 x, .agg #[.int .i64 4, .int .i64 0]]) ∧ Below w.heap.size w w' := by
  go_enter Tryz.func361, Tryz.ntmps361
  go_wp2_with fail
  generalize hW : World.alloc _ _ = W
  have hb0 : Below w.heap.size w W := by rw [← hW]; exact ((below_alloc w _).alloc (by simp) _).alloc (by simp; omega) _
  have hro : Row W (w.heap.size + 1 + 1) 94 [.int .i64 0, .int .i64 0] := by rw [← hW]; exact Row.new' (by simp)
  have hlt := hro.lt
  clear hW
  refine (badOp_w _).mono ?_
  rintro e w4 ⟨rfl, hb⟩
  have hro4 := hro.old hb
  have a0 : w4.cell? ⟨w.heap.size + 1 + 1, 0, none⟩ = some (.int .i64 0) := hro4.cell_of rfl
  have a1 : w4.cell? ⟨w.heap.size + 1 + 1, 1, none⟩ = some (.int .i64 0) := hro4.cell_of rfl
  have f0 := hro4.frozen 0
  have f1 := hro4.frozen 1
  have HRo := hide (And.intro (hro4.set 0 (.int .i64 4)) ((hro4.set 0 (.int .i64 4)).set 1 (.int .i64 0)))
  have HB := hide (Below.next hb0 hb hb0.size)
  clear hb hro hro4 hb0
  go_wp2_with fail
  have q1 : ((w4.setCell ⟨w.heap.size + 1 + 1, 0, none⟩ (.int .i64 4)).setCell ⟨w.heap.size + 1 + 1, 1, none⟩ (.int .i64 0)).cell? ⟨w.heap.size + 1 + 1, 0, none⟩ = some (.int .i64 4) := HRo.out.2.cell_of rfl
  have q2 : ((w4.setCell ⟨w.heap.size + 1 + 1, 0, none⟩ (.int .i64 4)).setCell ⟨w.heap.size + 1 + 1, 1, none⟩ (.int .i64 0)).cell? ⟨w.heap.size + 1 + 1, 1, none⟩ = some (.int .i64 0) := HRo.out.2.cell_of rfl
  exact bodyPost_ret (v := .tuple #[.int .i64 x, .agg #[.int .i64 4, .int .i64 0]]) (by simp [results, Tryz.results361, go_sem, q1, q2]) rfl ⟨rfl, (HB.out.setCell (by simp; omega) _).setCell (by simp; omega) _⟩
theorem counterApply_m (w : World) : (method 553 140 (.agg #[]) "Apply").run Tryz.prog w = .ok (361, .agg #[]) w := by kernel_rfl
theorem counterApply_c (s o : Value) (w : World) : (callFunc 361 #[.agg #[], s, o]).run Tryz.prog w = .ok (.enter 361 #[.agg #[], s, o]) w := by kernel_rfl
def counterP : M.Plain Int where
  first := 0
  apply s o := if o.c = 1 then (wrap64 (s + o.a), ⟨1, wrap64 (s + o.a)⟩) else if o.c = 2 then (s, ⟨1, s⟩) else (s, ⟨4, 0⟩)
def counterR : int.SR Int where
  rep _ _ s c := c = [.int .i64 s]
  len h := by rw [h]; rfl
  shape h v hv := by rw [h] at hv; exact ⟨_, List.mem_singleton.mp hv⟩
  stay _ h := h
theorem counterOk (L : int.Lt) (ho : L.oT = 140) (hv : L.ov = .agg #[]) : int.ApOk counterR counterP L 361 (.agg #[]) := by
  refine ⟨fun W => by rw [ho, hv]; exact counterApply_m W, fun s o W => counterApply_c s o W, fun I W s x op hr hI => ?_⟩
  have hx : x = .int .i64 s := by have : [x] = [Value.int .i64 s] := hr; simpa using this
  subst hx
  obtain ⟨c, a, b⟩ := op
  by_cases h1 : c = 1
  · subst h1
    refine (counterAdd s a b W).mono ?_
    rintro e w' ⟨rfl, hb⟩
    exact ⟨_, rfl, rfl, hb⟩
  · by_cases h2 : c = 2
    · subst h2
      refine (counterSum s a b W).mono ?_
      rintro e w' ⟨rfl, hb⟩
      exact ⟨_, rfl, rfl, hb⟩
    · refine (counterBad s c a b W h1 h2).mono ?_
      rintro e w' ⟨rfl, hb⟩
      have e1 : counterP.apply s ⟨c, a, b⟩ = (s, ⟨4, 0⟩) := by show (if c = 1 then _ else if c = 2 then _ else _) = _; rw [if_neg h1, if_neg h2]
      rw [e1]
      exact ⟨_, rfl, rfl, hb⟩
end Go.Proofs.YtefjhnhdagolhaaGreat
