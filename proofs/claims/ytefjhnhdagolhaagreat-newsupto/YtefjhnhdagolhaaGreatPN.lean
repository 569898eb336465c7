import Derived.Test.YtefjhnhdagolhaaGreatPB
import Derived.Test.YtefjhnhdagolhaaGreatPA
import Derived.Test.YtefjhnhdagolhaaGreatPC
import Derived.Test.YtefjhnhdagolhaaGreatPEInt
import Derived.Test.YtefjhnhdagolhaaGreatPEList
import Derived.Test.YtefjhnhdagolhaaGreatPERow
import Derived.Test.YtefjhnhdagolhaaGreatPETree
namespace Go.Proofs.YtefjhnhdagolhaaGreat
open Go.RowKit
attribute [local go_sem ↓] Go.wp_at_zero Go.wp_at_succ

/-- What New gives where it gives an object. -/
def Made (w : World) (kind : Int) (n : Nat) (cap st co : Int) (nx ou : List Int) (b : Nat) (w' : World) : Prop :=
  (kind = 1 ∧ int.ObjNew w n cap 140 (.agg #[]) b w') ∨ (kind = 2 ∧ list.ObjNew w n cap 143 (.agg #[]) b w') ∨ (kind = 3 ∧ row.ObjNew w n cap 147 (.agg #[]) b w') ∨
  (kind = 4 ∧ tree.ObjNew w n cap 150 (.agg #[]) b w') ∨
  (kind = 5 ∧ ∃ g1 k1 g2 k2, int.ObjNew w n cap 152 (.agg #[.int .i64 st, .int .i64 co, .slice (some ⟨g1, 0, none⟩) nx.length k1, .slice (some ⟨g2, 0, none⟩) ou.length k2]) b w' ∧
    w'.ownsRow w.heap.size 3 1 (.slice (some ⟨g1, 0, none⟩) nx.length k1) nx.length (ints nx) ∧ w'.ownsRow w.heap.size 3 1 (.slice (some ⟨g2, 0, none⟩) ou.length k2) ou.length (ints ou))

section
variable {w0 w1 : World} {n : Nat} {most : Int} {oT : TypeId} {ov : Value} {b : Nat} {w : World}
theorem int.ObjNew.from (h : int.ObjNew w1 n most oT ov b w) (hb : Below w0.heap.size w0 w1) : int.ObjNew w0 n most oT ov b w := let ⟨bN, h1, h2⟩ := h; ⟨bN, h1, h2.from hb⟩
theorem list.ObjNew.from (h : list.ObjNew w1 n most oT ov b w) (hb : Below w0.heap.size w0 w1) : list.ObjNew w0 n most oT ov b w := let ⟨bN, h1, h2⟩ := h; ⟨bN, h1, h2.from hb⟩
theorem row.ObjNew.from (h : row.ObjNew w1 n most oT ov b w) (hb : Below w0.heap.size w0 w1) : row.ObjNew w0 n most oT ov b w := let ⟨bN, h1, h2⟩ := h; ⟨bN, h1, h2.from hb⟩
theorem tree.ObjNew.from (h : tree.ObjNew w1 n most oT ov b w) (hb : Below w0.heap.size w0 w1) : tree.ObjNew w0 n most oT ov b w := let ⟨bN, h1, h2⟩ := h; ⟨bN, h1, h2.from hb⟩
theorem int.ObjNew.below (h : int.ObjNew w0 n most oT ov b w) : Below w0.heap.size w0 w := let ⟨_, _, h2⟩ := h; h2.below.1
end

theorem cells7 {w' : World} {N : Nat} {t : TypeId} {a b c d e f g : Value} (h : Row w' N t [a, b, c, d, e, f, g]) : Row w' N t [a, b, c, d, e, f, g] ∧ w'.cell? ⟨N, 0, none⟩ = some a ∧ w'.cell? ⟨N, 1, none⟩ = some b ∧ w'.cell? ⟨N, 2, none⟩ = some c ∧
    w'.cell? ⟨N, 3, none⟩ = some d ∧ w'.cell? ⟨N, 4, none⟩ = some e ∧ w'.cell? ⟨N, 5, none⟩ = some f ∧ w'.cell? ⟨N, 6, none⟩ = some g :=
  ⟨h, h.cell_of rfl, h.cell_of rfl, h.cell_of rfl, h.cell_of rfl, h.cell_of rfl, h.cell_of rfl, h.cell_of rfl⟩

section
variable (n : Nat) (cap st co : Int) (nx ou : List Int) (vn vo : Value) (w : World) (hn : Sl w vn (ints nx)) (ho : Sl w vo (ints ou))
include hn ho

set_option maxHeartbeats 1000000 in
theorem new_err (kind th : Int) (h : cfgErr kind th cap st co nx ou ≠ 0) :
    Calls Tryz.prog 42 #[.agg #[.int .i64 kind, .int .i64 th, .int .i64 cap, .int .i64 st, .int .i64 co, vn, vo]] w fun e w' => e = .returned (.tuple #[.pointer none, .int .i64 (cfgErr kind th cap st co nx ou)]) ∧ Below w.heap.size w w' := by
  have hc := checkConfig_any kind th cap st co nx ou vn vo (w.alloc (.cells #[.int .i64 kind, .int .i64 th, .int .i64 cap, .int .i64 st, .int .i64 co, vn, vo] 26)) (hn.below (below_alloc _ _)) (ho.below (below_alloc _ _))
  generalize hx : cfgErr kind th cap st co nx ou = x at *
  have hx0 : (x != 0) = true := by rw [bne_iff_ne]; exact h
  have HC := hide hc
  clear hc hx h hn ho
  go_enter Tryz.func42, Tryz.ntmps42
  go_wp2_with fail
  refine HC.out.mono ?_
  rintro e w1 ⟨rfl, hb1⟩
  go_wp2_with fail
  go_ret2
  exact ⟨rfl, Below.next (below_alloc _ _) hb1 (by simp)⟩

set_option maxHeartbeats 1000000 in
theorem new_one (h1 : 1 ≤ n) (h2 : n ≤ 64) (h3 : 0 ≤ cap) (h4 : cap ≤ 64) :
    Calls Tryz.prog 42 #[.agg #[.int .i64 1, .int .i64 (n : Int), .int .i64 cap, .int .i64 st, .int .i64 co, vn, vo]] w fun e w' => ∃ b, e = .returned (.tuple #[.pointer (some ⟨b, 0, none⟩), .int .i64 0]) ∧ Made w 1 n cap st co nx ou b w' := by
  have hc := checkConfig_any 1 n cap st co nx ou vn vo (w.alloc (.cells #[.int .i64 1, .int .i64 (n : Int), .int .i64 cap, .int .i64 st, .int .i64 co, vn, vo] 26)) (hn.below (below_alloc _ _)) (ho.below (below_alloc _ _))
  rw [cfgErr_zero (by omega) (by omega)] at hc
  have HC := hide hc
  have HOB := hide (fun W => int.objectOf_any 140 (.agg #[]) 181 (.agg #[]) counterFirst_m counterFirst_c counterFirst 1 n cap st co vn vo W h1 h2)
  clear hc hn ho
  go_enter Tryz.func42, Tryz.ntmps42
  go_wp2_with fail
  refine HC.out.mono ?_
  rintro e w1 ⟨rfl, hb1⟩
  have HB1 := hide (Below.next (below_alloc w _) hb1 (by simp))
  obtain ⟨hcc, -⟩ := bcell hb1
  clear hb1
  go_wp2_with fail
  refine (HOB.out w1).mono ?_
  rintro e w2 ⟨b, rfl, hob⟩
  have HX := hide (hob.from HB1.out)
  clear hob
  go_wp2_with fail
  go_ret2
  exact ⟨b, rfl, .inl ⟨rfl, HX.out⟩⟩

set_option maxHeartbeats 1000000 in
theorem new_two (h1 : 1 ≤ n) (h2 : n ≤ 64) (h3 : 0 ≤ cap) (h4 : cap ≤ 64) :
    Calls Tryz.prog 42 #[.agg #[.int .i64 2, .int .i64 (n : Int), .int .i64 cap, .int .i64 st, .int .i64 co, vn, vo]] w fun e w' => ∃ b, e = .returned (.tuple #[.pointer (some ⟨b, 0, none⟩), .int .i64 0]) ∧ Made w 2 n cap st co nx ou b w' := by
  have hc := checkConfig_any 2 n cap st co nx ou vn vo (w.alloc (.cells #[.int .i64 2, .int .i64 (n : Int), .int .i64 cap, .int .i64 st, .int .i64 co, vn, vo] 26)) (hn.below (below_alloc _ _)) (ho.below (below_alloc _ _))
  rw [cfgErr_zero (by omega) (by omega)] at hc
  have HC := hide hc
  have HOB := hide (fun W => list.objectOf_any 143 (.agg #[]) 183 (.agg #[]) stackFirst_m stackFirst_c stackFirst 2 n cap st co vn vo W h1 h2)
  clear hc hn ho
  go_enter Tryz.func42, Tryz.ntmps42
  go_wp2_with fail
  refine HC.out.mono ?_
  rintro e w1 ⟨rfl, hb1⟩
  have HB1 := hide (Below.next (below_alloc w _) hb1 (by simp))
  obtain ⟨hcc, -⟩ := bcell hb1
  clear hb1
  go_wp2_with fail
  refine (HOB.out w1).mono ?_
  rintro e w2 ⟨b, rfl, hob⟩
  have HX := hide (hob.from HB1.out)
  clear hob
  go_wp2_with fail
  go_ret2
  exact ⟨b, rfl, .inr (.inl ⟨rfl, HX.out⟩)⟩

set_option maxHeartbeats 1000000 in
theorem new_three (h1 : 1 ≤ n) (h2 : n ≤ 64) (h3 : 0 ≤ cap) (h4 : cap ≤ 64) :
    Calls Tryz.prog 42 #[.agg #[.int .i64 3, .int .i64 (n : Int), .int .i64 cap, .int .i64 st, .int .i64 co, vn, vo]] w fun e w' => ∃ b, e = .returned (.tuple #[.pointer (some ⟨b, 0, none⟩), .int .i64 0]) ∧ Made w 3 n cap st co nx ou b w' := by
  have hc := checkConfig_any 3 n cap st co nx ou vn vo (w.alloc (.cells #[.int .i64 3, .int .i64 (n : Int), .int .i64 cap, .int .i64 st, .int .i64 co, vn, vo] 26)) (hn.below (below_alloc _ _)) (ho.below (below_alloc _ _))
  rw [cfgErr_zero (by omega) (by omega)] at hc
  have HC := hide hc
  have HOB := hide (fun W => row.objectOf_any 147 (.agg #[]) 185 (.agg #[]) queueFirst_m queueFirst_c queueFirst 3 n cap st co vn vo W h1 h2)
  clear hc hn ho
  go_enter Tryz.func42, Tryz.ntmps42
  go_wp2_with fail
  refine HC.out.mono ?_
  rintro e w1 ⟨rfl, hb1⟩
  have HB1 := hide (Below.next (below_alloc w _) hb1 (by simp))
  obtain ⟨hcc, -⟩ := bcell hb1
  clear hb1
  go_wp2_with fail
  refine (HOB.out w1).mono ?_
  rintro e w2 ⟨b, rfl, hob⟩
  have HX := hide (hob.from HB1.out)
  clear hob
  go_wp2_with fail
  go_ret2
  exact ⟨b, rfl, .inr (.inr (.inl ⟨rfl, HX.out⟩))⟩

set_option maxHeartbeats 1000000 in
theorem new_four (h1 : 1 ≤ n) (h2 : n ≤ 64) (h3 : 0 ≤ cap) (h4 : cap ≤ 64) :
    Calls Tryz.prog 42 #[.agg #[.int .i64 4, .int .i64 (n : Int), .int .i64 cap, .int .i64 st, .int .i64 co, vn, vo]] w fun e w' => ∃ b, e = .returned (.tuple #[.pointer (some ⟨b, 0, none⟩), .int .i64 0]) ∧ Made w 4 n cap st co nx ou b w' := by
  have hc := checkConfig_any 4 n cap st co nx ou vn vo (w.alloc (.cells #[.int .i64 4, .int .i64 (n : Int), .int .i64 cap, .int .i64 st, .int .i64 co, vn, vo] 26)) (hn.below (below_alloc _ _)) (ho.below (below_alloc _ _))
  rw [cfgErr_zero (by omega) (by omega)] at hc
  have HC := hide hc
  have HOB := hide (fun W => tree.objectOf_any 150 (.agg #[]) 187 (.agg #[]) mapFirst_m mapFirst_c mapFirst 4 n cap st co vn vo W h1 h2)
  clear hc hn ho
  go_enter Tryz.func42, Tryz.ntmps42
  go_wp2_with fail
  refine HC.out.mono ?_
  rintro e w1 ⟨rfl, hb1⟩
  have HB1 := hide (Below.next (below_alloc w _) hb1 (by simp))
  obtain ⟨hcc, -⟩ := bcell hb1
  clear hb1
  go_wp2_with fail
  refine (HOB.out w1).mono ?_
  rintro e w2 ⟨b, rfl, hob⟩
  have HX := hide (hob.from HB1.out)
  clear hob
  go_wp2_with fail
  go_ret2
  exact ⟨b, rfl, .inr (.inr (.inr (.inl ⟨rfl, HX.out⟩)))⟩

set_option maxRecDepth 20000 in
set_option maxHeartbeats 2000000 in
theorem new_five (h1 : 1 ≤ n) (h2 : n ≤ 64) (h3 : 0 ≤ cap) (h4 : cap ≤ 64) (ht : tableOk st co nx ou = true) (n1 : nx.length ≤ 1048576) (n2 : 0 < nx.length) (n3 : ou.length ≤ 1048576) (n4 : 0 < ou.length) :
    Calls Tryz.prog 42 #[.agg #[.int .i64 5, .int .i64 (n : Int), .int .i64 cap, .int .i64 st, .int .i64 co, vn, vo]] w fun e w' => ∃ b, e = .returned (.tuple #[.pointer (some ⟨b, 0, none⟩), .int .i64 0]) ∧ Made w 5 n cap st co nx ou b w' := by
  have hc := checkConfig_any 5 n cap st co nx ou vn vo (w.alloc (.cells #[.int .i64 5, .int .i64 (n : Int), .int .i64 cap, .int .i64 st, .int .i64 co, vn, vo] 26)) (hn.below (below_alloc _ _)) (ho.below (below_alloc _ _))
  rw [cfgErr_zero5 (by omega) rfl ht] at hc
  have HC := hide hc
  have HOB := hide (fun W u1 u2 => int.objectOf_any 152 (.agg #[.int .i64 st, .int .i64 co, u1, u2]) 188 (.agg #[.int .i64 st, .int .i64 co, u1, u2]) (tableFirst_m _ _ _ _) (tableFirst_c _ _ _ _) (tableFirst _ _ _ _) 5 n cap st co vn vo W h1 h2)
  have HN := hide hn
  have HO := hide ho
  clear hc hn ho ht
  go_enter Tryz.func42, Tryz.ntmps42
  go_wp2_with fail
  refine HC.out.mono ?_
  rintro e w1 ⟨rfl, hb1⟩
  have hB : Below w.heap.size w w1 := Below.next (below_alloc w _) hb1 (by simp)
  have hR : Row w1 w.heap.size 26 [.int .i64 5, .int .i64 (n : Int), .int .i64 cap, .int .i64 st, .int .i64 co, vn, vo] := (Row.new' rfl).old hb1
  obtain ⟨-, q0, q1, q2, q3, q4, q5, q6⟩ := cells7 hR
  have HB1 := hide hB
  have HR := hide hR
  clear hb1 hB hR
  go_wp2_with fail
  refine wp_region_held_drew (S := (fun w' => Row w' w.heap.size 26 [.int .i64 5, .int .i64 (n : Int), .int .i64 cap, .int .i64 st, .int .i64 co, vn, vo] ∧ w'.cell? ⟨w.heap.size, 0, none⟩ = some (.int .i64 5) ∧ w'.cell? ⟨w.heap.size, 1, none⟩ = some (.int .i64 (n : Int)) ∧ w'.cell? ⟨w.heap.size, 2, none⟩ = some (.int .i64 cap) ∧ w'.cell? ⟨w.heap.size, 3, none⟩ = some (.int .i64 st) ∧ w'.cell? ⟨w.heap.size, 4, none⟩ = some (.int .i64 co) ∧ w'.cell? ⟨w.heap.size, 5, none⟩ = some vn ∧ w'.cell? ⟨w.heap.size, 6, none⟩ = some vo)) (by kernel_rfl) ?_ (fun hHeld => ?_)
  · exact cells7 HR.out
  refine wpAnyH_take (i := 0) (oi := { dst := some 36, op := Go.Op.fieldAddr 26 (Go.Operand.tmp 1) 3, type := 0, pos := "announce.go:46", after := #[], guard := none }) (v := ?v361) rfl (by kernel_rfl) (by kernel_rfl) (by kernel_rfl) (fun _ _ _ h => h) (Or.inl ⟨by rfl, ?hy361⟩) (by assumption) ?rest361
  case hy361 => (intro w hSw; (try dsimp only at hSw); go_simp; (try with_reducible rfl))
  (try go_frame)
  refine wpAnyH_take (i := 1) (oi := { dst := some 37, op := Go.Op.load 24 (Go.Operand.tmp 36), type := 24, pos := "announce.go:46", after := #[{ on := 0, ground := Go.Ground.data }], guard := none }) (v := ?v362) rfl (by kernel_rfl) (by kernel_rfl) (by kernel_rfl) (fun _ _ _ h => h) (Or.inl ⟨by rfl, ?hy362⟩) (by assumption) ?rest362
  case hy362 => (intro w hSw; (try dsimp only at hSw); go_simp; (try with_reducible rfl))
  (try go_frame)
  refine wpAnyH_take (i := 4) (oi := { dst := some 40, op := Go.Op.load 26 (Go.Operand.tmp 1), type := 26, pos := "announce.go:46", after := #[], guard := none }) (v := ?v363) rfl (by kernel_rfl) (by kernel_rfl) (by kernel_rfl) (fun _ _ _ h => h) (Or.inl ⟨by rfl, ?hy363⟩) (by assumption) ?rest363
  case hy363 => (intro w hSw; (try dsimp only at hSw); go_simp; (try with_reducible rfl))
  (try go_frame)
  refine wpAnyH_ready (rs := [2]) (by kernel_rfl) (by simp) ?_
  refine AllReadyH.cons (o := { dst := some 38, op := Go.Op.call { callee := Go.Callee.value (Go.Operand.func 81), args := #[Go.Operand.tmp 37], argTypes := #[24] }, type := 152, pos := "announce.go:46", after := #[{ on := 1, ground := Go.Ground.data }], guard := none }) (by rfl) (fun K hK => ?_) AllReadyH.nil
  go_simp
  refine (newTable_any st co nx ou vn vo _ (HN.out.below HB1.out.drew) (HO.out.below HB1.out.drew) n1 n2 n3 n4).mono ?_
  rintro e w2 ⟨g1, k1, g2, k2, rfl, ho1, ho2, hb2⟩
  have HO1 := hide ho1
  have HO2 := hide ho2
  clear ho1 ho2
  go_wp2_with fail
  refine hK.out _ _ ?_ (fun hHeld => ?_)
  · exact cells7 (hHeld.1.old hb2)
  clear hK K
  (try go_frame)
  refine wpAnyH_take (i := 3) (oi := { dst := some 39, op := Go.Op.makeInterface 152 (Go.Operand.tmp 38), type := 182, pos := "announce.go:46", after := #[{ on := 2, ground := Go.Ground.data }], guard := none }) (v := ?v364) rfl (by kernel_rfl) (by kernel_rfl) (by kernel_rfl) (fun _ _ _ h => h) (Or.inl ⟨by rfl, ?hy364⟩) (by assumption) ?rest364
  case hy364 => (intro w hSw; (try dsimp only at hSw); go_simp; (try with_reducible rfl))
  (try go_frame)
  refine wpAnyH_ready (rs := [5]) (by kernel_rfl) (by simp) ?_
  refine AllReadyH.cons (o := { dst := some 41, op := Go.Op.call { callee := Go.Callee.value (Go.Operand.func 77), args := #[Go.Operand.tmp 39, Go.Operand.tmp 40], argTypes := #[182, 26] }, type := 66, pos := "announce.go:46", after := #[{ on := 3, ground := Go.Ground.data }, { on := 4, ground := Go.Ground.data }, { on := 2, ground := Go.Ground.chain }], guard := none }) (by rfl) (fun K hK => ?_) AllReadyH.nil
  go_simp
  refine (HOB.out _ _ _).mono ?_
  rintro e w3 ⟨b, rfl, hob⟩
  have HX := hide hob
  have HB3 := hide hob.below
  clear hob
  go_wp2_with fail
  refine hK.out _ _ ?_ (fun hHeld => ?_)
  · exact cells7 (hHeld.1.old HB3.out)
  clear hK K
  (try go_frame)
  refine wpAnyH_take (i := 6) (oi := { dst := some 2, op := Go.Op.assign (Go.Operand.tmp 41), type := 66, pos := "announce.go:46", after := #[{ on := 5, ground := Go.Ground.data }, { on := 5, ground := Go.Ground.chain }, { on := 0, ground := Go.Ground.phase }, { on := 1, ground := Go.Ground.phase }, { on := 2, ground := Go.Ground.phase }, { on := 3, ground := Go.Ground.phase }, { on := 4, ground := Go.Ground.phase }, { on := 5, ground := Go.Ground.phase }], guard := none }) (v := ?v365) rfl (by kernel_rfl) (by kernel_rfl) (by kernel_rfl) (fun _ _ _ h => h) (Or.inl ⟨by rfl, ?hy365⟩) (by assumption) ?rest365
  case hy365 => (intro w hSw; (try dsimp only at hSw); go_simp; (try with_reducible rfl))
  (try go_frame)
  refine wpAnyH_take (i := 7) (oi := { dst := some 3, op := Go.Op.assign (Go.Operand.const (Go.Value.int Go.IntKind.i64 0)), type := 46, pos := "announce.go:46", after := #[{ on := 6, ground := Go.Ground.chain }, { on := 0, ground := Go.Ground.phase }, { on := 1, ground := Go.Ground.phase }, { on := 2, ground := Go.Ground.phase }, { on := 3, ground := Go.Ground.phase }, { on := 4, ground := Go.Ground.phase }, { on := 5, ground := Go.Ground.phase }, { on := 6, ground := Go.Ground.phase }], guard := none }) (v := ?v366) rfl (by kernel_rfl) (by kernel_rfl) (by kernel_rfl) (fun _ _ _ h => h) (Or.inl ⟨by rfl, ?hy366⟩) (by assumption) ?rest366
  case hy366 => (intro w hSw; (try dsimp only at hSw); go_simp; (try with_reducible rfl))
  (try go_frame)
  refine wpAnyH_done (by kernel_rfl) ?_ _
  (try go_wp2_with fail)
  go_ret2
  have hz1 := HB1.out.size
  have hb12 : Below w.heap.size w w2 := Below.next HB1.out (Below.undrew hb2) hz1
  exact ⟨b, rfl, .inr (.inr (.inr (.inr ⟨rfl, g1, k1, g2, k2, HX.out.from hb12, owns_later (owns_base HO1.out hz1) HB3.out, owns_later (owns_base HO2.out hz1) HB3.out⟩)))⟩
end

end Go.Proofs.YtefjhnhdagolhaaGreat
