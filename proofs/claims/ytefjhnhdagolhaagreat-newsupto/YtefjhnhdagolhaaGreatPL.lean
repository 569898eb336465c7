import Derived.Test.YtefjhnhdagolhaaGreatPN
import Derived.Test.YtefjhnhdagolhaaGreatPMInt
import Derived.Test.YtefjhnhdagolhaaGreatPMList
import Derived.Test.YtefjhnhdagolhaaGreatPMRow
import Derived.Test.YtefjhnhdagolhaaGreatPMTree
import Derived.Test.YtefjhnhdagolhaaGreatPRC
import Derived.Test.YtefjhnhdagolhaaGreatPA
namespace Go.Proofs.YtefjhnhdagolhaaGreat
open Go.RowKit

theorem Made.eng {w : World} {kind : Int} {n : Nat} {cap st co : Int} {nx ou : List Int} {b : Nat} {w' : World} (h : Made w kind n cap st co nx ou b w') (hn : 1 ≤ n) (h2 : n ≤ 64) (h3 : 0 ≤ cap) (h4 : cap ≤ 64) :
    ∃ tE bN fA fO fS fB, Row w' b 74 [.iface tE (.pointer (some ⟨bN, 0, none⟩))] ∧ Eng w.heap.size tE bN fA fO fS fB n cap (holdsNew kind) w' ∧ Below w.heap.size w w' := by
  rcases h with ⟨rfl, bN, hr, hE⟩ | ⟨rfl, bN, hr, hE⟩ | ⟨rfl, bN, hr, hE⟩ | ⟨rfl, bN, hr, hE⟩ | ⟨rfl, g1, k1, g2, k2, ⟨bN, hr, hE⟩, -, -⟩
  · exact ⟨_, bN, _, _, _, _, hr, int.eng_new _ n cap _ _ _ _ [0] counterTell_m (counterTell_c _) (counterTell 0) bN w' (hE.reads hn) hn h2 h3 h4, hE.below.1⟩
  · exact ⟨_, bN, _, _, _, _, hr, list.eng_new _ n cap _ _ _ _ [] stackTell_m (stackTell_c _) stackTell bN w' (hE.reads hn) hn h2 h3 h4, hE.below.1⟩
  · exact ⟨_, bN, _, _, _, _, hr, row.eng_new _ n cap _ _ _ _ [] queueTell_m (queueTell_c _) queueTell bN w' (hE.reads hn) hn h2 h3 h4, hE.below.1⟩
  · exact ⟨_, bN, _, _, _, _, hr, tree.eng_new _ n cap _ _ _ _ [] mapTell_m (mapTell_c _) mapTell bN w' (hE.reads hn) hn h2 h3 h4, hE.below.1⟩
  · exact ⟨_, bN, _, _, _, _, hr, int.eng_new _ n cap _ _ _ _ [0] (tableTell_m _ _ _ _) (tableTell_c _ _ _ _ _) (tableTell _ _ _ _ 0) bN w' (hE.reads hn) hn h2 h3 h4, hE.below.1⟩

end Go.Proofs.YtefjhnhdagolhaaGreat

namespace Go.Proofs.YtefjhnhdagolhaaGreat
open Go.RowKit
attribute [local go_sem ↓] Go.wp_at_zero Go.wp_at_succ

/-- Both sides of a new world: what the law's own asks read. -/
structure Both (base bL bX bY n g gc : Nat) (bT : Nat → Nat) (kind cap st co : Int) (vn vo : Value) (tE : TypeId) (bN fA fO fS fB : Nat) (ms is : Value) (w0 w : World) : Prop where
  law : Row w bL 90 [.pointer (some ⟨bX, 0, none⟩), .pointer (some ⟨bY, 0, none⟩), ms, is]
  obj : Row w bX 74 [.iface tE (.pointer (some ⟨bN, 0, none⟩))]
  eng : Eng base tE bN fA fO fS fB n cap (holdsNew kind) w0
  old : Keeps base w0 w
  ref : RefRd bY n g gc bT kind cap st co vn vo w

section
variable {base bL bX bY n g gc : Nat} {bT : Nat → Nat} {kind cap st co : Int} {vn vo : Value} {tE : TypeId} {bN fA fO fS fB : Nat} {ms is : Value} {w0 : World} (w : World)

set_option maxRecDepth 20000 in
set_option maxHeartbeats 1000000 in
theorem lawBound (h : Both base bL bX bY n g gc bT kind cap st co vn vo tE bN fA fO fS fB ms is w0 w) (h1 : 1 ≤ n) (h2 : n ≤ 64) (h3 : 0 ≤ cap) (h4 : cap ≤ 64) :
    Calls Tryz.prog 51 #[.pointer (some ⟨bL, 0, none⟩)] w fun e w' => e = .returned (.bool true) ∧ Below w.heap.size w w' := by
  have c0 : w.cell? ⟨bL, 0, none⟩ = some (.pointer (some ⟨bX, 0, none⟩)) := h.law.cell_of rfl
  have c1 : w.cell? ⟨bL, 1, none⟩ = some (.pointer (some ⟨bY, 0, none⟩)) := h.law.cell_of rfl
  have cx : w.cell? ⟨bX, 0, none⟩ = some (.iface tE (.pointer (some ⟨bN, 0, none⟩))) := h.obj.cell_of rfl
  have hm := h.eng.mB
  have hc := h.eng.cB
  have HH := hide h
  clear h
  go_enter Tryz.func51, Tryz.ntmps51
  go_wp2_with fail
  refine (HH.out.eng.bnd _ HH.out.old).mono ?_
  rintro e w1 ⟨rfl, hb1⟩
  have d1 : w1.cell? ⟨bL, 1, none⟩ = some (.pointer (some ⟨bY, 0, none⟩)) := cell_later hb1 c1
  have HB1 := hide hb1
  clear hb1 c0 c1 cx hm hc
  go_wp2_with fail
  refine (refBound w1 (HH.out.ref.later HB1.out) h1 h2 h3 h4).mono ?_
  rintro e w2 ⟨rfl, k, rfl⟩
  go_wp2_with fail
  go_ret
  exact ⟨ret_bool (by simp), Below.drewN HB1.out _⟩

set_option maxRecDepth 20000 in
set_option maxHeartbeats 1000000 in
theorem lawAnswer_out (t : Int) (h : Both base bL bX bY n g gc bT kind cap st co vn vo tE bN fA fO fS fB ms is w0 w) (h2 : n ≤ 64) (ht : t < 0 ∨ (n : Int) ≤ t) :
    Calls Tryz.prog 48 #[.pointer (some ⟨bL, 0, none⟩), .int .i64 t] w fun e w' => e = .returned (.bool true) ∧ Below w.heap.size w w' := by
  have c0 : w.cell? ⟨bL, 0, none⟩ = some (.pointer (some ⟨bX, 0, none⟩)) := h.law.cell_of rfl
  have c1 : w.cell? ⟨bL, 1, none⟩ = some (.pointer (some ⟨bY, 0, none⟩)) := h.law.cell_of rfl
  have cx : w.cell? ⟨bX, 0, none⟩ = some (.iface tE (.pointer (some ⟨bN, 0, none⟩))) := h.obj.cell_of rfl
  have hm := h.eng.mA
  have hc := h.eng.cA
  have heq : ∀ W, (binOp .eql 94 (.agg #[.int .i64 0, .int .i64 0]) (.agg #[.int .i64 0, .int .i64 0])).run Tryz.prog W = .ok (.bool true) W := fun _ => by kernel_rfl
  have HH := hide h
  have HT := hide ht
  clear h ht
  go_enter Tryz.func48, Tryz.ntmps48
  go_wp2_with fail
  refine (HH.out.eng.aOut t _ HH.out.old HT.out).mono ?_
  rintro e w1 ⟨rfl, hb1⟩
  have d1 : w1.cell? ⟨bL, 1, none⟩ = some (.pointer (some ⟨bY, 0, none⟩)) := cell_later hb1 c1
  have d1' := fun ob => cell_new d1 ob
  have HB1 := hide hb1
  clear hb1 c0 c1 cx hm hc
  go_wp2_with fail
  refine (refAnswer_out _ t (HH.out.ref.later (Below.next HB1.out (below_alloc _ _) HB1.out.size)) h2 HT.out).mono ?_
  rintro e w2 ⟨rfl, hb2⟩
  have d2 : w2.cell? ⟨w1.heap.size, 0, none⟩ = some (.int .i64 0) := cell_later hb2 ((Row.new w1 [_, _] 94).cell_of rfl)
  have d3 : w2.cell? ⟨w1.heap.size, 1, none⟩ = some (.int .i64 0) := cell_later hb2 ((Row.new w1 [_, _] 94).cell_of rfl)
  have d2' := fun ob => cell_new d2 ob
  have d3' := fun ob => cell_new d3 ob
  have HB2 := hide (Below.next (Below.next HB1.out (below_alloc _ _) HB1.out.size) hb2 (by have := HB1.out.size; simp; omega))
  clear hb2
  go_wp2_with fail
  go_ret
  exact ⟨rfl, Below.next HB2.out (below_alloc _ _) HB2.out.size⟩

set_option maxRecDepth 20000 in
set_option maxHeartbeats 1000000 in
theorem lawAnswer_new (t : Nat) (h : Both base bL bX bY n g gc bT kind cap st co vn vo tE bN fA fO fS fB ms is w0 w) (h2 : n ≤ 64) (ht : t < n) :
    Calls Tryz.prog 48 #[.pointer (some ⟨bL, 0, none⟩), .int .i64 (t : Int)] w fun e w' => e = .returned (.bool true) ∧ Below w.heap.size w w' := by
  have c0 : w.cell? ⟨bL, 0, none⟩ = some (.pointer (some ⟨bX, 0, none⟩)) := h.law.cell_of rfl
  have c1 : w.cell? ⟨bL, 1, none⟩ = some (.pointer (some ⟨bY, 0, none⟩)) := h.law.cell_of rfl
  have cx : w.cell? ⟨bX, 0, none⟩ = some (.iface tE (.pointer (some ⟨bN, 0, none⟩))) := h.obj.cell_of rfl
  have hm := h.eng.mA
  have hc := h.eng.cA
  have heq : ∀ W, (binOp .eql 94 (.agg #[.int .i64 0, .int .i64 0]) (.agg #[.int .i64 0, .int .i64 0])).run Tryz.prog W = .ok (.bool true) W := fun _ => by kernel_rfl
  have HH := hide h
  have HT := hide ht
  clear h ht
  go_enter Tryz.func48, Tryz.ntmps48
  go_wp2_with fail
  refine (HH.out.eng.aNew t _ HH.out.old HT.out).mono ?_
  rintro e w1 ⟨rfl, hb1⟩
  have d1 : w1.cell? ⟨bL, 1, none⟩ = some (.pointer (some ⟨bY, 0, none⟩)) := cell_later hb1 c1
  have d1' := fun ob => cell_new d1 ob
  have HB1 := hide hb1
  clear hb1 c0 c1 cx hm hc
  go_wp2_with fail
  refine (refAnswer_new _ t (HH.out.ref.later (Below.next HB1.out (below_alloc _ _) HB1.out.size)) h2 HT.out).mono ?_
  rintro e w2 ⟨rfl, hb2⟩
  have d2 : w2.cell? ⟨w1.heap.size, 0, none⟩ = some (.int .i64 0) := cell_later hb2 ((Row.new w1 [_, _] 94).cell_of rfl)
  have d3 : w2.cell? ⟨w1.heap.size, 1, none⟩ = some (.int .i64 0) := cell_later hb2 ((Row.new w1 [_, _] 94).cell_of rfl)
  have d2' := fun ob => cell_new d2 ob
  have d3' := fun ob => cell_new d3 ob
  have HB2 := hide (Below.next (Below.next HB1.out (below_alloc _ _) HB1.out.size) hb2 (by have := HB1.out.size; simp; omega))
  clear hb2
  go_wp2_with fail
  go_ret
  exact ⟨rfl, Below.next HB2.out (below_alloc _ _) HB2.out.size⟩

set_option maxHeartbeats 400000 in
theorem markOf_any (k : Int) (w : World) (h0 : 0 ≤ k) (h1 : k ≤ 9223372036854775807) :
    Calls Tryz.prog 52 #[.int .i64 k] w fun e w' => e = .returned (.agg #[.int .i64 (-1 - k), .int .i64 (-1), .int .i64 (-1)]) ∧ Below w.heap.size w w' := by
  go_enter Tryz.func52, Tryz.ntmps52
  go_wp2
  exact bodyPost_ret (v := .agg #[.int .i64 (-1 - k), .int .i64 (-1), .int .i64 (-1)]) (by simp [results, Tryz.results52, go_sem]) rfl ⟨rfl, (by repeat (first | exact Below.refl _ _ | assumption | refine Below.drewN ?_ _ | refine Below.alloc ?_ (by simp) _))⟩

set_option maxHeartbeats 400000 in
theorem sameMarks_nil (w : World) : Calls Tryz.prog 62 #[.slice none 0 0, .slice none 0 0] w fun e w' => e = .returned (.bool true) ∧ w' = w := by
  go_enter Tryz.func62, Tryz.ntmps62
  go_wp2
  go_loop [5] (fun i => i = .int .i64 0) (fun _ => 0)
  case atStart => rfl
  case round =>
    subst hrel
    go_wp2
    go_ret
    exact ⟨rfl, rfl⟩

end

end Go.Proofs.YtefjhnhdagolhaaGreat

namespace Go.Proofs.YtefjhnhdagolhaaGreat
open Go.RowKit
attribute [local go_sem ↓] Go.wp_at_zero Go.wp_at_succ

theorem info_mout : (Tryz.prog.info? 99).map (fun i => (i.zero, i.size, i.bytes)) = some (some (.agg #[.slice none 0 0, .int .i64 0]), 2, 32) := by kernel_rfl
theorem info_mark : (Tryz.prog.info? 81).map (fun i => (i.zero, i.size, i.bytes)) = some (some (.agg #[.int .i64 0, .int .i64 0, .int .i64 0]), 3, 24) := by kernel_rfl

/-- The caller's lists of marks, laid by. -/
def LayM (w : World) (bL : Nat) (x y is : Value) (i k : Nat) (l : Value) (W : World) : Prop :=
  ∃ gm cm ss, Lay w bL 90 99 81 3 (.int .i64 (-1)) (.int .i64 0) (fun v => [x, y, v, is]) i k l gm cm ss W

set_option maxRecDepth 20000 in
set_option maxHeartbeats 2000000 in
theorem ownMarks_nil (bL : Nat) (x y is : Value) (w : World) (hR : Row w bL 90 [x, y, .slice none 0 0, is]) :
    Calls Tryz.prog 82 #[.pointer (some ⟨bL, 0, none⟩), .slice none 0 0] w fun e w' => e = .returned (.tuple #[]) ∧ ∃ l, LayM w bL x y is 3 3 l w' := by
  obtain ⟨ti, hti, htz⟩ := Option.map_eq_some_iff.1 info_mout
  simp only [Prod.mk.injEq] at htz
  obtain ⟨htz1, htz2, htz3⟩ := htz
  have HTI := hide hti
  have HT1 := hide htz1
  have HT2 := hide htz2
  have HT3 := hide htz3
  obtain ⟨mi, hmi, hmz⟩ := Option.map_eq_some_iff.1 info_mark
  simp only [Prod.mk.injEq] at hmz
  obtain ⟨hmz1, hmz2, hmz3⟩ := hmz
  have HMI := hide hmi
  have HM1 := hide hmz1
  have HM2 := hide hmz2
  have HM3 := hide hmz3
  have c2 : w.cell? ⟨bL, 2, none⟩ = some (.slice none 0 0) := hR.cell_of rfl
  have HR := hide hR
  clear hti htz1 htz2 htz3 hR hmi hmz1 hmz2 hmz3
  go_enter Tryz.func82, Tryz.ntmps82
  go_wp2
  go_loopw [5] (fun i w' => i = .int .i64 0 ∧ w = w') (fun _ _ => 0)
  case atStart => exact ⟨rfl, rfl⟩
  case round =>
    obtain ⟨rfl, rfl⟩ := hrel
    go_wp2_with (at_builtin; refine wpList_append_keep _ rfl (.tmp 27) (.tmp 31) 87 rfl w.heap.size 99 ti (.agg #[.slice none 0 0, .int .i64 0]) 2 32 Tryz.underlying87 HTI.out HT1.out HT2.out HT3.out rfl (by decide) (.slice none 0 0) 0 [] rfl (World.ownsRow_nil _ _ _ _) ⟨w.heap.size, 0, none⟩ 1 1 [.slice none 0 0, .int .i64 0] rfl rfl ?_ (by simp [Value.oneCell']) (by decide) (by decide) (by decide) (by simp) ?_)
    · exact World.news_of_block (Row.new w _ _)
    · intro gm cm w1 hown hgr hlt hk
      have hb1 : Below w.heap.size w w1 := (below_alloc w _).grown hgr (by simp) (fun q hq => by simp [Value.ownBlock] at hq)
      have hr1 : Row w1 bL 90 [x, y, .slice none 0 0, is] := HR.out.old hb1
      have hL : LayM w bL x y is 0 0 (.slice none 0 0) (w1.setCell ⟨bL, 2, none⟩ (.slice (some ⟨gm, 0, none⟩) 1 cm)) :=
        ⟨gm, cm, [.slice none 0 0], rfl, HR.out.lt, hr1.set 2 _, owns_set hown HR.out.lt _, World.ownsRow_nil _ _ _ _, fun s hs => by rw [List.mem_singleton.1 hs]; exact ⟨.inl rfl, by simp⟩, by simp [Value.ownBlock], grown_set ⟨hb1.os, hb1.tape, hb1.output, hb1.size, fun k hk _ => hb1.block k hk⟩ _⟩
      have HL := hide hL
      have d2 : w1.cell? ⟨bL, 2, none⟩ = some (.slice none 0 0) := hr1.cell_of rfl
      have f2 := ((show w1.there bL 0 4 from hr1.there (by simp)) 2 (by decide)).2
      rw [Nat.zero_add] at f2
      clear hown hgr hlt hk hb1 hr1 hL c2
      go_wp2
      go_loopw [1, 6] (fun l i w' => ∃ k : Nat, k ≤ 3 ∧ i = .int .i64 (k : Int) ∧ LayM w bL x y is k k l w') (fun _ i _ => 3 - (intOf i).toNat)
      case atStart => exact ⟨0, by decide, rfl, HL.out⟩
      case round =>
        obtain ⟨k, hk, rfl, gm, cm, ss, hY⟩ := hrel
        have HY := hide hY
        clear hY
        by_cases hlt : k < 3
        · have hlt' : (k : Int) < 3 := by omega
          go_wp2_with fail
          refine (markOf_any 0 _ (by decide) (by decide)).mono ?_
          rintro e w2 ⟨rfl, hb2⟩
          have HY2 := hide (HY.out.next hb2)
          clear hb2
          have hsz := HY2.out.gr.size
          go_wp2_with (at_builtin; refine wpList_append_keep _ rfl (.tmp 39) (.tmp 42) 43 rfl w.heap.size 81 mi (.agg #[.int .i64 0, .int .i64 0, .int .i64 0]) 3 24 Tryz.underlying43 HMI.out HM1.out HM2.out HM3.out rfl (by decide) _ k _ rfl (HY2.out.next (below_alloc _ _)).lis ⟨w2.heap.size, 0, none⟩ 1 1 [.int .i64 (-1), .int .i64 (-1), .int .i64 (-1)] rfl rfl ?_ (by simp [Value.oneCell']) (by decide) (by unfold maxLen; omega) (by omega) (by simp; omega) ?_)
          · exact World.news_of_block (Row.new w2 _ _)
          · intro g3 c3 w3 hown hgr hl3 hk3
            have hY3 := (HY2.out.next (below_alloc _ _)).more (by simpa using hown) hgr (by simpa using hk3)
            have HY3 := hide hY3
            have hc3 : k + 1 ≤ c3 := by
              rcases hown.2 with ⟨q, -⟩ | ⟨_, _, _, q, -, -, q2, -⟩
              · simp at q
              · injection q with q3 q4 q5; omega
            have r2 : w3.cell? ⟨bL, 2, none⟩ = some (.slice (some ⟨gm, 0, none⟩) (k + 1) cm) := hY3.row.cell_of rfl
            have hsz3 := hY3.gr.size
            clear hown hgr hl3 hk3 hY3
            go_wp2_with (at_builtin; refine wpList_append_keep _ rfl (.tmp 48) (.tmp 52) 87 rfl w.heap.size 99 ti (.agg #[.slice none 0 0, .int .i64 0]) 2 32 Tryz.underlying87 HTI.out HT1.out HT2.out HT3.out rfl (by decide) _ (k + 1) _ rfl (HY3.out.next (below_alloc _ _)).own ⟨w3.heap.size, 0, none⟩ 1 1 [.slice (some ⟨g3, 0, none⟩) (k + 1) c3, .int .i64 0] rfl rfl ?_ (by simp [Value.oneCell']) (by decide) (by unfold maxLen; omega) (by omega) (by simp; omega) ?_)
            · exact World.news_of_block (Row.new w3 _ _)
            · intro g4 c4 w4 hown hgr hl4 hk4
              have hY4 := (HY3.out.next (below_alloc _ _)).laid (f := 2) (fun v v' => rfl) hown hgr (by simpa [Value.ownBlock, eq_comm] using hk4.imp id And.left) (.inr ⟨g3, c3, rfl, hc3⟩)
              have HY4 := hide hY4
              have hr4 : Row w4 bL 90 [x, y, .slice (some ⟨gm, 0, none⟩) (k + 1) cm, is] := (HY3.out.next (below_alloc _ _)).row.of_block (hgr.block bL (HY3.out.next (below_alloc _ _)).row.lt (fun q => by have := (HY3.out.own.lt gm rfl).1; have := HY3.out.lt; simp [Value.ownBlock] at q; omega))
              have s2 : w4.cell? ⟨bL, 2, none⟩ = some (.slice (some ⟨gm, 0, none⟩) (k + 1) cm) := hr4.cell_of rfl
              have f4 := ((show w4.there bL 0 4 from hr4.there (by simp)) 2 (by decide)).2
              rw [Nat.zero_add] at f4
              clear hr4
              clear hown hgr hl4 hk4 hY4 r2
              go_wp2
              go_roundw
              case rel => exact ⟨k + 1, by omega, by go_num, _, _, _, HY4.out⟩
              case measure => simp [intOf]; omega
        · have hlt' : ¬ (k : Int) < 3 := by omega
          have hk3 : k = 3 := by omega
          subst hk3
          go_wp2
          exact bodyPost_end (v := .tuple #[]) (by simp [results, Tryz.results82, go_sem]) rfl ⟨rfl, _, _, _, _, HY.out⟩

end Go.Proofs.YtefjhnhdagolhaaGreat

namespace Go.Proofs.YtefjhnhdagolhaaGreat
open Go.RowKit
attribute [local go_sem ↓] Go.wp_at_zero Go.wp_at_succ

theorem info_iout : (Tryz.prog.info? 102).map (fun i => (i.zero, i.size, i.bytes)) = some (some (.agg #[.slice none 0 0, .int .i64 0]), 2, 32) := by kernel_rfl
theorem info_i3 : (Tryz.prog.info? 3).map (fun i => (i.zero, i.size, i.bytes)) = some (some (.int .i64 0), 1, 8) := by kernel_rfl

/-- The caller's lists of numbers, laid by. -/
def LayI (w : World) (bL : Nat) (x y ms : Value) (i k : Nat) (l : Value) (W : World) : Prop :=
  ∃ gm cm ss, Lay w bL 90 102 3 1 (.int .i64 (-1)) (.int .i64 0) (fun v => [x, y, ms, v]) i k l gm cm ss W

/-- The first list is laid by. -/
theorem Lay.first {V : World} {bL : Nat} {tW tO tL : TypeId} {sz : Nat} {u mk v0 : Value} {cs : Value → List Value} {W : World} {l : Value} {k gm cm f : Nat} (hl : bL < V.heap.size) (hr : Row W bL tW (cs v0)) (hcs : ∀ v v', (cs v).set f v' = cs v')
    (hown : W.ownsRow V.heap.size tO 2 (.slice (some ⟨gm, 0, none⟩) 1 cm) 1 [l, mk]) (hlis : W.ownsRow V.heap.size tL sz l k (List.replicate (k * sz) u)) (hg : l.ownBlock ≠ some gm) (hb : Below V.heap.size V W)
    (hlk : l = .slice none 0 0 ∨ ∃ g c, l = .slice (some ⟨g, 0, none⟩) k c ∧ k ≤ c) : Lay V bL tW tO tL sz u mk cs 0 k l gm cm [l] (W.setCell ⟨bL, f, none⟩ (.slice (some ⟨gm, 0, none⟩) 1 cm)) := by
  have hw := hlis.lt
  refine ⟨rfl, hl, ?_, ?_, owns_set hlis hl _, ?_, hg, grown_set ⟨hb.os, hb.tape, hb.output, hb.size, fun k hk _ => hb.block k hk⟩ _⟩
  · have := hr.set f (.slice (some ⟨gm, 0, none⟩) 1 cm)
    rw [hcs] at this
    exact this
  · exact owns_set hown hl _
  · intro s hs
    rw [List.mem_singleton.1 hs]
    rcases hlk with rfl | ⟨g, c, rfl, hc⟩
    · exact ⟨.inl rfl, by simp⟩
    · have h5 := hw g rfl
      have hr : Reads (fun _ => u) sz k (.slice (some ⟨g, 0, none⟩) k c) W := .inr ⟨g, k, c, rfl, Nat.le_refl _, hc, h5.2, fun p hp => by
        have := hlis.cells (g := g) rfl p u (by simp [hp])
        rw [show (⟨g, 0, none⟩ : Addr).add p = ⟨g, p, none⟩ by by_cases q : p = 0 <;> simp [Addr.add, q]] at this
        exact this⟩
      refine ⟨hr.set _ (fun g' j c' q => ?_), fun g' j c' q => ?_⟩
      · injection q with q1; injection q1 with q2; injection q2 with q3
        show g' ≠ bL
        omega
      · injection q with q1; injection q1 with q2; injection q2 with q3
        subst q3
        exact ⟨h5.1, fun q => hg (by rw [q]; rfl)⟩

theorem fill_next {u : Value} {xs : List Value} {j : Nat} (h : j < xs.length) : (List.replicate j u ++ xs.drop j).set j u = List.replicate (j + 1) u ++ xs.drop (j + 1) := by
  rw [List.set_append_right _ _ (by simp), List.length_replicate, Nat.sub_self, List.drop_eq_getElem_cons h, List.set_cons_zero, List.replicate_succ']
  simp

set_option maxRecDepth 20000 in
set_option maxHeartbeats 2000000 in
theorem ownInts_nil (bL : Nat) (x y ms : Value) (V w : World) (hV : Below V.heap.size V w) (hL : bL < V.heap.size) (hR : Row w bL 90 [x, y, ms, .slice none 0 0]) (v : Value) (n : Nat) (xs : List Value) (hO : w.ownsRow V.heap.size 3 1 v n xs) (hn : n ≤ 1048576) :
    Calls Tryz.prog 83 #[.pointer (some ⟨bL, 0, none⟩), v] w fun e w' => e = .returned (.tuple #[]) ∧ ∃ l, LayI V bL x y ms 3 (n + 3) l w' := by
  obtain ⟨ti, hti, htz⟩ := Option.map_eq_some_iff.1 info_iout
  simp only [Prod.mk.injEq] at htz
  obtain ⟨htz1, htz2, htz3⟩ := htz
  have HTI := hide hti
  have HT1 := hide htz1
  have HT2 := hide htz2
  have HT3 := hide htz3
  obtain ⟨mi, hmi, hmz⟩ := Option.map_eq_some_iff.1 info_i3
  simp only [Prod.mk.injEq] at hmz
  obtain ⟨hmz1, hmz2, hmz3⟩ := hmz
  have HMI := hide hmi
  have HM1 := hide hmz1
  have HM2 := hide hmz2
  have HM3 := hide hmz3
  have c3 : w.cell? ⟨bL, 3, none⟩ = some (.slice none 0 0) := hR.cell_of rfl
  have HR := hide (show Row V bL 90 [x, y, ms, .slice none 0 0] from hR.of_block (hV.block bL hL).symm)
  have hxl : xs.length = n := by simpa using hO.1
  have hv : ∃ a c, v = .slice a n c ∧ (0 < n → ∃ g, a = some ⟨g, 0, none⟩) ∧ (Value.slice a n c = .slice none 0 0 ∨ ∃ g c', Value.slice a n c = .slice (some ⟨g, 0, none⟩) n c' ∧ n ≤ c') := by
    rcases hO.2 with ⟨rfl, rfl⟩ | ⟨g, cap, cur, rfl, -, -, hc, -⟩
    · exact ⟨none, 0, rfl, fun h => absurd h (by decide), .inl rfl⟩
    · exact ⟨_, cap, rfl, fun _ => ⟨g, rfl⟩, .inr ⟨g, cap, rfl, hc⟩⟩
  obtain ⟨a, c, rfl, ha, hlk⟩ := hv
  have HS := hide (show Below V.heap.size V w ∧ w.ownsRow V.heap.size 3 1 (.slice a n c) n (List.replicate 0 (.int .i64 (-1)) ++ xs.drop 0) from ⟨hV, by simpa using hO⟩)
  have HA := hide ha
  have HLK := hide hlk
  clear hti htz1 htz2 htz3 hR hmi hmz1 hmz2 hmz3 hV hO ha hlk
  go_enter Tryz.func83, Tryz.ntmps83
  go_wp2
  go_loopw [5] (fun i w' => ∃ j : Nat, j ≤ n ∧ i = .int .i64 (j : Int) ∧ Below V.heap.size V w' ∧ w'.ownsRow V.heap.size 3 1 (.slice a n c) n (List.replicate j (.int .i64 (-1)) ++ xs.drop j)) (fun i _ => n - (intOf i).toNat)
  case atStart => exact ⟨0, Nat.zero_le _, rfl, HS.out⟩
  case round =>
    obtain ⟨j, hj, rfl, hB, hO⟩ := hrel
    by_cases hlt : j < n
    · obtain ⟨g, rfl⟩ := HA.out (by omega)
      have hlt' : (j : Int) < (n : Int) := by omega
      have hj0 : (0 : Int) ≤ (j : Int) := by omega
      have hc := hO.cellAt j (by simpa using hlt)
      obtain ⟨u, hu⟩ : ∃ u, wr.cell? ⟨g, j, none⟩ = some u := by
        rw [hc, List.getElem?_eq_getElem (by simp; omega)]
        exact ⟨_, rfl⟩
      have fz := hO.frozenAt j
      have HX := hide (And.intro hB hO)
      clear hB hO hc
      go_wp2
      go_roundw
      case rel => exact ⟨j + 1, by omega, by go_num, HX.out.1.setCell (HX.out.2.lt g rfl).1 _, by have := (HX.out.2.stored j (.int .i64 (-1))).1; rwa [fill_next (by omega)] at this⟩
      case measure => simp [intOf]; omega
    · have hlt' : ¬ (j : Int) < (n : Int) := by omega
      have hjn : j = n := by omega
      subst hjn
      have hO' : wr.ownsRow V.heap.size 3 1 (.slice a j c) j (List.replicate (j * 1) (.int .i64 (-1))) := by
        have h2 := hO
        rw [List.drop_eq_nil_of_le (by omega), List.append_nil] at h2
        simpa using h2
      have hr0 := HR.out.old hB
      have d3 : wr.cell? ⟨bL, 3, none⟩ = some (.slice none 0 0) := hr0.cell_of rfl
      have HX := hide (And.intro hB hO')
      clear hB hO hO' hr0
      go_wp2_with (at_builtin; refine wpList_append_keep _ rfl (.tmp 27) (.tmp 31) 88 rfl V.heap.size 102 ti (.agg #[.slice none 0 0, .int .i64 0]) 2 32 Tryz.underlying88 HTI.out HT1.out HT2.out HT3.out rfl (by decide) (.slice none 0 0) 0 [] rfl (World.ownsRow_nil _ _ _ _) ⟨wr.heap.size, 0, none⟩ 1 1 [.slice a j c, .int .i64 0] rfl rfl (World.news_of_block (Row.new _ _ _)) (by simp [Value.oneCell']) (by decide) (by decide) (by decide) (by have := HX.out.1.size; simp; omega) ?_)
      · intro gm cm w1 hown hgr hlt2 hk
        have hb1 : Below wr.heap.size wr w1 := (below_alloc wr _).grown hgr (by simp) (fun q hq => by simp [Value.ownBlock] at hq)
        have hbv : Below V.heap.size V w1 := Below.next HX.out.1 hb1 HX.out.1.size
        have hr1 : Row w1 bL 90 [x, y, ms, .slice none 0 0] := HR.out.old hbv
        have hgm : gm = wr.heap.size + 1 := by
          rcases hk with hk | ⟨hk, -⟩
          · simp [Value.ownBlock] at hk
          · simpa using hk
        have hL : LayI V bL x y ms 0 j (.slice a j c) (w1.setCell ⟨bL, 3, none⟩ (.slice (some ⟨gm, 0, none⟩) 1 cm)) :=
          ⟨gm, cm, _, Lay.first hL hr1 (fun _ _ => rfl) hown (HX.out.2.kept (grown_below hb1) (by cases (Value.slice a j c).ownBlock <;> simp)) (fun q => by have := (HX.out.2.lt gm q).2; omega) hbv HLK.out⟩
        have HL := hide hL
        have d3' : w1.cell? ⟨bL, 3, none⟩ = some (.slice none 0 0) := hr1.cell_of rfl
        have f3 := ((show w1.there bL 0 4 from hr1.there (by simp)) 3 (by decide)).2
        rw [Nat.zero_add] at f3
        clear hown hgr hlt2 hk hb1 hbv hr1 hL d3 c3 hgm
        go_wp2
        go_loopw [1, 6] (fun l i w' => ∃ k : Nat, k ≤ 3 ∧ i = .int .i64 (k : Int) ∧ LayI V bL x y ms k (j + k) l w') (fun _ i _ => 3 - (intOf i).toNat)
        case atStart => exact ⟨0, by decide, rfl, HL.out⟩
        case round =>
          obtain ⟨k, hk, rfl, gm, cm, ss, hY⟩ := hrel
          have HY := hide hY
          have hszv := hY.gr.size
          clear hY
          by_cases hlt3 : k < 3
          · have hlt3' : (k : Int) < 3 := by omega
            go_wp2_with (at_builtin; refine wpList_append_keep _ rfl (.tmp 39) (.tmp 42) 22 rfl V.heap.size 3 mi (.int .i64 0) 1 8 Tryz.underlying22 HMI.out HM1.out HM2.out HM3.out rfl (by decide) _ (j + k) _ rfl (HY.out.next (below_alloc _ _)).lis ⟨wr.heap.size, 0, none⟩ 1 1 [.int .i64 (-1)] rfl rfl (World.news_of_block (Row.new _ _ _)) (by simp [Value.oneCell']) (by decide) (by unfold maxLen; omega) (by omega) (by simp; omega) ?_)
            · intro g3 c3 w3 hown hgr hl3 hk3
              have hY3 := (HY.out.next (below_alloc _ _)).more (by simpa using hown) hgr (by simpa using hk3)
              have HY3 := hide hY3
              have hc3 : j + k + 1 ≤ c3 := by
                rcases hown.2 with ⟨q, -⟩ | ⟨_, _, _, q, -, -, q2, -⟩
                · simp at q
                · injection q with q3 q4 q5; omega
              have r2 : w3.cell? ⟨bL, 3, none⟩ = some (.slice (some ⟨gm, 0, none⟩) (k + 1) cm) := hY3.row.cell_of rfl
              have hsz3 := hY3.gr.size
              clear hown hgr hl3 hk3 hY3
              go_wp2_with (at_builtin; refine wpList_append_keep _ rfl (.tmp 48) (.tmp 52) 88 rfl V.heap.size 102 ti (.agg #[.slice none 0 0, .int .i64 0]) 2 32 Tryz.underlying88 HTI.out HT1.out HT2.out HT3.out rfl (by decide) _ (k + 1) _ rfl (HY3.out.next (below_alloc _ _)).own ⟨w3.heap.size, 0, none⟩ 1 1 [.slice (some ⟨g3, 0, none⟩) (j + k + 1) c3, .int .i64 0] rfl rfl (World.news_of_block (Row.new _ _ _)) (by simp [Value.oneCell']) (by decide) (by unfold maxLen; omega) (by omega) (by simp; omega) ?_)
              · intro g4 c4 w4 hown hgr hl4 hk4
                have hY4 := (HY3.out.next (below_alloc _ _)).laid (f := 3) (fun v v' => rfl) hown hgr (by simpa [Value.ownBlock, eq_comm] using hk4.imp id And.left) (.inr ⟨g3, c3, rfl, hc3⟩)
                have HY4 := hide hY4
                have hr4 : Row w4 bL 90 [x, y, ms, .slice (some ⟨gm, 0, none⟩) (k + 1) cm] := (HY3.out.next (below_alloc _ _)).row.of_block (hgr.block bL (HY3.out.next (below_alloc _ _)).row.lt (fun q => by have := (HY3.out.own.lt gm rfl).1; have := HY3.out.lt; simp [Value.ownBlock] at q; omega))
                have s2 : w4.cell? ⟨bL, 3, none⟩ = some (.slice (some ⟨gm, 0, none⟩) (k + 1) cm) := hr4.cell_of rfl
                have f4 := ((show w4.there bL 0 4 from hr4.there (by simp)) 3 (by decide)).2
                rw [Nat.zero_add] at f4
                clear hr4
                clear hown hgr hl4 hk4 hY4 r2
                go_wp2
                go_roundw
                case rel => exact ⟨k + 1, by omega, by go_num, _, _, _, HY4.out⟩
                case measure => simp [intOf]; omega
          · have hlt3' : ¬ (k : Int) < 3 := by omega
            have hk3 : k = 3 := by omega
            subst hk3
            go_wp2
            exact bodyPost_end (v := .tuple #[]) (by simp [results, Tryz.results83, go_sem]) rfl ⟨rfl, _, _, _, _, HY.out⟩

end Go.Proofs.YtefjhnhdagolhaaGreat

namespace Go.Proofs.YtefjhnhdagolhaaGreat
open Go.RowKit
attribute [local go_sem ↓] Go.wp_at_zero Go.wp_at_succ

/-- The caller's lists that are laid by, each with its mark. -/
def Entries (W : World) (v : Value) (es : List (Value × Nat)) : Prop :=
  ∃ a c, v = .slice a es.length c ∧ (0 < es.length → ∃ g, a = some ⟨g, 0, none⟩ ∧ g < W.heap.size ∧ ∀ (t : Nat) (s : Value) (k : Nat), es[t]? = some (s, k) → W.cell? ⟨g, t * 2, none⟩ = some s ∧ W.cell? ⟨g, t * 2 + 1, none⟩ = some (.int .i64 (k : Int)))

theorem Reads.open {mk : Nat → Value} {sz i : Nat} {s : Value} {W : World} (h : Reads mk sz i s W) :
    ∃ a j c, s = .slice a j c ∧ j ≤ i ∧ (0 < j → ∃ g, a = some ⟨g, 0, none⟩ ∧ g < W.heap.size ∧ ∀ p, p < j * sz → W.cell? ⟨g, p, none⟩ = some (mk p)) := by
  rcases h with rfl | ⟨g, j, c, rfl, h1, -, h3, h4⟩
  · exact ⟨none, 0, 0, rfl, Nat.zero_le _, fun h => absurd h (by decide)⟩
  · exact ⟨_, j, c, rfl, h1, fun _ => ⟨g, rfl, h3, h4⟩⟩

/-- What the caller writes into a list of marks. -/
def markCell (k : Nat) (p : Nat) : Value := .int .i64 (if p % 3 = 0 then -1 - (k : Int) else -1)
def intCell (k : Nat) (_ : Nat) : Value := .int .i64 (-1 - (k : Int))

/-- One list of marks, looked at from q on. -/
def OAt (W : World) (b : Nat) (s : Value) (m : Nat) (w' : World) : Prop := Below W.heap.size W w' ∧ w'.cell? ⟨b, 0, none⟩ = some s ∧ w'.cell? ⟨b, 1, none⟩ = some (.int .i64 (m : Int)) ∧ b < w'.heap.size
theorem OAt.next {W : World} {b : Nat} {s : Value} {m : Nat} {w1 w2 : World} (h : OAt W b s m w1) (hb : Below w1.heap.size w1 w2) : OAt W b s m w2 :=
  ⟨Below.next h.1 hb h.1.size, cell_later hb h.2.1, cell_later hb h.2.2.1, Nat.lt_of_lt_of_le h.2.2.2 hb.size⟩
theorem OAt.drewN {W : World} {b : Nat} {s : Value} {m : Nat} {w1 : World} (h : OAt W b s m w1) (n : Nat) : OAt W b s m (w1.drewN n) := h.next (Below.drewN (Below.refl _ _) n)

set_option maxRecDepth 20000 in
set_option maxHeartbeats 4000000 in
theorem looks_any (bL : Nat) (x y ms is : Value) (es1 es2 : List (Value × Nat)) (J : Nat) (hJ : J ≤ 1099511627776) (W : World) (hR : Row W bL 90 [x, y, ms, is]) (h1 : Entries W ms es1) (h2 : Entries W is es2) (l1 : es1.length ≤ 1099511627776) (l2 : es2.length ≤ 1099511627776)
    (r1 : ∀ s k, (s, k) ∈ es1 → k ≤ 1099511627776 ∧ Reads (markCell k) 3 J s W) (r2 : ∀ s k, (s, k) ∈ es2 → k ≤ 1099511627776 ∧ Reads (intCell k) 1 J s W) :
    Calls Tryz.prog 19 #[.pointer (some ⟨bL, 0, none⟩)] W fun e w' => e = .returned (.bool true) ∧ Below W.heap.size W w' := by
  obtain ⟨am, cm, rfl, hm⟩ := h1
  obtain ⟨ai, ci, rfl, hi⟩ := h2
  have HM := hide hm
  have HI := hide hi
  have R1 := hide r1
  have R2 := hide r2
  have HR := hide hR
  clear hm hi r1 r2 hR
  go_enter Tryz.func19, Tryz.ntmps19
  go_wp2
  go_loopw [3] (fun i w' => ∃ k : Nat, k ≤ es1.length ∧ i = .int .i64 (k : Int) ∧ Below W.heap.size W w') (fun i _ => es1.length - (intOf i).toNat)
  case atStart => exact ⟨0, Nat.zero_le _, rfl, Below.refl _ _⟩
  case round =>
    obtain ⟨k, hk, rfl, hB⟩ := hrel
    have c2 : wr.cell? ⟨bL, 2, none⟩ = some (.slice am es1.length cm) := (HR.out.old hB).cell_of rfl
    by_cases hlt : k < es1.length
    · have hlt' : (k : Int) < (es1.length : Int) := by omega
      have hk0 : (0 : Int) ≤ (k : Int) := by omega
      obtain ⟨g, rfl, hg, hcs⟩ := HM.out (by omega)
      have he : es1[k]? = some (es1[k].1, es1[k].2) := List.getElem?_eq_getElem hlt
      obtain ⟨hc1, hc2⟩ := hcs k _ _ he
      obtain ⟨hkm, hrd⟩ := R1.out _ _ (List.mem_of_getElem? he)
      generalize es1[k].2 = m at he hc2 hkm hrd
      generalize es1[k].1 = s at he hc1 hrd
      obtain ⟨a, j, c, rfl, hj, hrs⟩ := hrd.open
      have d1 : wr.cell? ⟨g, k * 2, none⟩ = some (.slice a j c) := cell_later hB hc1
      have d2 : wr.cell? ⟨g, k * 2 + 1, none⟩ = some (.int .i64 (m : Int)) := cell_later hB hc2
      have HB := hide hB
      have HRS := hide hrs
      have HO := hide (fun (W' : World) (hw : W' = wr.alloc (.cells #[.slice a j c, .int .i64 (m : Int)] 99)) => (show OAt W wr.heap.size (.slice a j c) m W' by
        subst hw
        exact ⟨Below.next hB (below_alloc _ _) hB.size, (Row.new wr [_, _] 99).cell_of rfl, (Row.new wr [_, _] 99).cell_of rfl, by simp⟩))
      clear hB hrs hrd hc1 hc2 hcs he
      go_wp2
      go_loopw [5] (fun i w' => ∃ q : Nat, q ≤ j ∧ i = .int .i64 (q : Int) ∧ OAt W wr.heap.size (.slice a j c) m w') (fun i _ => j - (intOf i).toNat)
      case atStart => exact ⟨0, Nat.zero_le _, rfl, HO.out _ (by first | rfl | simp)⟩
      case round =>
        obtain ⟨q, hq, rfl, hO⟩ := hrel
        have o1 := hO.2.1
        have o2 := hO.2.2.1
        have o3 := hO.2.2.2
        by_cases hlt2 : q < j
        · obtain ⟨g2, rfl, hg2, hcell⟩ := HRS.out (by omega)
          have hlt2' : (q : Int) < (j : Int) := by omega
          have hq0 : (0 : Int) ≤ (q : Int) := by omega
          have e0 : wr.cell? ⟨g2, q * 3, none⟩ = some (.int .i64 (-1 - (m : Int))) := by
            rw [cell_later hO.1 (hcell (q * 3) (by omega)), markCell, if_pos (by omega)]
          have e1 : wr.cell? ⟨g2, q * 3 + 1, none⟩ = some (.int .i64 (-1)) := by
            rw [cell_later hO.1 (hcell (q * 3 + 1) (by omega)), markCell, if_neg (by omega)]
          have e2 : wr.cell? ⟨g2, q * 3 + 2, none⟩ = some (.int .i64 (-1)) := by
            rw [cell_later hO.1 (hcell (q * 3 + 2) (by omega)), markCell, if_neg (by omega)]
          have hgw : g2 < wr.heap.size := Nat.lt_of_lt_of_le hg2 hO.1.size
          have HO2 := hide hO
          clear hO hcell
          go_wp2
          go_region_with (first | (go_at_call 52; refine (markOf_any (m : Int) _ (by omega) (by omega)).mono ?_; rintro e w' ⟨rfl, hb⟩; have e0' := cell_later hb e0; have e1' := cell_later hb e1; have e2' := cell_later hb e2; have o1' := cell_later hb o1; have o2' := cell_later hb o2; have HB' := hide hb; clear hb))
          all_goals go_wp2
          all_goals go_roundw
          all_goals first | exact ⟨q + 1, by omega, by go_num, HO2.out.next (by first | exact HB'.out | exact Below.drewN HB'.out _ | (repeat (first | exact HB'.out | refine Below.drewN ?_ _ | refine Below.drew ?_ | refine Below.undrew ?_)))⟩ | (simp [intOf]; omega)
        · have hlt2' : ¬ (q : Int) < (j : Int) := by omega
          have HO2 := hide hO
          clear hO
          go_wp2
          go_roundw
          case rel => exact ⟨k + 1, by omega, by go_num, HO2.out.1⟩
          case measure => simp [intOf]; omega
    · have hlt' : ¬ (k : Int) < (es1.length : Int) := by omega
      have HB := hide hB
      clear hB
      go_wp2
      go_loopw [6] (fun i w' => ∃ k : Nat, k ≤ es2.length ∧ i = .int .i64 (k : Int) ∧ Below W.heap.size W w') (fun i _ => es2.length - (intOf i).toNat)
      case atStart => exact ⟨0, Nat.zero_le _, rfl, HB.out⟩
      case round =>
        obtain ⟨k, hk, rfl, hB⟩ := hrel
        have c3 : wr.cell? ⟨bL, 3, none⟩ = some (.slice ai es2.length ci) := (HR.out.old hB).cell_of rfl
        by_cases hlt : k < es2.length
        · have hlt' : (k : Int) < (es2.length : Int) := by omega
          have hk0 : (0 : Int) ≤ (k : Int) := by omega
          obtain ⟨g, rfl, hg, hcs⟩ := HI.out (by omega)
          have he : es2[k]? = some (es2[k].1, es2[k].2) := List.getElem?_eq_getElem hlt
          obtain ⟨hc1, hc2⟩ := hcs k _ _ he
          obtain ⟨hkm, hrd⟩ := R2.out _ _ (List.mem_of_getElem? he)
          generalize es2[k].2 = m at he hc2 hkm hrd
          generalize es2[k].1 = s at he hc1 hrd
          obtain ⟨a, j, c, rfl, hj, hrs⟩ := hrd.open
          have d1 : wr.cell? ⟨g, k * 2, none⟩ = some (.slice a j c) := cell_later hB hc1
          have d2 : wr.cell? ⟨g, k * 2 + 1, none⟩ = some (.int .i64 (m : Int)) := cell_later hB hc2
          have HB := hide hB
          have HRS := hide hrs
          have HO := hide (fun (W' : World) (hw : W' = wr.alloc (.cells #[.slice a j c, .int .i64 (m : Int)] 102)) => (show OAt W wr.heap.size (.slice a j c) m W' by
            subst hw
            exact ⟨Below.next hB (below_alloc _ _) hB.size, (Row.new wr [_, _] 102).cell_of rfl, (Row.new wr [_, _] 102).cell_of rfl, by simp⟩))
          clear hB hrs hrd hc1 hc2 hcs he
          go_wp2
          go_loopw [8] (fun i w' => ∃ q : Nat, q ≤ j ∧ i = .int .i64 (q : Int) ∧ OAt W wr.heap.size (.slice a j c) m w') (fun i _ => j - (intOf i).toNat)
          case atStart => exact ⟨0, Nat.zero_le _, rfl, HO.out _ (by first | rfl | simp)⟩
          case round =>
            obtain ⟨q, hq, rfl, hO⟩ := hrel
            have o1 := hO.2.1
            have o2 := hO.2.2.1
            have o3 := hO.2.2.2
            by_cases hlt2 : q < j
            · obtain ⟨g2, rfl, hg2, hcell⟩ := HRS.out (by omega)
              have hlt2' : (q : Int) < (j : Int) := by omega
              have hq0 : (0 : Int) ≤ (q : Int) := by omega
              have e0 : wr.cell? ⟨g2, q, none⟩ = some (.int .i64 (-1 - (m : Int))) := by
                rw [cell_later hO.1 (hcell q (by omega)), intCell]
              have HO2 := hide hO
              clear hO hcell
              go_wp2
              go_quiet (fail)
              go_wp2
              go_roundw
              case rel => exact ⟨q + 1, by omega, by go_num, HO2.out.drewN _⟩
              case measure => simp [intOf]; omega
            · have hlt2' : ¬ (q : Int) < (j : Int) := by omega
              have HO2 := hide hO
              clear hO
              go_wp2
              go_roundw
              case rel => exact ⟨k + 1, by omega, by go_num, HO2.out.1⟩
              case measure => simp [intOf]; omega
        · have hlt' : ¬ (k : Int) < (es2.length : Int) := by omega
          have HB := hide hB
          clear hB
          go_wp2
          go_ret
          exact ⟨rfl, HB.out⟩

end Go.Proofs.YtefjhnhdagolhaaGreat
