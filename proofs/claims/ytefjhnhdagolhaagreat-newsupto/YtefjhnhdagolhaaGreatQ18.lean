import Derived.Test.YtefjhnhdagolhaaGreatQ00
import Derived.Test.YtefjhnhdagolhaaGreatQ17
import Derived.Test.YtefjhnhdagolhaaGreatQ16
import Derived.Test.YtefjhnhdagolhaaGreatProg
import Derived.WalkKit
import Derived.ProofKit
import Derived.OpenShut
import Derived.JoinedCond
import Derived.Lib.SmallJoins
namespace Go.Proofs.YtefjhnhdagolhaaGreat
open Go.RowKit
attribute [local go_sem ↓] Go.wp_at_zero Go.wp_at_succ
theorem info_mout : (Tryz.prog.info? 99).map (fun i => (i.zero, i.size, i.bytes)) = some (some (.agg #[.slice none 0 0, .int .i64 0]), 2, 32) := by kernel_rfl
theorem info_mark : (Tryz.prog.info? 81).map (fun i => (i.zero, i.size, i.bytes)) = some (some (.agg #[.int .i64 0, .int .i64 0, .int .i64 0]), 3, 24) := by kernel_rfl
def LayM (w : World) (bL : Nat) (x y is : Value) (i k : Nat) (l : Value) (W : World) : Prop :=
  ∃ gm cm ss, Lay w bL 90 99 81 3 (.int .i64 (-1)) (.int .i64 0) (fun v => [x, y, v, is]) i k l gm cm ss W
set_option maxRecDepth 20000 in
set_option maxHeartbeats 2000000 in
theorem ownMarks_nil (bL : Nat) (x y is : Value) (w : World) (hR : Row w bL 90 [x, y, .slice none 0 0, is]) :
    Calls Tryz.prog 82 #[.pointer (some ⟨bL, 0, none⟩), .slice none 0 0] w fun e w' => e = .returned (.tuple #[]) ∧ ∃ l, LayM w bL x y is 3 3 l w' := by
  obtain ⟨ti, hti, htz⟩ := Option.map_eq_some_iff.1 info_mout
  simp only [Prod.mk.injEq] at htz
  obtain ⟨htz1, htz2, htz3⟩ := htz
  have HTI := hide hti
  have HT1 := hide htz1
  have HT2 := hide htz2
  have HT3 := hide htz3
  obtain ⟨mi, hmi, hmz⟩ := Option.map_eq_some_iff.1 info_mark
  simp only [Prod.mk.injEq] at hmz
  obtain ⟨hmz1, hmz2, hmz3⟩ := hmz
  have HMI := hide hmi
  have HM1 := hide hmz1
  have HM2 := hide hmz2
  have HM3 := hide hmz3
  have c2 : w.cell? ⟨bL, 2, none⟩ = some (.slice none 0 0) := hR.cell_of rfl
  have HR := hide hR
  clear hti htz1 htz2 htz3 hR hmi hmz1 hmz2 hmz3
  go_enter Tryz.func82, Tryz.ntmps82
  go_wp2
  go_loopw [5] (fun i w' => i = .int .i64 0 ∧ w = w') (fun _ _ => 0)
  case atStart => exact ⟨rfl, rfl⟩
  case round =>
    obtain ⟨rfl, rfl⟩ := hrel
    go_wp2_with (at_builtin; refine wpList_append_keep _ rfl (.tmp 27) (.tmp 31) 87 rfl w.heap.size 99 ti (.agg #[.slice none 0 0, .int .i64 0]) 2 32 Tryz.underlying87 HTI.out HT1.out HT2.out HT3.out rfl (by decide) (.slice none 0 0) 0 [] rfl (World.ownsRow_nil _ _ _ _) ⟨w.heap.size, 0, none⟩ 1 1 [.slice none 0 0, .int .i64 0] rfl rfl ?_ (by simp [Value.oneCell']) (by decide) (by decide) (by decide) (by simp) ?_)
    · exact World.news_of_block (Row.new w _ _)
    · intro gm cm w1 hown hgr hlt hk
      have hb1 : Below w.heap.size w w1 := (below_alloc w _).grown hgr (by simp) (fun q hq => by simp [Value.ownBlock] at hq)
      have hr1 : Row w1 bL 90 [x, y, .slice none 0 0, is] := HR.out.old hb1
      have hL : LayM w bL x y is 0 0 (.slice none 0 0) (w1.setCell ⟨bL, 2, none⟩ (.slice (some ⟨gm, 0, none⟩) 1 cm)) :=
        ⟨gm, cm, [.slice none 0 0], rfl, HR.out.lt, hr1.set 2 _, owns_set hown HR.out.lt _, World.ownsRow_nil _ _ _ _, fun s hs => by rw [List.mem_singleton.1 hs]; exact ⟨.inl rfl, by simp⟩, by simp [Value.ownBlock], grown_set ⟨hb1.os, hb1.tape, hb1.output, hb1.size, fun k hk _ => hb1.block k hk⟩ _⟩
      have HL := hide hL
      have d2 : w1.cell? ⟨bL, 2, none⟩ = some (.slice none 0 0) := hr1.cell_of rfl
      have f2 := ((show w1.there bL 0 4 from hr1.there (by simp)) 2 (by decide)).2
      rw [Nat.zero_add] at f2
      clear hown hgr hlt hk hb1 hr1 hL c2
      go_wp2
      go_loopw [1, 6] (fun l i w' => ∃ k : Nat, k ≤ 3 ∧ i = .int .i64 (k : Int) ∧ LayM w bL x y is k k l w') (fun _ i _ => 3 - (intOf i).toNat)
      case atStart => exact ⟨0, by decide, rfl, HL.out⟩
      case round =>
        obtain ⟨k, hk, rfl, gm, cm, ss, hY⟩ := hrel
        have HY := hide hY
        clear hY
        by_cases hlt : k < 3
        · have hlt' : (k : Int) < 3 := by omega
          go_wp2_with fail
          refine (markOf_any 0 _ (by decide) (by decide)).mono ?_
          rintro e w2 ⟨rfl, hb2⟩
          have HY2 := hide (HY.out.next hb2)
          clear hb2
          have hsz := HY2.out.gr.size
          go_wp2_with (at_builtin; refine wpList_append_keep _ rfl (.tmp 39) (.tmp 42) 43 rfl w.heap.size 81 mi (.agg #[.int .i64 0, .int .i64 0, .int .i64 0]) 3 24 Tryz.underlying43 HMI.out HM1.out HM2.out HM3.out rfl (by decide) _ k _ rfl (HY2.out.next (below_alloc _ _)).lis ⟨w2.heap.size, 0, none⟩ 1 1 [.int .i64 (-1), .int .i64 (-1), .int .i64 (-1)] rfl rfl ?_ (by simp [Value.oneCell']) (by decide) (by unfold maxLen; omega) (by omega) (by simp; omega) ?_)
          · exact World.news_of_block (Row.new w2 _ _)
          · intro g3 c3 w3 hown hgr hl3 hk3
            have hY3 := (HY2.out.next (below_alloc _ _)).more (by simpa using hown) hgr (by simpa using hk3)
            have HY3 := hide hY3
            have hc3 : k + 1 ≤ c3 := by
              rcases hown.2 with ⟨q, -⟩ | ⟨_, _, _, q, -, -, q2, -⟩
              · simp at q
              · injection q with q3 q4 q5; omega
            have r2 : w3.cell? ⟨bL, 2, none⟩ = some (.slice (some ⟨gm, 0, none⟩) (k + 1) cm) := hY3.row.cell_of rfl
            have hsz3 := hY3.gr.size
            clear hown hgr hl3 hk3 hY3
            go_wp2_with (at_builtin; refine wpList_append_keep _ rfl (.tmp 48) (.tmp 52) 87 rfl w.heap.size 99 ti (.agg #[.slice none 0 0, .int .i64 0]) 2 32 Tryz.underlying87 HTI.out HT1.out HT2.out HT3.out rfl (by decide) _ (k + 1) _ rfl (HY3.out.next (below_alloc _ _)).own ⟨w3.heap.size, 0, none⟩ 1 1 [.slice (some ⟨g3, 0, none⟩) (k + 1) c3, .int .i64 0] rfl rfl ?_ (by simp [Value.oneCell']) (by decide) (by unfold maxLen; omega) (by omega) (by simp; omega) ?_)
            · exact World.news_of_block (Row.new w3 _ _)
            · intro g4 c4 w4 hown hgr hl4 hk4
              have hY4 := (HY3.out.next (below_alloc _ _)).laid (f := 2) (fun v v' => rfl) hown hgr (by simpa [Value.ownBlock, eq_comm] using hk4.imp id And.left) (.inr ⟨g3, c3, rfl, hc3⟩)
              have HY4 := hide hY4
              have hr4 : Row w4 bL 90 [x, y, .slice (some ⟨gm, 0, none⟩) (k + 1) cm, is] := (HY3.out.next (below_alloc _ _)).row.of_block (hgr.block bL (HY3.out.next (below_alloc _ _)).row.lt (fun q => by have := (HY3.out.own.lt gm rfl).1; have := HY3.out.lt; simp [Value.ownBlock] at q; omega))
              have s2 : w4.cell? ⟨bL, 2, none⟩ = some (.slice (some ⟨gm, 0, none⟩) (k + 1) cm) := hr4.cell_of rfl
              have f4 := ((show w4.there bL 0 4 from hr4.there (by simp)) 2 (by decide)).2
              rw [Nat.zero_add] at f4
              clear hr4
              clear hown hgr hl4 hk4 hY4 r2
              go_wp2
              go_roundw
              case rel => exact ⟨k + 1, by omega, by go_num, _, _, _, HY4.out⟩
              case measure => simp [intOf]; omega
        · have hlt' : ¬ (k : Int) < 3 := by omega
          have hk3 : k = 3 := by omega
          subst hk3
          go_wp2
          exact bodyPost_end (v := .tuple #[]) (by simp [results, Tryz.results82, go_sem]) rfl ⟨rfl, _, _, _, _, HY.out⟩
end Go.Proofs.YtefjhnhdagolhaaGreat
namespace Go.Proofs.YtefjhnhdagolhaaGreat
open Go.RowKit
attribute [local go_sem ↓] Go.wp_at_zero Go.wp_at_succ
theorem info_iout : (Tryz.prog.info? 102).map (fun i => (i.zero, i.size, i.bytes)) = some (some (.agg #[.slice none 0 0, .int .i64 0]), 2, 32) := by kernel_rfl
theorem info_i3 : (Tryz.prog.info? 3).map (fun i => (i.zero, i.size, i.bytes)) = some (some (.int .i64 0), 1, 8) := by kernel_rfl
def LayI (w : World) (bL : Nat) (x y ms : Value) (i k : Nat) (l : Value) (W : World) : Prop :=
  ∃ gm cm ss, Lay w bL 90 102 3 1 (.int .i64 (-1)) (.int .i64 0) (fun v => [x, y, ms, v]) i k l gm cm ss W
theorem Lay.first {V : World} {bL : Nat} {tW tO tL : TypeId} {sz : Nat} {u mk v0 : Value} {cs : Value → List Value} {W : World} {l : Value} {k gm cm f : Nat} (hl : bL < V.heap.size) (hr : Row W bL tW (cs v0)) (hcs : ∀ v v', (cs v).set f v' = cs v')
    (hown : W.ownsRow V.heap.size tO 2 (.slice (some ⟨gm, 0, none⟩) 1 cm) 1 [l, mk]) (hlis : W.ownsRow V.heap.size tL sz l k (List.replicate (k * sz) u)) (hg : l.ownBlock ≠ some gm) (hb : Below V.heap.size V W)
    (hlk : l = .slice none 0 0 ∨ ∃ g c, l = .slice (some ⟨g, 0, none⟩) k c ∧ k ≤ c) : Lay V bL tW tO tL sz u mk cs 0 k l gm cm [l] (W.setCell ⟨bL, f, none⟩ (.slice (some ⟨gm, 0, none⟩) 1 cm)) := by
  have hw := hlis.lt
  refine ⟨rfl, hl, ?_, ?_, owns_set hlis hl _, ?_, hg, grown_set ⟨hb.os, hb.tape, hb.output, hb.size, fun k hk _ => hb.block k hk⟩ _⟩
  · have := hr.set f (.slice (some ⟨gm, 0, none⟩) 1 cm)
    rw [hcs] at this
    exact this
  · exact owns_set hown hl _
  · intro s hs
    rw [List.mem_singleton.1 hs]
    rcases hlk with rfl | ⟨g, c, rfl, hc⟩
    · exact ⟨.inl rfl, by simp⟩
    · have h5 := hw g rfl
      have hr : Reads (fun _ => u) sz k (.slice (some ⟨g, 0, none⟩) k c) W := .inr ⟨g, k, c, rfl, Nat.le_refl _, hc, h5.2, fun p hp => by
        have := hlis.cells (g := g) rfl p u (by simp [hp])
        rw [show (⟨g, 0, none⟩ : Addr).add p = ⟨g, p, none⟩ by by_cases q : p = 0 <;> simp [Addr.add, q]] at this
        exact this⟩
      refine ⟨hr.set _ (fun g' j c' q => ?_), fun g' j c' q => ?_⟩
      · injection q with q1; injection q1 with q2; injection q2 with q3
        show g' ≠ bL
        omega
      · injection q with q1; injection q1 with q2; injection q2 with q3
        subst q3
        exact ⟨h5.1, fun q => hg (by rw [q]; rfl)⟩
theorem fill_next {u : Value} {xs : List Value} {j : Nat} (h : j < xs.length) : (List.replicate j u ++ xs.drop j).set j u = List.replicate (j + 1) u ++ xs.drop (j + 1) := by
  rw [List.set_append_right _ _ (by simp), List.length_replicate, Nat.sub_self, List.drop_eq_getElem_cons h, List.set_cons_zero, List.replicate_succ']
  simp
set_option maxRecDepth 20000 in
set_option maxHeartbeats 2000000 in
theorem ownInts_nil (bL : Nat) (x y ms : Value) (V w : World) (hV : Below V.heap.size V w) (hL : bL < V.heap.size) (hR : Row w bL 90 [x, y, ms, .slice none 0 0]) (v : Value) (n : Nat) (xs : List Value) (hO : w.ownsRow V.heap.size 3 1 v n xs) (hn : n ≤ 1048576) :
    Calls Tryz.prog 83 #[.pointer (some ⟨bL, 0, none⟩), v] w fun e w' => e = .returned (.tuple #[]) ∧ ∃ l, LayI V bL x y ms 3 (n + 3) l w' := by
  obtain ⟨ti, hti, htz⟩ := Option.map_eq_some_iff.1 info_iout
  simp only [Prod.mk.injEq] at htz
  obtain ⟨htz1, htz2, htz3⟩ := htz
  have HTI := hide hti
  have HT1 := hide htz1
  have HT2 := hide htz2
  have HT3 := hide htz3
  obtain ⟨mi, hmi, hmz⟩ := Option.map_eq_some_iff.1 info_i3
  simp only [Prod.mk.injEq] at hmz
  obtain ⟨hmz1, hmz2, hmz3⟩ := hmz
  have HMI := hide hmi
  have HM1 := hide hmz1
  have HM2 := hide hmz2
  have HM3 := hide hmz3
  have c3 : w.cell? ⟨bL, 3, none⟩ = some (.slice none 0 0) := hR.cell_of rfl
  have HR := hide (show Row V bL 90 [x, y, ms, .slice none 0 0] from hR.of_block (hV.block bL hL).symm)
  have hxl : xs.length = n := by simpa using hO.1
  have hv : ∃ a c, v = .slice a n c ∧ (0 < n → ∃ g, a = some ⟨g, 0, none⟩) ∧ (Value.slice a n c = .slice none 0 0 ∨ ∃ g c', Value.slice a n c = .slice (some ⟨g, 0, none⟩) n c' ∧ n ≤ c') := by
    rcases hO.2 with ⟨rfl, rfl⟩ | ⟨g, cap, cur, rfl, -, -, hc, -⟩
    · exact ⟨none, 0, rfl, fun h => absurd h (by decide), .inl rfl⟩
    · exact ⟨_, cap, rfl, fun _ => ⟨g, rfl⟩, .inr ⟨g, cap, rfl, hc⟩⟩
  obtain ⟨a, c, rfl, ha, hlk⟩ := hv
  have HS := hide (show Below V.heap.size V w ∧ w.ownsRow V.heap.size 3 1 (.slice a n c) n (List.replicate 0 (.int .i64 (-1)) ++ xs.drop 0) from ⟨hV, by simpa using hO⟩)
  have HA := hide ha
  have HLK := hide hlk
  clear hti htz1 htz2 htz3 hR hmi hmz1 hmz2 hmz3 hV hO ha hlk
  go_enter Tryz.func83, Tryz.ntmps83
  go_wp2
  go_loopw [5] (fun i w' => ∃ j : Nat, j ≤ n ∧ i = .int .i64 (j : Int) ∧ Below V.heap.size V w' ∧ w'.ownsRow V.heap.size 3 1 (.slice a n c) n (List.replicate j (.int .i64 (-1)) ++ xs.drop j)) (fun i _ => n - (intOf i).toNat)
  case atStart => exact ⟨0, Nat.zero_le _, rfl, HS.out⟩
  case round =>
    obtain ⟨j, hj, rfl, hB, hO⟩ := hrel
    by_cases hlt : j < n
    · obtain ⟨g, rfl⟩ := HA.out (by omega)
      have hlt' : (j : Int) < (n : Int) := by omega
      have hj0 : (0 : Int) ≤ (j : Int) := by omega
      have hc := hO.cellAt j (by simpa using hlt)
      obtain ⟨u, hu⟩ : ∃ u, wr.cell? ⟨g, j, none⟩ = some u := by
        rw [hc, List.getElem?_eq_getElem (by simp; omega)]
        exact ⟨_, rfl⟩
      have fz := hO.frozenAt j
      have HX := hide (And.intro hB hO)
      clear hB hO hc
      go_wp2
      go_roundw
      case rel => exact ⟨j + 1, by omega, by go_num, HX.out.1.setCell (HX.out.2.lt g rfl).1 _, by have := (HX.out.2.stored j (.int .i64 (-1))).1; rwa [fill_next (by omega)] at this⟩
      case measure => simp [intOf]; omega
    · have hlt' : ¬ (j : Int) < (n : Int) := by omega
      have hjn : j = n := by omega
      subst hjn
      have hO' : wr.ownsRow V.heap.size 3 1 (.slice a j c) j (List.replicate (j * 1) (.int .i64 (-1))) := by
        have h2 := hO
        rw [List.drop_eq_nil_of_le (by omega), List.append_nil] at h2
        simpa using h2
      have hr0 := HR.out.old hB
      have d3 : wr.cell? ⟨bL, 3, none⟩ = some (.slice none 0 0) := hr0.cell_of rfl
      have HX := hide (And.intro hB hO')
      clear hB hO hO' hr0
      go_wp2_with (at_builtin; refine wpList_append_keep _ rfl (.tmp 27) (.tmp 31) 88 rfl V.heap.size 102 ti (.agg #[.slice none 0 0, .int .i64 0]) 2 32 Tryz.underlying88 HTI.out HT1.out HT2.out HT3.out rfl (by decide) (.slice none 0 0) 0 [] rfl (World.ownsRow_nil _ _ _ _) ⟨wr.heap.size, 0, none⟩ 1 1 [.slice a j c, .int .i64 0] rfl rfl (World.news_of_block (Row.new _ _ _)) (by simp [Value.oneCell']) (by decide) (by decide) (by decide) (by have := HX.out.1.size; simp; omega) ?_)
      · intro gm cm w1 hown hgr hlt2 hk
        have hb1 : Below wr.heap.size wr w1 := (below_alloc wr _).grown hgr (by simp) (fun q hq => by simp [Value.ownBlock] at hq)
        have hbv : Below V.heap.size V w1 := Below.next HX.out.1 hb1 HX.out.1.size
        have hr1 : Row w1 bL 90 [x, y, ms, .slice none 0 0] := HR.out.old hbv
        have hgm : gm = wr.heap.size + 1 := by
          rcases hk with hk | ⟨hk, -⟩
          · simp [Value.ownBlock] at hk
          · simpa using hk
        have hL : LayI V bL x y ms 0 j (.slice a j c) (w1.setCell ⟨bL, 3, none⟩ (.slice (some ⟨gm, 0, none⟩) 1 cm)) :=
          ⟨gm, cm, _, Lay.first hL hr1 (fun _ _ => rfl) hown (HX.out.2.kept (grown_below hb1) (by cases (Value.slice a j c).ownBlock <;> simp)) (fun q => by have := (HX.out.2.lt gm q).2; omega) hbv HLK.out⟩
        have HL := hide hL
        have d3' : w1.cell? ⟨bL, 3, none⟩ = some (.slice none 0 0) := hr1.cell_of rfl
        have f3 := ((show w1.there bL 0 4 from hr1.there (by simp)) 3 (by decide)).2
        rw [Nat.zero_add] at f3
        clear hown hgr hlt2 hk hb1 hbv hr1 hL d3 c3 hgm
        go_wp2
        go_loopw [1, 6] (fun l i w' => ∃ k : Nat, k ≤ 3 ∧ i = .int .i64 (k : Int) ∧ LayI V bL x y ms k (j + k) l w') (fun _ i _ => 3 - (intOf i).toNat)
        case atStart => exact ⟨0, by decide, rfl, HL.out⟩
        case round =>
          obtain ⟨k, hk, rfl, gm, cm, ss, hY⟩ := hrel
          have HY := hide hY
          have hszv := hY.gr.size
          clear hY
          by_cases hlt3 : k < 3
          · have hlt3' : (k : Int) < 3 := by omega
            go_wp2_with (at_builtin; refine wpList_append_keep _ rfl (.tmp 39) (.tmp 42) 22 rfl V.heap.size 3 mi (.int .i64 0) 1 8 Tryz.underlying22 HMI.out HM1.out HM2.out HM3.out rfl (by decide) _ (j + k) _ rfl (HY.out.next (below_alloc _ _)).lis ⟨wr.heap.size, 0, none⟩ 1 1 [.int .i64 (-1)] rfl rfl (World.news_of_block (Row.new _ _ _)) (by simp [Value.oneCell']) (by decide) (by unfold maxLen; omega) (by omega) (by simp; omega) ?_)
            · intro g3 c3 w3 hown hgr hl3 hk3
              have hY3 := (HY.out.next (below_alloc _ _)).more (by simpa using hown) hgr (by simpa using hk3)
              have HY3 := hide hY3
              have hc3 : j + k + 1 ≤ c3 := by
                rcases hown.2 with ⟨q, -⟩ | ⟨_, _, _, q, -, -, q2, -⟩
                · simp at q
                · injection q with q3 q4 q5; omega
              have r2 : w3.cell? ⟨bL, 3, none⟩ = some (.slice (some ⟨gm, 0, none⟩) (k + 1) cm) := hY3.row.cell_of rfl
              have hsz3 := hY3.gr.size
              clear hown hgr hl3 hk3 hY3
              go_wp2_with (at_builtin; refine wpList_append_keep _ rfl (.tmp 48) (.tmp 52) 88 rfl V.heap.size 102 ti (.agg #[.slice none 0 0, .int .i64 0]) 2 32 Tryz.underlying88 HTI.out HT1.out HT2.out HT3.out rfl (by decide) _ (k + 1) _ rfl (HY3.out.next (below_alloc _ _)).own ⟨w3.heap.size, 0, none⟩ 1 1 [.slice (some ⟨g3, 0, none⟩) (j + k + 1) c3, .int .i64 0] rfl rfl (World.news_of_block (Row.new _ _ _)) (by simp [Value.oneCell']) (by decide) (by unfold maxLen; omega) (by omega) (by simp; omega) ?_)
              · intro g4 c4 w4 hown hgr hl4 hk4
                have hY4 := (HY3.out.next (below_alloc _ _)).laid (f := 3) (fun v v' => rfl) hown hgr (by simpa [Value.ownBlock, eq_comm] using hk4.imp id And.left) (.inr ⟨g3, c3, rfl, hc3⟩)
                have HY4 := hide hY4
                have hr4 : Row w4 bL 90 [x, y, ms, .slice (some ⟨gm, 0, none⟩) (k + 1) cm] := (HY3.out.next (below_alloc _ _)).row.of_block (hgr.block bL (HY3.out.next (below_alloc _ _)).row.lt (fun q => by have := (HY3.out.own.lt gm rfl).1; have := HY3.out.lt; simp [Value.ownBlock] at q; omega))
                have s2 : w4.cell? ⟨bL, 3, none⟩ = some (.slice (some ⟨gm, 0, none⟩) (k + 1) cm) := hr4.cell_of rfl
                have f4 := ((show w4.there bL 0 4 from hr4.there (by simp)) 3 (by decide)).2
                rw [Nat.zero_add] at f4
                clear hr4
                clear hown hgr hl4 hk4 hY4 r2
                go_wp2
                go_roundw
                case rel => exact ⟨k + 1, by omega, by go_num, _, _, _, HY4.out⟩
                case measure => simp [intOf]; omega
          · have hlt3' : ¬ (k : Int) < 3 := by omega
            have hk3 : k = 3 := by omega
            subst hk3
            go_wp2
            exact bodyPost_end (v := .tuple #[]) (by simp [results, Tryz.results83, go_sem]) rfl ⟨rfl, _, _, _, _, HY.out⟩
end Go.Proofs.YtefjhnhdagolhaaGreat
namespace Go.Proofs.YtefjhnhdagolhaaGreat
open Go.RowKit
attribute [local go_sem ↓] Go.wp_at_zero Go.wp_at_succ
def Entries (W : World) (v : Value) (es : List (Value × Nat)) : Prop :=
  ∃ a c, v = .slice a es.length c ∧ (0 < es.length → ∃ g, a = some ⟨g, 0, none⟩ ∧ g < W.heap.size ∧ ∀ (t : Nat) (s : Value) (k : Nat), es[t]? = some (s, k) → W.cell? ⟨g, t * 2, none⟩ = some s ∧ W.cell? ⟨g, t * 2 + 1, none⟩ = some (.int .i64 (k : Int)))
theorem Reads.open {mk : Nat → Value} {sz i : Nat} {s : Value} {W : World} (h : Reads mk sz i s W) :
    ∃ a j c, s = .slice a j c ∧ j ≤ i ∧ (0 < j → ∃ g, a = some ⟨g, 0, none⟩ ∧ g < W.heap.size ∧ ∀ p, p < j * sz → W.cell? ⟨g, p, none⟩ = some (mk p)) := by
  rcases h with rfl | ⟨g, j, c, rfl, h1, -, h3, h4⟩
  · exact ⟨none, 0, 0, rfl, Nat.zero_le _, fun h => absurd h (by decide)⟩
  · exact ⟨_, j, c, rfl, h1, fun _ => ⟨g, rfl, h3, h4⟩⟩
def markCell (k : Nat) (p : Nat) : Value := .int .i64 (if p % 3 = 0 then -1 - (k : Int) else -1)
def intCell (k : Nat) (_ : Nat) : Value := .int .i64 (-1 - (k : Int))
def OAt (W : World) (b : Nat) (s : Value) (m : Nat) (w' : World) : Prop := Below W.heap.size W w' ∧ w'.cell? ⟨b, 0, none⟩ = some s ∧ w'.cell? ⟨b, 1, none⟩ = some (.int .i64 (m : Int)) ∧ b < w'.heap.size
theorem OAt.next {W : World} {b : Nat} {s : Value} {m : Nat} {w1 w2 : World} (h : OAt W b s m w1) (hb : Below w1.heap.size w1 w2) : OAt W b s m w2 :=
  ⟨Below.next h.1 hb h.1.size, cell_later hb h.2.1, cell_later hb h.2.2.1, Nat.lt_of_lt_of_le h.2.2.2 hb.size⟩
theorem OAt.drewN {W : World} {b : Nat} {s : Value} {m : Nat} {w1 : World} (h : OAt W b s m w1) (n : Nat) : OAt W b s m (w1.drewN n) := h.next (Below.drewN (Below.refl _ _) n)
set_option maxRecDepth 20000 in
set_option maxHeartbeats 4000000 in
theorem looks_any (bL : Nat) (x y ms is : Value) (es1 es2 : List (Value × Nat)) (J : Nat) (hJ : J ≤ 1099511627776) (W : World) (hR : Row W bL 90 [x, y, ms, is]) (h1 : Entries W ms es1) (h2 : Entries W is es2) (l1 : es1.length ≤ 1099511627776) (l2 : es2.length ≤ 1099511627776)
    (r1 : ∀ s k, (s, k) ∈ es1 → k ≤ 1099511627776 ∧ Reads (markCell k) 3 J s W) (r2 : ∀ s k, (s, k) ∈ es2 → k ≤ 1099511627776 ∧ Reads (intCell k) 1 J s W) :
    Calls Tryz.prog 19 #[.pointer (some ⟨bL, 0, none⟩)] W fun e w' => e = .returned (.bool true) ∧ Below W.heap.size W w' := by
  obtain ⟨am, cm, rfl, hm⟩ := h1
  obtain ⟨ai, ci, rfl, hi⟩ := h2
  have HM := hide hm
  have HI := hide hi
  have R1 := hide r1
  have R2 := hide r2
  have HR := hide hR
  clear hm hi r1 r2 hR
  go_enter Tryz.func19, Tryz.ntmps19
  go_wp2
  go_loopw [3] (fun i w' => ∃ k : Nat, k ≤ es1.length ∧ i = .int .i64 (k : Int) ∧ Below W.heap.size W w') (fun i _ => es1.length - (intOf i).toNat)
  case atStart => exact ⟨0, Nat.zero_le _, rfl, Below.refl _ _⟩
  case round =>
    obtain ⟨k, hk, rfl, hB⟩ := hrel
    have c2 : wr.cell? ⟨bL, 2, none⟩ = some (.slice am es1.length cm) := (HR.out.old hB).cell_of rfl
    by_cases hlt : k < es1.length
    · have hlt' : (k : Int) < (es1.length : Int) := by omega
      have hk0 : (0 : Int) ≤ (k : Int) := by omega
      obtain ⟨g, rfl, hg, hcs⟩ := HM.out (by omega)
      have he : es1[k]? = some (es1[k].1, es1[k].2) := List.getElem?_eq_getElem hlt
      obtain ⟨hc1, hc2⟩ := hcs k _ _ he
      obtain ⟨hkm, hrd⟩ := R1.out _ _ (List.mem_of_getElem? he)
      generalize es1[k].2 = m at he hc2 hkm hrd
      generalize es1[k].1 = s at he hc1 hrd
      obtain ⟨a, j, c, rfl, hj, hrs⟩ := hrd.open
      have d1 : wr.cell? ⟨g, k * 2, none⟩ = some (.slice a j c) := cell_later hB hc1
      have d2 : wr.cell? ⟨g, k * 2 + 1, none⟩ = some (.int .i64 (m : Int)) := cell_later hB hc2
      have HB := hide hB
      have HRS := hide hrs
      have HO := hide (fun (W' : World) (hw : W' = wr.alloc (.cells #[.slice a j c, .int .i64 (m : Int)] 99)) => (show OAt W wr.heap.size (.slice a j c) m W' by
        subst hw
        exact ⟨Below.next hB (below_alloc _ _) hB.size, (Row.new wr [_, _] 99).cell_of rfl, (Row.new wr [_, _] 99).cell_of rfl, by simp⟩))
      clear hB hrs hrd hc1 hc2 hcs he
      go_wp2
      go_loopw [5] (fun i w' => ∃ q : Nat, q ≤ j ∧ i = .int .i64 (q : Int) ∧ OAt W wr.heap.size (.slice a j c) m w') (fun i _ => j - (intOf i).toNat)
      case atStart => exact ⟨0, Nat.zero_le _, rfl, HO.out _ (by first | rfl | simp)⟩
      case round =>
        obtain ⟨q, hq, rfl, hO⟩ := hrel
        have o1 := hO.2.1
        have o2 := hO.2.2.1
        have o3 := hO.2.2.2
        by_cases hlt2 : q < j
        · obtain ⟨g2, rfl, hg2, hcell⟩ := HRS.out (by omega)
          have hlt2' : (q : Int) < (j : Int) := by omega
          have hq0 : (0 : Int) ≤ (q : Int) := by omega
          have e0 : wr.cell? ⟨g2, q * 3, none⟩ = some (.int .i64 (-1 - (m : Int))) := by
            rw [cell_later hO.1 (hcell (q * 3) (by omega)), markCell, if_pos (by omega)]
          have e1 : wr.cell? ⟨g2, q * 3 + 1, none⟩ = some (.int .i64 (-1)) := by
            rw [cell_later hO.1 (hcell (q * 3 + 1) (by omega)), markCell, if_neg (by omega)]
          have e2 : wr.cell? ⟨g2, q * 3 + 2, none⟩ = some (.int .i64 (-1)) := by
            rw [cell_later hO.1 (hcell (q * 3 + 2) (by omega)), markCell, if_neg (by omega)]
          have hgw : g2 < wr.heap.size := Nat.lt_of_lt_of_le hg2 hO.1.size
          have HO2 := hide hO
          clear hO hcell
          go_wp2
          go_region_with (first | (go_at_call 52; refine (markOf_any (m : Int) _ (by omega) (by omega)).mono ?_; rintro e w' ⟨rfl, hb⟩; have e0' := cell_later hb e0; have e1' := cell_later hb e1; have e2' := cell_later hb e2; have o1' := cell_later hb o1; have o2' := cell_later hb o2; have HB' := hide hb; clear hb))
          all_goals go_wp2
          all_goals go_roundw
          all_goals first | exact ⟨q + 1, by omega, by go_num, HO2.out.next (by first | exact HB'.out | exact Below.drewN HB'.out _ | (repeat (first | exact HB'.out | refine Below.drewN ?_ _ | refine Below.drew ?_ | refine Below.undrew ?_)))⟩ | (simp [intOf]; omega)
        · have hlt2' : ¬ (q : Int) < (j : Int) := by omega
          have HO2 := hide hO
          clear hO
          go_wp2
          go_roundw
          case rel => exact ⟨k + 1, by omega, by go_num, HO2.out.1⟩
          case measure => simp [intOf]; omega
    · have hlt' : ¬ (k : Int) < (es1.length : Int) := by omega
      have HB := hide hB
      clear hB
      go_wp2
      go_loopw [6] (fun i w' => ∃ k : Nat, k ≤ es2.length ∧ i = .int .i64 (k : Int) ∧ Below W.heap.size W w') (fun i _ => es2.length - (intOf i).toNat)
      case atStart => exact ⟨0, Nat.zero_le _, rfl, HB.out⟩
      case round =>
        obtain ⟨k, hk, rfl, hB⟩ := hrel
        have c3 : wr.cell? ⟨bL, 3, none⟩ = some (.slice ai es2.length ci) := (HR.out.old hB).cell_of rfl
        by_cases hlt : k < es2.length
        · have hlt' : (k : Int) < (es2.length : Int) := by omega
          have hk0 : (0 : Int) ≤ (k : Int) := by omega
          obtain ⟨g, rfl, hg, hcs⟩ := HI.out (by omega)
          have he : es2[k]? = some (es2[k].1, es2[k].2) := List.getElem?_eq_getElem hlt
          obtain ⟨hc1, hc2⟩ := hcs k _ _ he
          obtain ⟨hkm, hrd⟩ := R2.out _ _ (List.mem_of_getElem? he)
          generalize es2[k].2 = m at he hc2 hkm hrd
          generalize es2[k].1 = s at he hc1 hrd
          obtain ⟨a, j, c, rfl, hj, hrs⟩ := hrd.open
          have d1 : wr.cell? ⟨g, k * 2, none⟩ = some (.slice a j c) := cell_later hB hc1
          have d2 : wr.cell? ⟨g, k * 2 + 1, none⟩ = some (.int .i64 (m : Int)) := cell_later hB hc2
          have HB := hide hB
          have HRS := hide hrs
          have HO := hide (fun (W' : World) (hw : W' = wr.alloc (.cells #[.slice a j c, .int .i64 (m : Int)] 102)) => (show OAt W wr.heap.size (.slice a j c) m W' by
            subst hw
            exact ⟨Below.next hB (below_alloc _ _) hB.size, (Row.new wr [_, _] 102).cell_of rfl, (Row.new wr [_, _] 102).cell_of rfl, by simp⟩))
          clear hB hrs hrd hc1 hc2 hcs he
          go_wp2
          go_loopw [8] (fun i w' => ∃ q : Nat, q ≤ j ∧ i = .int .i64 (q : Int) ∧ OAt W wr.heap.size (.slice a j c) m w') (fun i _ => j - (intOf i).toNat)
          case atStart => exact ⟨0, Nat.zero_le _, rfl, HO.out _ (by first | rfl | simp)⟩
          case round =>
            obtain ⟨q, hq, rfl, hO⟩ := hrel
            have o1 := hO.2.1
            have o2 := hO.2.2.1
            have o3 := hO.2.2.2
            by_cases hlt2 : q < j
            · obtain ⟨g2, rfl, hg2, hcell⟩ := HRS.out (by omega)
              have hlt2' : (q : Int) < (j : Int) := by omega
              have hq0 : (0 : Int) ≤ (q : Int) := by omega
              have e0 : wr.cell? ⟨g2, q, none⟩ = some (.int .i64 (-1 - (m : Int))) := by
                rw [cell_later hO.1 (hcell q (by omega)), intCell]
              have HO2 := hide hO
              clear hO hcell
              go_wp2
              go_quiet (fail)
              go_wp2
              go_roundw
              case rel => exact ⟨q + 1, by omega, by go_num, HO2.out.drewN _⟩
              case measure => simp [intOf]; omega
            · have hlt2' : ¬ (q : Int) < (j : Int) := by omega
              have HO2 := hide hO
              clear hO
              go_wp2
              go_roundw
              case rel => exact ⟨k + 1, by omega, by go_num, HO2.out.1⟩
              case measure => simp [intOf]; omega
        · have hlt' : ¬ (k : Int) < (es2.length : Int) := by omega
          have HB := hide hB
          clear hB
          go_wp2
          go_ret
          exact ⟨rfl, HB.out⟩
end Go.Proofs.YtefjhnhdagolhaaGreat
namespace Go.Proofs.YtefjhnhdagolhaaGreat
open Go.RowKit
attribute [local go_sem ↓] Go.wp_at_zero Go.wp_at_succ
theorem results_agg2 {P : Program} {fn : Func} {tmps : Array Value} {a a' : Tmp} {t t' : TypeId} {w : World} {b o b' o' : Nat} {cs cs' : List Value} {d d' : TypeDesc} (hr : fn.results = #[.cell a t, .cell a' t']) (ha : tmps.getD a undef = .pointer (some ⟨b, o, none⟩)) (ha' : tmps.getD a' undef = .pointer (some ⟨b', o', none⟩))
    (hc : w.rangeAt b o cs) (hc' : w.rangeAt b' o' cs') (hu : P.underlying t = some d) (hd : d.isRow = true) (hi : (P.info? t).map (·.size) = some cs.length) (hu' : P.underlying t' = some d') (hd' : d'.isRow = true) (hi' : (P.info? t').map (·.size) = some cs'.length) :
    (results fn tmps).run P w = .ok (.tuple #[.agg cs.toArray, .agg cs'.toArray]) w := by
  rw [Array.getD_eq_getD_getElem?] at ha ha'
  unfold results
  simp [hr, ha, ha', asAddr, run_loadVar_mid w b o t cs d hc hu hd hi, run_loadVar_mid w b' o' t' cs' d' hc' hu' hd' hi']
theorem owns_setCells {base : Nat} {e : TypeId} {size : Nat} {v : Value} {n : Nat} {xs : List Value} {b : Nat} (hb : b < base) : ∀ (vs : List Value) (o : Nat) (w : World), w.ownsRow base e size v n xs → (w.setCells b o vs).ownsRow base e size v n xs
  | [], _, _, h => h
  | u :: vs, o, _, h => owns_setCells hb vs (o + 1) _ (ownsRow_setCell_below h (a := ⟨b, o, none⟩) hb u)
set_option maxRecDepth 20000 in
set_option maxHeartbeats 1500000 in
theorem replay_new {b n g gc : Nat} {bT : Nat → Nat} {kind cap st co : Int} {a1 : Option Addr} {l1 c1 : Nat} {a2 : Option Addr} {l2 c2 : Nat} (t q : Int) (w : World) (hR : RefRd b n g gc bT kind cap st co (.slice a1 l1 c1) (.slice a2 l2 c2) w) (h1 : 1 ≤ kind) (h2 : kind ≤ 5) :
    Calls Tryz.prog 88 #[.pointer (some ⟨b, 0, none⟩), .int .i64 t, .int .i64 q] w fun e w' => ∃ a l c, e = .returned (.tuple #[.agg #[.int .i64 kind, .int .i64 st, .int .i64 co, .slice a1 l1 c1, .slice a2 l2 c2, .slice a l c], .agg #[.int .i64 0, .int .i64 0]]) ∧
      w'.ownsRow w.heap.size 3 1 (.slice a l c) (holdsNew kind).length (ints (holdsNew kind)) ∧ Below w.heap.size w w' ∧ (holdsNew kind = [] → a = none ∧ l = 0 ∧ c = 0) := by
  have HR := hide hR
  obtain ⟨-, k0, k1, k2, k3, k4, k5, k6⟩ : True ∧ w.cell? ⟨b, 0, none⟩ = some (.int .i64 kind) ∧ w.cell? ⟨b, 1, none⟩ = some (.int .i64 (n : Int)) ∧ w.cell? ⟨b, 2, none⟩ = some (.int .i64 cap) ∧ w.cell? ⟨b, 3, none⟩ = some (.int .i64 st) ∧ w.cell? ⟨b, 4, none⟩ = some (.int .i64 co) ∧ w.cell? ⟨b, 5, none⟩ = some (.slice a1 l1 c1) ∧ w.cell? ⟨b, 6, none⟩ = some (.slice a2 l2 c2) :=
    ⟨trivial, hR.row.cell_of rfl, hR.row.cell_of rfl, hR.row.cell_of rfl, hR.row.cell_of rfl, hR.row.cell_of rfl, hR.row.cell_of rfl, hR.row.cell_of rfl⟩
  have hlt : b < w.heap.size := World.block_lt_of_cell? w _ k0
  have hne1 : ¬ b = w.heap.size := by omega
  have hne2 : ¬ b = w.heap.size + 1 := by omega
  clear hR
  go_enter Tryz.func88, Tryz.ntmps88
  go_wp2_with fail
  refine (start_any kind (n : Int) cap st co a1 l1 c1 a2 l2 c2 _ h1 h2).mono ?_
  rintro e w1 ⟨a, l, c, rfl, hO, hb1, hnil⟩
  have HNIL := hide hnil
  clear hnil
  have hN : Row w1 w.heap.size 159 [.int .i64 0, .int .i64 0, .int .i64 0, .slice none 0 0, .slice none 0 0, .slice none 0 0] := ((Row.new' rfl).alloc _).old hb1
  have hM : Row w1 (w.heap.size + 1) 94 [.int .i64 0, .int .i64 0] := (Row.new' (by simp)).old hb1
  have HB1 := hide (Below.next (((Below.refl _ _).alloc (Nat.le_refl _) _).alloc (by simp) _) hb1 (by simp; omega))
  have HO := hide hO
  have hz1 : w.heap.size + 1 < w1.heap.size := hM.lt
  have m0 : w1.cell? ⟨w.heap.size, 0, none⟩ = some (.int .i64 0) := hN.cell_of rfl
  have m1 : w1.cell? ⟨w.heap.size, 1, none⟩ = some (.int .i64 0) := hN.cell_of rfl
  have m2 : w1.cell? ⟨w.heap.size, 2, none⟩ = some (.int .i64 0) := hN.cell_of rfl
  have m3 : w1.cell? ⟨w.heap.size, 3, none⟩ = some (.slice none 0 0) := hN.cell_of rfl
  have m4 : w1.cell? ⟨w.heap.size, 4, none⟩ = some (.slice none 0 0) := hN.cell_of rfl
  have m5 : w1.cell? ⟨w.heap.size, 5, none⟩ = some (.slice none 0 0) := hN.cell_of rfl
  have mf := hN.frozen
  have y0 : w1.cell? ⟨w.heap.size + 1, 0, none⟩ = some (.int .i64 0) := hM.cell_of rfl
  have y1 : w1.cell? ⟨w.heap.size + 1, 1, none⟩ = some (.int .i64 0) := hM.cell_of rfl
  have yf := hM.frozen
  have HTN := hide (hN.there (o := 0) (n := 6) (by simp))
  have HTM := hide (hM.there (o := 0) (n := 2) (by simp))
  clear hN hM hO hb1 k0 k1 k2 k3 k4 k5 k6 m0 m1 m2 m3 m4 m5 mf y0 y1 yf
  go_wp2_with fail
  refine (refOrder_new _ (HR.out.later (Below.next HB1.out (((Below.refl _ _).alloc (Nat.le_refl _) _).alloc (by simp) _) HB1.out.size))).mono ?_
  rintro e w2 ⟨rfl, rfl⟩
  go_wp2_with fail
  go_loop [11] (fun i => i = .int .i64 0) (fun _ => 0)
  case atStart => rfl
  case round =>
    subst hrel
    go_wp2
    generalize hW3 : World.alloc (World.alloc w1 _) _ = W3
    have hb3 : Below w1.heap.size w1 W3 := by rw [← hW3]; exact ((Below.refl _ _).alloc (Nat.le_refl _) _).alloc (by simp) _
    have hP : Row W3 w1.heap.size 159 [.int .i64 kind, .int .i64 st, .int .i64 co, .slice a1 l1 c1, .slice a2 l2 c2, .slice a l c] := by rw [← hW3]; exact (Row.new' rfl).alloc _
    have hA : Row W3 (w1.heap.size + 1) 94 [.int .i64 0, .int .i64 0] := by rw [← hW3]; exact Row.new' (by simp)
    have n0 : W3.there w.heap.size 0 6 := there_later hb3 HTN.out
    have n1 : W3.there (w.heap.size + 1) 0 2 := there_later hb3 HTM.out
    have hi1 : (Tryz.prog.info? 159).map (·.size) = some 6 := by kernel_rfl
    have hi2 : (Tryz.prog.info? 94).map (·.size) = some 2 := by kernel_rfl
    have rP : W3.rangeAt w1.heap.size 0 [.int .i64 kind, .int .i64 st, .int .i64 co, .slice a1 l1 c1, .slice a2 l2 c2, .slice a l c] := fun j v hv => by rw [Nat.zero_add]; exact hP.cell_of hv
    have rA : W3.rangeAt (w1.heap.size + 1) 0 [.int .i64 0, .int .i64 0] := fun j v hv => by rw [Nat.zero_add]; exact hA.cell_of hv
    have HB3 := hide hb3
    clear hW3 hP hA hb3
    refine rg0 (S := (fun w' => w'.rangeAt w1.heap.size 0 [.int .i64 kind, .int .i64 st, .int .i64 co, .slice a1 l1 c1, .slice a2 l2 c2, .slice a l c] ∧ w'.rangeAt (w1.heap.size + 1) 0 [.int .i64 0, .int .i64 0] ∧ w'.there w.heap.size 0 6 ∧ w'.there (w.heap.size + 1) 0 2)) 4 rfl (by kernel_rfl) ?_ (fun hHeld => ?_)
    · exact ⟨rP, rA, n0, n1⟩
    refine wpAnyH_ready (rs := [0, 1]) (by kernel_rfl) (by simp) (rc (by rfl) (fun K hK => ?_) (rc (by rfl) (fun K hK => ?_) AllReadyH.nil))
    · rw [if_pos (by rfl)]
      refine wp_load_mid 159 (.tmp 8) rfl w1.heap.size 0 rfl [.int .i64 kind, .int .i64 st, .int .i64 co, .slice a1 l1 c1, .slice a2 l2 c2, .slice a l c] _ ?_ Tryz.underlying159 rfl ?_ ?_
      · exact hHeld.1
      · exact hi1
      refine hK.out _ _ ?_ (fun hHeld => ?_)
      · exact hHeld
      clear hK K
      (try go_frame)
      refine wpAnyH_ready (rs := [1, 2]) (by kernel_rfl) (by simp) (rc (by rfl) (fun K hK => ?_) (rc (by rfl) (fun K hK => ?_) AllReadyH.nil))
      · (try (have e1' := e1; clear e1'; generalize hWs : World.setCells W3.drew w.heap.size 0 [.int .i64 kind, .int .i64 st, .int .i64 co, .slice a1 l1 c1, .slice a2 l2 c2, .slice a l c] = W4 at hHeld e1 ⊢; have HWS := hide hWs; clear hWs))
        rw [if_pos (by rfl)]
        refine wp_load_mid 94 (.tmp 9) rfl (w1.heap.size + 1) 0 rfl [.int .i64 0, .int .i64 0] _ ?_ Tryz.underlying94 rfl ?_ ?_
        · exact hHeld.2.1
        · exact hi2
        refine hK.out _ _ ?_ (fun hHeld => ?_)
        · exact hHeld
        clear hK K
        (try go_frame)
        refine rd1 2 (by rfl) (by kernel_rfl) (fun K hK => ?_)
        rw [if_pos (by rfl)]
        have e1 := World.rangeAt_setCells_same _ w.heap.size 0 [.int .i64 kind, .int .i64 st, .int .i64 co, .slice a1 l1 c1, .slice a2 l2 c2, .slice a l c] hHeld.2.2.1
        refine wp_store_mid 159 (.tmp 6) (.tmp 65) rfl w.heap.size 0 (List.toArray [.int .i64 kind, .int .i64 st, .int .i64 co, .slice a1 l1 c1, .slice a2 l2 c2, .slice a l c]) rfl rfl ?_ ?_ ?_ ?_
        · exact hHeld.2.2.1
        · exact hi1
        · exact all_oneCell_toArray (by simp [Value.oneCell'])
        refine hK.out _ _ ?_ (fun hHeld => ?_)
        · exact ⟨World.rangeAt_setCells_apart hHeld.1 _ _ _ (.inl (by omega)), World.rangeAt_setCells_apart hHeld.2.1 _ _ _ (.inl (by omega)), World.there_setCells hHeld.2.2.1 _ _ _, World.there_setCells hHeld.2.2.2 _ _ _⟩
        clear hK K
        (try go_frame)
        refine rd1 3 (by rfl) (by kernel_rfl) (fun K hK => ?_)
        first | (have h9 := HWS; clear h9) | (generalize hWs : World.setCells W3.drew w.heap.size 0 [.int .i64 kind, .int .i64 st, .int .i64 co, .slice a1 l1 c1, .slice a2 l2 c2, .slice a l c] = W4 at hHeld e1 ⊢; have HWS := hide hWs; clear hWs)
        rw [if_pos (by rfl)]
        have e2 := World.rangeAt_setCells_same W4 (w.heap.size + 1) 0 [.int .i64 0, .int .i64 0] hHeld.2.2.2
        refine wp_store_mid 94 (.tmp 7) (.tmp 66) rfl (w.heap.size + 1) 0 (List.toArray [.int .i64 0, .int .i64 0]) rfl rfl ?_ ?_ ?_ ?_
        · exact hHeld.2.2.2
        · exact hi2
        · exact all_oneCell_toArray (by simp [Value.oneCell'])
        refine hK.out _ _ ?_ (fun hHeld => ?_)
        · exact ⟨World.rangeAt_setCells_apart hHeld.1 _ _ _ (.inl (by omega)), World.rangeAt_setCells_apart hHeld.2.1 _ _ _ (.inl (by omega)), World.there_setCells hHeld.2.2.1 _ _ _, World.there_setCells hHeld.2.2.2 _ _ _⟩
        clear hK K
        (try go_frame)
        refine wpAnyH_done (by kernel_rfl) ?_ _
        generalize hWt : World.setCells W4 (w.heap.size + 1) 0 [.int .i64 0, .int .i64 0] = W5 at hHeld e2 ⊢
        have e1' : W5.rangeAt w.heap.size 0 [.int .i64 kind, .int .i64 st, .int .i64 co, .slice a1 l1 c1, .slice a2 l2 c2, .slice a l c] := by rw [← hWt]; exact World.rangeAt_setCells_apart e1 _ _ _ (.inl (by omega))
        have HWT := hide hWt
        clear hWt
        (try go_wp2_with fail)
        refine bodyPost_ret (v := .tuple #[.agg (List.toArray [.int .i64 kind, .int .i64 st, .int .i64 co, .slice a1 l1 c1, .slice a2 l2 c2, .slice a l c]), .agg (List.toArray [.int .i64 0, .int .i64 0])]) (results_agg2 rfl rfl rfl e1' e2 Tryz.underlying159 rfl hi1 Tryz.underlying94 rfl hi2) rfl ⟨a, l, c, rfl, ?_, ?_, HNIL.out⟩
        · rw [← HWT.out, ← HWS.out]
          refine owns_base (base := w.heap.size + 1 + 1) ?_ (by omega)
          refine owns_setCells (by omega) _ _ _ (owns_setCells (by omega) _ _ _ ?_)
          exact owns_later (w := w1) (w' := W3) (owns_base HO.out (by simp)) HB3.out
        · rw [← HWT.out, ← HWS.out]
          exact below_setCells (by omega) _ _ _ (below_setCells (by omega) _ _ _ (Below.drew (Below.next HB1.out HB3.out HB1.out.size)))
      · rw [if_pos (by rfl)]
        have e1 := World.rangeAt_setCells_same _ w.heap.size 0 [.int .i64 kind, .int .i64 st, .int .i64 co, .slice a1 l1 c1, .slice a2 l2 c2, .slice a l c] hHeld.2.2.1
        refine wp_store_mid 159 (.tmp 6) (.tmp 65) rfl w.heap.size 0 (List.toArray [.int .i64 kind, .int .i64 st, .int .i64 co, .slice a1 l1 c1, .slice a2 l2 c2, .slice a l c]) rfl rfl ?_ ?_ ?_ ?_
        · exact hHeld.2.2.1
        · exact hi1
        · exact all_oneCell_toArray (by simp [Value.oneCell'])
        refine hK.out _ _ ?_ (fun hHeld => ?_)
        · exact ⟨World.rangeAt_setCells_apart hHeld.1 _ _ _ (.inl (by omega)), World.rangeAt_setCells_apart hHeld.2.1 _ _ _ (.inl (by omega)), World.there_setCells hHeld.2.2.1 _ _ _, World.there_setCells hHeld.2.2.2 _ _ _⟩
        clear hK K
        (try go_frame)
        refine rd1 1 (by rfl) (by kernel_rfl) (fun K hK => ?_)
        (try (have e1' := e1; clear e1'; generalize hWs : World.setCells W3.drew w.heap.size 0 [.int .i64 kind, .int .i64 st, .int .i64 co, .slice a1 l1 c1, .slice a2 l2 c2, .slice a l c] = W4 at hHeld e1 ⊢; have HWS := hide hWs; clear hWs))
        rw [if_pos (by rfl)]
        refine wp_load_mid 94 (.tmp 9) rfl (w1.heap.size + 1) 0 rfl [.int .i64 0, .int .i64 0] _ ?_ Tryz.underlying94 rfl ?_ ?_
        · exact hHeld.2.1
        · exact hi2
        refine hK.out _ _ ?_ (fun hHeld => ?_)
        · exact hHeld
        clear hK K
        (try go_frame)
        refine rd1 3 (by rfl) (by kernel_rfl) (fun K hK => ?_)
        first | (have h9 := HWS; clear h9) | (generalize hWs : World.setCells W3.drew w.heap.size 0 [.int .i64 kind, .int .i64 st, .int .i64 co, .slice a1 l1 c1, .slice a2 l2 c2, .slice a l c] = W4 at hHeld e1 ⊢; have HWS := hide hWs; clear hWs)
        rw [if_pos (by rfl)]
        have e2 := World.rangeAt_setCells_same W4 (w.heap.size + 1) 0 [.int .i64 0, .int .i64 0] hHeld.2.2.2
        refine wp_store_mid 94 (.tmp 7) (.tmp 66) rfl (w.heap.size + 1) 0 (List.toArray [.int .i64 0, .int .i64 0]) rfl rfl ?_ ?_ ?_ ?_
        · exact hHeld.2.2.2
        · exact hi2
        · exact all_oneCell_toArray (by simp [Value.oneCell'])
        refine hK.out _ _ ?_ (fun hHeld => ?_)
        · exact ⟨World.rangeAt_setCells_apart hHeld.1 _ _ _ (.inl (by omega)), World.rangeAt_setCells_apart hHeld.2.1 _ _ _ (.inl (by omega)), World.there_setCells hHeld.2.2.1 _ _ _, World.there_setCells hHeld.2.2.2 _ _ _⟩
        clear hK K
        (try go_frame)
        refine wpAnyH_done (by kernel_rfl) ?_ _
        generalize hWt : World.setCells W4 (w.heap.size + 1) 0 [.int .i64 0, .int .i64 0] = W5 at hHeld e2 ⊢
        have e1' : W5.rangeAt w.heap.size 0 [.int .i64 kind, .int .i64 st, .int .i64 co, .slice a1 l1 c1, .slice a2 l2 c2, .slice a l c] := by rw [← hWt]; exact World.rangeAt_setCells_apart e1 _ _ _ (.inl (by omega))
        have HWT := hide hWt
        clear hWt
        (try go_wp2_with fail)
        refine bodyPost_ret (v := .tuple #[.agg (List.toArray [.int .i64 kind, .int .i64 st, .int .i64 co, .slice a1 l1 c1, .slice a2 l2 c2, .slice a l c]), .agg (List.toArray [.int .i64 0, .int .i64 0])]) (results_agg2 rfl rfl rfl e1' e2 Tryz.underlying159 rfl hi1 Tryz.underlying94 rfl hi2) rfl ⟨a, l, c, rfl, ?_, ?_, HNIL.out⟩
        · rw [← HWT.out, ← HWS.out]
          refine owns_base (base := w.heap.size + 1 + 1) ?_ (by omega)
          refine owns_setCells (by omega) _ _ _ (owns_setCells (by omega) _ _ _ ?_)
          exact owns_later (w := w1) (w' := W3) (owns_base HO.out (by simp)) HB3.out
        · rw [← HWT.out, ← HWS.out]
          exact below_setCells (by omega) _ _ _ (below_setCells (by omega) _ _ _ (Below.drew (Below.next HB1.out HB3.out HB1.out.size)))
    · (try (have e1' := e1; clear e1'; generalize hWs : World.setCells W3.drew w.heap.size 0 [.int .i64 kind, .int .i64 st, .int .i64 co, .slice a1 l1 c1, .slice a2 l2 c2, .slice a l c] = W4 at hHeld e1 ⊢; have HWS := hide hWs; clear hWs))
      rw [if_pos (by rfl)]
      refine wp_load_mid 94 (.tmp 9) rfl (w1.heap.size + 1) 0 rfl [.int .i64 0, .int .i64 0] _ ?_ Tryz.underlying94 rfl ?_ ?_
      · exact hHeld.2.1
      · exact hi2
      refine hK.out _ _ ?_ (fun hHeld => ?_)
      · exact hHeld
      clear hK K
      (try go_frame)
      refine rd1 0 (by rfl) (by kernel_rfl) (fun K hK => ?_)
      rw [if_pos (by rfl)]
      refine wp_load_mid 159 (.tmp 8) rfl w1.heap.size 0 rfl [.int .i64 kind, .int .i64 st, .int .i64 co, .slice a1 l1 c1, .slice a2 l2 c2, .slice a l c] _ ?_ Tryz.underlying159 rfl ?_ ?_
      · exact hHeld.1
      · exact hi1
      refine hK.out _ _ ?_ (fun hHeld => ?_)
      · exact hHeld
      clear hK K
      (try go_frame)
      refine rd1 2 (by rfl) (by kernel_rfl) (fun K hK => ?_)
      rw [if_pos (by rfl)]
      have e1 := World.rangeAt_setCells_same _ w.heap.size 0 [.int .i64 kind, .int .i64 st, .int .i64 co, .slice a1 l1 c1, .slice a2 l2 c2, .slice a l c] hHeld.2.2.1
      refine wp_store_mid 159 (.tmp 6) (.tmp 65) rfl w.heap.size 0 (List.toArray [.int .i64 kind, .int .i64 st, .int .i64 co, .slice a1 l1 c1, .slice a2 l2 c2, .slice a l c]) rfl rfl ?_ ?_ ?_ ?_
      · exact hHeld.2.2.1
      · exact hi1
      · exact all_oneCell_toArray (by simp [Value.oneCell'])
      refine hK.out _ _ ?_ (fun hHeld => ?_)
      · exact ⟨World.rangeAt_setCells_apart hHeld.1 _ _ _ (.inl (by omega)), World.rangeAt_setCells_apart hHeld.2.1 _ _ _ (.inl (by omega)), World.there_setCells hHeld.2.2.1 _ _ _, World.there_setCells hHeld.2.2.2 _ _ _⟩
      clear hK K
      (try go_frame)
      refine rd1 3 (by rfl) (by kernel_rfl) (fun K hK => ?_)
      first | (have h9 := HWS; clear h9) | (generalize hWs : World.setCells W3.drew w.heap.size 0 [.int .i64 kind, .int .i64 st, .int .i64 co, .slice a1 l1 c1, .slice a2 l2 c2, .slice a l c] = W4 at hHeld e1 ⊢; have HWS := hide hWs; clear hWs)
      rw [if_pos (by rfl)]
      have e2 := World.rangeAt_setCells_same W4 (w.heap.size + 1) 0 [.int .i64 0, .int .i64 0] hHeld.2.2.2
      refine wp_store_mid 94 (.tmp 7) (.tmp 66) rfl (w.heap.size + 1) 0 (List.toArray [.int .i64 0, .int .i64 0]) rfl rfl ?_ ?_ ?_ ?_
      · exact hHeld.2.2.2
      · exact hi2
      · exact all_oneCell_toArray (by simp [Value.oneCell'])
      refine hK.out _ _ ?_ (fun hHeld => ?_)
      · exact ⟨World.rangeAt_setCells_apart hHeld.1 _ _ _ (.inl (by omega)), World.rangeAt_setCells_apart hHeld.2.1 _ _ _ (.inl (by omega)), World.there_setCells hHeld.2.2.1 _ _ _, World.there_setCells hHeld.2.2.2 _ _ _⟩
      clear hK K
      (try go_frame)
      refine wpAnyH_done (by kernel_rfl) ?_ _
      generalize hWt : World.setCells W4 (w.heap.size + 1) 0 [.int .i64 0, .int .i64 0] = W5 at hHeld e2 ⊢
      have e1' : W5.rangeAt w.heap.size 0 [.int .i64 kind, .int .i64 st, .int .i64 co, .slice a1 l1 c1, .slice a2 l2 c2, .slice a l c] := by rw [← hWt]; exact World.rangeAt_setCells_apart e1 _ _ _ (.inl (by omega))
      have HWT := hide hWt
      clear hWt
      (try go_wp2_with fail)
      refine bodyPost_ret (v := .tuple #[.agg (List.toArray [.int .i64 kind, .int .i64 st, .int .i64 co, .slice a1 l1 c1, .slice a2 l2 c2, .slice a l c]), .agg (List.toArray [.int .i64 0, .int .i64 0])]) (results_agg2 rfl rfl rfl e1' e2 Tryz.underlying159 rfl hi1 Tryz.underlying94 rfl hi2) rfl ⟨a, l, c, rfl, ?_, ?_, HNIL.out⟩
      · rw [← HWT.out, ← HWS.out]
        refine owns_base (base := w.heap.size + 1 + 1) ?_ (by omega)
        refine owns_setCells (by omega) _ _ _ (owns_setCells (by omega) _ _ _ ?_)
        exact owns_later (w := w1) (w' := W3) (owns_base HO.out (by simp)) HB3.out
      · rw [← HWT.out, ← HWS.out]
        exact below_setCells (by omega) _ _ _ (below_setCells (by omega) _ _ _ (Below.drew (Below.next HB1.out HB3.out HB1.out.size)))
end Go.Proofs.YtefjhnhdagolhaaGreat
namespace Go.Proofs.YtefjhnhdagolhaaGreat
open Go.RowKit
attribute [local go_sem ↓] Go.wp_at_zero Go.wp_at_succ
set_option maxHeartbeats 400000 in
theorem sorted_nil (w : World) : Calls Tryz.prog 115 #[.slice none 0 0] w fun e w' => e = .returned (.slice none 0 0) ∧ w' = w := by
  go_enter Tryz.func115, Tryz.ntmps115
  go_wp2
  go_loop [3] (fun s => s = .slice none 0 0) (fun _ => 0)
  case atStart => rfl
  case round =>
    subst hrel
    go_wp2
    go_ret
    exact ⟨rfl, rfl⟩
section
variable (kind st co : Int) (s1 s2 : Value) (b : Nat) (w : World)
set_option maxHeartbeats 800000 in
theorem tells_list (h2 : 2 ≤ kind) (h4 : kind ≤ 4) (hR : Row w b 159 [.int .i64 kind, .int .i64 st, .int .i64 co, s1, s2, .slice none 0 0]) :
    Calls Tryz.prog 89 #[.pointer (some ⟨b, 0, none⟩)] w fun e w' => e = .returned (.slice none 0 0) ∧ w' = w := by
  have c0 : w.cell? ⟨b, 0, none⟩ = some (.int .i64 kind) := hR.cell_of rfl
  have c5 : w.cell? ⟨b, 5, none⟩ = some (.slice none 0 0) := hR.cell_of rfl
  clear hR
  have hk : kind = 2 ∨ kind = 3 ∨ kind = 4 := by omega
  clear h2 h4
  rcases hk with rfl | rfl | rfl
  · go_enter Tryz.func89, Tryz.ntmps89
    go_wp2
    go_loop [3, 5] (fun s i => s = .slice none 0 0 ∧ i = .int .i64 (-1)) (fun _ _ => 0)
    case atStart => exact ⟨rfl, rfl⟩
    case round =>
      obtain ⟨rfl, rfl⟩ := hrel
      go_wp2
      go_ret
      exact ⟨rfl, rfl⟩
  · go_enter Tryz.func89, Tryz.ntmps89
    go_wp2
    go_loop [3, 6] (fun s i => s = .slice none 0 0 ∧ i = .int .i64 0) (fun _ _ => 0)
    case atStart => exact ⟨rfl, rfl⟩
    case round =>
      obtain ⟨rfl, rfl⟩ := hrel
      go_wp2
      go_ret
      exact ⟨rfl, rfl⟩
  · go_enter Tryz.func89, Tryz.ntmps89
    go_wp2_with fail
    refine (sorted_nil _).mono ?_
    rintro e w1 ⟨rfl, rfl⟩
    go_wp2_with fail
    go_ret
    exact ⟨rfl, rfl⟩
set_option maxHeartbeats 800000 in
theorem tells_num (g l : Nat) (hk : kind = 1 ∨ kind = 5) (hR : Row w b 159 [.int .i64 kind, .int .i64 st, .int .i64 co, s1, s2, .slice (some ⟨g, 0, none⟩) 1 l]) (hg : w.cell? ⟨g, 0, none⟩ = some (.int .i64 0)) :
    Calls Tryz.prog 89 #[.pointer (some ⟨b, 0, none⟩)] w fun e w' => ∃ v, e = .returned v ∧ w'.ownsRow w.heap.size 3 1 v 1 (ints [0]) ∧ Below w.heap.size w w' := by
  have c0 : w.cell? ⟨b, 0, none⟩ = some (.int .i64 kind) := hR.cell_of rfl
  have c5 : w.cell? ⟨b, 5, none⟩ = some (.slice (some ⟨g, 0, none⟩) 1 l) := hR.cell_of rfl
  have k2 : (kind == 2) = false := beq_eq_false_iff_ne.2 (by omega)
  have k4 : (kind == 4) = false := beq_eq_false_iff_ne.2 (by omega)
  obtain ⟨ti, hti, htz⟩ := Option.map_eq_some_iff.1 info_int
  simp only [Prod.mk.injEq] at htz
  obtain ⟨htz1, htz2, htz3⟩ := htz
  have HTI := hide hti
  have HT1 := hide htz1
  have HT2 := hide htz2
  have HT3 := hide htz3
  have HC5 := hide c5
  have HG := hide hg
  clear hti htz1 htz2 htz3 hR hk hg
  go_enter Tryz.func89, Tryz.ntmps89
  go_wp2
  clear c5
  go_loopw [3, 6] (fun s i w' => Below w.heap.size w w' ∧ ((s = .slice none 0 0 ∧ i = .int .i64 0) ∨ (i = .int .i64 1 ∧ w'.ownsRow w.heap.size 3 1 s 1 (ints [0])))) (fun _ i _ => 1 - (intOf i).toNat)
  case atStart => exact ⟨Below.refl _ _, .inl ⟨rfl, rfl⟩⟩
  case round =>
    obtain ⟨hb, ⟨rfl, rfl⟩ | ⟨rfl, ho⟩⟩ := hrel
    · have c5 : wr.cell? ⟨b, 5, none⟩ = some (.slice (some ⟨g, 0, none⟩) 1 l) := cell_later hb HC5.out
      have hg : wr.cell? ⟨g, 0, none⟩ = some (.int .i64 0) := cell_later hb HG.out
      have HBR := hide hb
      clear hb
      go_wp2_with (at_builtin; refine wpList_append_lies _ rfl (.tmp 47) (.tmp 55) 22 rfl w.heap.size 3 ti (.int .i64 0) 1 8 Tryz.underlying22 HTI.out HT1.out HT2.out HT3.out rfl (by decide) (.slice none 0 0) 0 [] rfl (World.ownsRow_nil _ _ _ _) ⟨wr.heap.size, 0, none⟩ 1 1 [.int .i64 0] rfl rfl ?_ (by simp [Value.oneCell']) (by decide) (by decide) (by decide) ?_ (wr.heap.size + 1) (by simp) ?_)
      · exact World.news_of_block (Row.new wr _ _)
      · have := HBR.out.size; simp; omega
      · intro g1 cap1 w4 hown hgr hat hlt4
        have hb4 : Below wr.heap.size wr w4 := (below_alloc wr _).grown hgr (by simp) (fun q hq => by simp [Value.ownBlock] at hq)
        have HO := hide hown
        have HB4 := hide (Below.next HBR.out hb4 HBR.out.size)
        clear hown hgr hat hb4 c5 hg
        go_wp2
        go_roundw
        case rel => exact ⟨HB4.out, .inr ⟨rfl, HO.out⟩⟩
        case measure => simp [intOf]
    · have HBR := hide hb
      have HO := hide ho
      clear hb ho
      go_wp2
      go_ret
      exact ⟨_, rfl, HO.out, HBR.out⟩
end
end Go.Proofs.YtefjhnhdagolhaaGreat
namespace Go.Proofs.YtefjhnhdagolhaaGreat
open Go.RowKit
attribute [local go_sem ↓] Go.wp_at_zero Go.wp_at_succ
theorem tells_any (kind st co : Int) (s1 s2 : Value) (b : Nat) (w w0 : World) (a : Option Addr) (l c : Nat) (h1 : 1 ≤ kind) (h5 : kind ≤ 5) (hR : Row w b 159 [.int .i64 kind, .int .i64 st, .int .i64 co, s1, s2, .slice a l c])
    (hO : w.ownsRow w0.heap.size 3 1 (.slice a l c) (holdsNew kind).length (ints (holdsNew kind))) (hnil : (holdsNew kind = [] → a = none ∧ l = 0 ∧ c = 0)) :
    Calls Tryz.prog 89 #[.pointer (some ⟨b, 0, none⟩)] w fun e w' => ∃ v, e = .returned v ∧ w'.ownsRow w.heap.size 3 1 v (holdsNew kind).length (ints (holdsNew kind)) ∧ Below w.heap.size w w' := by
  by_cases hk : kind = 1 ∨ kind = 5
  · have hh : holdsNew kind = [0] := by rw [holdsNew, if_pos hk]
    rw [hh] at hO ⊢
    obtain ⟨_, ⟨e, hn0⟩ | ⟨g, cap, cur, e, -, hg, -, -, hcs, htk⟩⟩ := hO
    · simp at hn0
    · simp only [Value.slice.injEq] at e
      obtain ⟨rfl, rfl, rfl⟩ := e
      refine (tells_num kind st co s1 s2 b w g _ hk hR ?_).mono ?_
      · rw [cell_of_row w g _ cur _ _ hg]
        have : cur.toList[0]? = some (.int .i64 0) := by
          have h0 : (cur.toList.take (([0] : List Int).length * 1))[0]? = some (.int .i64 0) := by rw [htk]; rfl
          rw [List.getElem?_take] at h0
          simpa using h0
        simpa using this
      · rintro e w' h; exact h
  · have hh : holdsNew kind = [] := by rw [holdsNew, if_neg hk]
    rw [hh] at hO ⊢
    obtain ⟨rfl, rfl, rfl⟩ := hnil hh
    refine (tells_list kind st co s1 s2 b w (by omega) (by omega) hR).mono ?_
    rintro e w' ⟨rfl, rfl⟩
    exact ⟨_, rfl, World.ownsRow_nil _ _ _ _, Below.refl _ _⟩
set_option maxRecDepth 20000 in
set_option maxHeartbeats 1000000 in
theorem refState_new {b n g gc : Nat} {bT : Nat → Nat} {kind cap st co : Int} {a1 : Option Addr} {l1 c1 : Nat} {a2 : Option Addr} {l2 c2 : Nat} (w : World) (hR : RefRd b n g gc bT kind cap st co (.slice a1 l1 c1) (.slice a2 l2 c2) w) (h1 : 1 ≤ kind) (h5 : kind ≤ 5) :
    Calls Tryz.prog 56 #[.pointer (some ⟨b, 0, none⟩)] w fun e w' => ∃ v, e = .returned v ∧ w'.ownsRow w.heap.size 3 1 v (holdsNew kind).length (ints (holdsNew kind)) ∧ Below w.heap.size w w' := by
  have HR := hide hR
  clear hR
  go_enter Tryz.func56, Tryz.ntmps56
  go_wp2_with fail
  refine (replay_new (-1) 0 w HR.out h1 h5).mono ?_
  rintro e w1 ⟨a, l, c, rfl, hO, hb1, hnil⟩
  have HO := hide hO
  have HB1 := hide hb1
  have HNIL := hide hnil
  clear hO hb1 hnil
  go_wp2_with fail
  refine (tells_any kind st co (.slice a1 l1 c1) (.slice a2 l2 c2) _ _ w a l c h1 h5 ((Row.new' rfl).alloc _) (owns_later HO.out (((Below.refl _ _).alloc (Nat.le_refl _) _).alloc (by simp) _)) HNIL.out).mono ?_
  rintro e w2 ⟨v, rfl, hO2, hb2⟩
  have HO2 := hide hO2
  have HB2 := hide hb2
  clear hO2 hb2
  go_wp2_with fail
  go_ret
  have hz := HB1.out.size
  refine ⟨v, rfl, owns_base HO2.out (by simp; omega), ?_⟩
  exact Below.next (Below.next HB1.out (((Below.refl _ _).alloc (Nat.le_refl _) _).alloc (by simp) _) hz) HB2.out (by simp; omega)
end Go.Proofs.YtefjhnhdagolhaaGreat
namespace Go.Proofs.YtefjhnhdagolhaaGreat
open Go.ChangeShapes Go.WideShapes Go.ChangeAt Go.RowKit Go.Joins Go.Deep
theorem array7 {α : Type} {cs : Array α} (h : cs.size = 7) : ∃ c0 c1 c2 c3 c4 c5 c6, cs = #[c0, c1, c2, c3, c4, c5, c6] := by
  obtain ⟨l⟩ := cs
  match l, h with
  | [c0, c1, c2, c3, c4, c5, c6], _ => exact ⟨c0, c1, c2, c3, c4, c5, c6, rfl⟩
theorem cellsConfig : Tryz.prog.cellsOf 26 = 7 := by kernel_rfl
theorem cellsAuto : Tryz.prog.cellsOf 24 = 4 := by kernel_rfl
theorem cellsI : Tryz.prog.cellsOf 3 = 1 := by kernel_rfl
theorem cellsIs : Tryz.prog.cellsOf 22 = 1 := by kernel_rfl
section
variable {H : Type} {enc : TypeId × Value → H} {W : World}
theorem open_sl {fuel : Nat} {c : Value} {y : DataW H × List MemPlace} (h : DataW.trod enc Tryz.prog W 0 (fun _ => true) true fuel 22 [c] = some y) : ∃ xs : List Int, Sl W c (ints xs) ∧ sliceLen y.1 = xs.length ∧ ∀ x ∈ xs, (Lit.int .i64 x).wf = true := by
  rcases open_ints Tryz.underlying22 Tryz.underlying3 cellsI h with ⟨hcs, hx⟩ | ⟨a, len, cap, zs, hcs, -, hl, hm, hz, hx, hcell, hwz⟩
  · simp at hcs
    subst hcs
    subst hx
    exact ⟨[], Sl.nil W, rfl, by simp⟩
  · simp at hcs
    subst hcs
    subst hx
    simp only [if_true] at hz
    have hlen : (ints (zs.take len)).length = len := by simp [ints]; omega
    refine ⟨zs.take len, ⟨some a, cap, by rw [hlen], by rw [hlen]; exact hl, hm, ?_⟩, ?_, fun x hx => hwz x (List.mem_of_mem_take hx)⟩
    · by_cases h0 : len = 0
      · left; subst h0; simp [ints]
      · right
        obtain ⟨b, off, spot⟩ := a
        have hspot : spot = none := by simpa [Addr.add] using World.cell?_spot (hcell 0 (by omega))
        subst hspot
        refine ⟨b, off, rfl, fun j x hj => ?_⟩
        have hjl : j < len := by
          have := (List.getElem?_eq_some_iff.1 hj).1
          omega
        have h2 := hcell j (by omega)
        rw [getElem?_ints, List.getElem?_take, if_pos hjl, List.getElem?_eq_getElem (by omega)] at hj
        simp at hj
        subst hj
        rw [List.getD_eq_getElem?_getD, List.getElem?_eq_getElem (by omega)] at h2
        by_cases hj0 : j = 0
        · subst hj0
          simpa [Addr.add] using h2
        · simpa [Addr.add, hj0] using h2
    · show (lits .i64 (zs.take len)).length = _
      simp [lits]
set_option maxRecDepth 100000 in
theorem open_config {base : Nat} {v : Value} {d : DataW H} {p : List MemPlace} (hv : Value.okWide Tryz.prog W .any base 26 v) (h : DataW.Trod enc Tryz.prog W 0 (fun _ => true) true 26 v d p) :
    ∃ (kind th cap st co : Int) (nx ou : List Int) (vn vo : Value) (dn dou : DataW H), v = .agg #[.int .i64 kind, .int .i64 th, .int .i64 cap, .int .i64 st, .int .i64 co, vn, vo] ∧ Sl W vn (ints nx) ∧ Sl W vo (ints ou) ∧
      d = .agg [.lit (.int .i64 kind), .lit (.int .i64 th), .lit (.int .i64 cap), .agg [.lit (.int .i64 st), .lit (.int .i64 co), dn, dou]] ∧ sliceLen dn = nx.length ∧ sliceLen dou = ou.length ∧
      (∀ x ∈ [kind, th, cap, st, co] ++ nx ++ ou, (Lit.int .i64 x).wf = true) := by
  obtain ⟨cs, rfl, hsz⟩ := okWide_struct Tryz.underlying26 hv
  obtain ⟨c0, c1, c2, c3, c4, c5, c6, rfl⟩ := array7 (hsz.trans cellsConfig)
  obtain ⟨fuel, hf⟩ := h
  obtain ⟨y0, y1, y2, y3, m, hx, -, h0, h1, h2, h3⟩ := trod_struct4 Tryz.underlying26 hf
  obtain ⟨z0, z1, z2, z3, m', hx3, -, k0, k1, k2, k3⟩ := trod_struct4 Tryz.underlying24 h3
  simp only [cellsI, Value.cells, List.drop_succ_cons, List.drop_zero, List.take_succ_cons, List.take_zero] at h0 h1 h2
  simp only [cellsI, cellsIs, cellsAuto, Value.cells, List.drop_succ_cons, List.drop_zero, List.take_succ_cons, List.take_zero] at k0 k1 k2 k3
  obtain ⟨kind, e0, rfl, w0⟩ := DataW.trod_int Tryz.underlying3 h0
  obtain ⟨th, e1, rfl, w1⟩ := DataW.trod_int Tryz.underlying3 h1
  obtain ⟨cap, e2, rfl, w2⟩ := DataW.trod_int Tryz.underlying3 h2
  obtain ⟨st, e3, rfl, w3⟩ := DataW.trod_int Tryz.underlying3 k0
  obtain ⟨co, e4, rfl, w4⟩ := DataW.trod_int Tryz.underlying3 k1
  obtain ⟨nx, s1, l1, x1⟩ := open_sl k2
  obtain ⟨ou, s2, l2, x2⟩ := open_sl k3
  simp only [List.cons.injEq, and_true] at e0 e1 e2 e3 e4
  subst e0 e1 e2 e3 e4
  simp only [Prod.mk.injEq] at hx
  subst hx3
  refine ⟨kind, th, cap, st, co, nx, ou, c5, c6, z2.1, z3.1, rfl, s1, s2, hx.1, l1, l2, ?_⟩
  intro x hxm
  simp only [List.mem_append, List.mem_cons, List.not_mem_nil, or_false] at hxm
  rcases hxm with ((rfl | rfl | rfl | rfl | rfl) | h) | h
  · exact w0
  · exact w1
  · exact w2
  · exact w3
  · exact w4
  · exact x1 x h
  · exact x2 x h
end
end Go.Proofs.YtefjhnhdagolhaaGreat
