import Derived.Test.YtefjhnhdagolhaaGreatQ11
import Derived.Test.YtefjhnhdagolhaaGreatQ14
import Derived.Test.YtefjhnhdagolhaaGreatQ00
import Derived.Test.YtefjhnhdagolhaaGreatProg
import Derived.Test.YtefjhnhdagolhaaGreatQ05
import Derived.Laws.CopyOwn
import Derived.Test.YtefjhnhdagolhaaGreatQ06
import Derived.Test.YtefjhnhdagolhaaGreatQ01
namespace Go.Proofs.YtefjhnhdagolhaaGreat
open Go.RowKit
attribute [local go_sem ↓] Go.wp_at_zero Go.wp_at_succ
theorem info_mout : (Tryz.prog.info? 99).map (fun i => (i.zero, i.size, i.bytes)) = some (some (.agg #[.slice none 0 0, .int .i64 0]), 2, 32) := by kernel_rfl
theorem info_mark : (Tryz.prog.info? 81).map (fun i => (i.zero, i.size, i.bytes)) = some (some (.agg #[.int .i64 0, .int .i64 0, .int .i64 0]), 3, 24) := by kernel_rfl
end Go.Proofs.YtefjhnhdagolhaaGreat
namespace Go.Proofs.YtefjhnhdagolhaaGreat
open Go.RowKit
attribute [local go_sem ↓] Go.wp_at_zero Go.wp_at_succ
theorem info_iout : (Tryz.prog.info? 102).map (fun i => (i.zero, i.size, i.bytes)) = some (some (.agg #[.slice none 0 0, .int .i64 0]), 2, 32) := by kernel_rfl
theorem info_i3 : (Tryz.prog.info? 3).map (fun i => (i.zero, i.size, i.bytes)) = some (some (.int .i64 0), 1, 8) := by kernel_rfl
end Go.Proofs.YtefjhnhdagolhaaGreat
namespace Go.Proofs.YtefjhnhdagolhaaGreat
open Go.RowKit
attribute [local go_sem ↓] Go.wp_at_zero Go.wp_at_succ
set_option maxRecDepth 20000 in
set_option maxHeartbeats 1000000 in
theorem index_w (xs : List Int) (v : Value) (x : Int) (w : World) (hs : Sl w v (ints xs)) (hl : xs.length ≤ 1048576) :
    Calls Tryz.prog 243 #[v, .int .i64 x] w fun e w' => ∃ r : Int, e = .returned (.int .i64 r) ∧ (0 ≤ r ↔ x ∈ xs) ∧ w' = w := by
  obtain ⟨a, c, rfl, hca, hcm, hop⟩ := hs.open_ints
  have HS := hide hop
  clear hs hop
  go_enter Tryz.func243, Tryz.ntmps243
  go_wp2
  go_loopw [8] (fun i w' => ∃ k : Nat, k ≤ xs.length ∧ i = .int .i64 (k : Int) ∧ (∀ j, j < k → xs[j]? ≠ some x) ∧ w = w') (fun i _ => xs.length - (intOf i).toNat)
  case atStart => exact ⟨0, Nat.zero_le _, rfl, fun j hj => absurd hj (Nat.not_lt_zero _), rfl⟩
  case round =>
    obtain ⟨k, hk, rfl, hno, rfl⟩ := hrel
    have HNO := hide hno
    clear hno
    by_cases hlt : k < xs.length
    · have hlt' : (k : Int) < (xs.length : Int) := by omega
      obtain ⟨g, off, rfl, hcell⟩ := HS.out k hlt
      have hg : xs[k]? = some xs[k] := List.getElem?_eq_getElem hlt
      generalize xs[k] = y at hcell hg
      have HG := hide hg
      clear hg
      by_cases hxy : x = y
      · subst hxy
        go_wp2
        go_ret
        exact ⟨(k : Int), rfl, ⟨fun _ => List.mem_of_getElem? HG.out, fun _ => by omega⟩, rfl⟩
      · have hne : (x == y) = false := by simpa using hxy
        have HX := hide hxy
        clear hxy
        go_wp2
        go_roundw
        case rel =>
          refine ⟨k + 1, by omega, by go_num, fun j hj => ?_, by trivial⟩
          by_cases q : j = k
          · rw [q, HG.out]
            intro e
            injection e with e
            exact HX.out e.symm
          · exact HNO.out j (by omega)
        case measure => simp [intOf]; omega
    · have hlt' : ¬ (k : Int) < (xs.length : Int) := by omega
      go_wp2
      go_ret
      refine ⟨-1, rfl, ⟨fun q => absurd q (by decide), fun hm => ?_⟩, rfl⟩
      obtain ⟨j, hj, e⟩ := List.getElem_of_mem hm
      exact absurd (by rw [List.getElem?_eq_getElem hj, e]) (HNO.out j (by omega))
set_option maxHeartbeats 1000000 in
theorem contains_w (xs : List Int) (v : Value) (x : Int) (w : World) (hs : Sl w v (ints xs)) (hl : xs.length ≤ 1048576) :
    Calls Tryz.prog 229 #[v, .int .i64 x] w fun e w' => e = .returned (.bool (decide (x ∈ xs))) ∧ w' = w := by
  have HS := hide hs
  clear hs
  go_enter Tryz.func229, Tryz.ntmps229
  go_wp2_with fail
  refine (index_w xs v x w HS.out hl).mono ?_
  rintro e w1 ⟨r, rfl, hr, rfl⟩
  have HR := hide hr
  clear hr
  go_wp2_with fail
  go_ret
  refine ⟨ret_bool ?_, rfl⟩
  by_cases q : 0 ≤ r
  · simp [q, HR.out.1 q]
  · have : ¬ x ∈ xs := fun m => q (HR.out.2 m)
    simp [q, this]
end Go.Proofs.YtefjhnhdagolhaaGreat
namespace Go.Proofs.YtefjhnhdagolhaaGreat
open Go.RowKit
attribute [local go_sem ↓] Go.wp_at_zero Go.wp_at_succ
def Entries (W : World) (v : Value) (es : List (Value × Nat)) : Prop :=
  ∃ a c, v = .slice a es.length c ∧ (0 < es.length → ∃ g, a = some ⟨g, 0, none⟩ ∧ g < W.heap.size ∧ ∀ (t : Nat) (s : Value) (k : Nat), es[t]? = some (s, k) → W.cell? ⟨g, t * 2, none⟩ = some s ∧ W.cell? ⟨g, t * 2 + 1, none⟩ = some (.int .i64 (k : Int)))
theorem Reads.open {mk : Nat → Value} {sz i : Nat} {s : Value} {W : World} (h : Reads mk sz i s W) :
    ∃ a j c, s = .slice a j c ∧ j ≤ i ∧ (0 < j → ∃ g, a = some ⟨g, 0, none⟩ ∧ g < W.heap.size ∧ ∀ p, p < j * sz → W.cell? ⟨g, p, none⟩ = some (mk p)) := by
  rcases h with rfl | ⟨g, j, c, rfl, h1, -, h3, h4⟩
  · exact ⟨none, 0, 0, rfl, Nat.zero_le _, fun h => absurd h (by decide)⟩
  · exact ⟨_, j, c, rfl, h1, fun _ => ⟨g, rfl, h3, h4⟩⟩
def markCell (k : Nat) (p : Nat) : Value := .int .i64 (if p % 3 = 0 then -1 - (k : Int) else -1)
def intCell (k : Nat) (_ : Nat) : Value := .int .i64 (-1 - (k : Int))
def OAt (W : World) (b : Nat) (s : Value) (m : Nat) (w' : World) : Prop := Below W.heap.size W w' ∧ w'.cell? ⟨b, 0, none⟩ = some s ∧ w'.cell? ⟨b, 1, none⟩ = some (.int .i64 (m : Int)) ∧ b < w'.heap.size
theorem OAt.next {W : World} {b : Nat} {s : Value} {m : Nat} {w1 w2 : World} (h : OAt W b s m w1) (hb : Below w1.heap.size w1 w2) : OAt W b s m w2 :=
  ⟨Below.next h.1 hb h.1.size, cell_later hb h.2.1, cell_later hb h.2.2.1, Nat.lt_of_lt_of_le h.2.2.2 hb.size⟩
theorem OAt.drewN {W : World} {b : Nat} {s : Value} {m : Nat} {w1 : World} (h : OAt W b s m w1) (n : Nat) : OAt W b s m (w1.drewN n) := h.next (Below.drewN (Below.refl _ _) n)
set_option maxRecDepth 20000 in
set_option maxHeartbeats 4000000 in
theorem looks_any (bL : Nat) (x y ms is : Value) (es1 es2 : List (Value × Nat)) (J : Nat) (hJ : J ≤ 1099511627776) (W : World) (hR : Row W bL 90 [x, y, ms, is]) (h1 : Entries W ms es1) (h2 : Entries W is es2) (l1 : es1.length ≤ 1099511627776) (l2 : es2.length ≤ 1099511627776)
    (r1 : ∀ s k, (s, k) ∈ es1 → k ≤ 1099511627776 ∧ Reads (markCell k) 3 J s W) (r2 : ∀ s k, (s, k) ∈ es2 → k ≤ 1099511627776 ∧ Reads (intCell k) 1 J s W) :
    Calls Tryz.prog 19 #[.pointer (some ⟨bL, 0, none⟩)] W fun e w' => e = .returned (.bool true) ∧ Below W.heap.size W w' := by
  obtain ⟨am, cm, rfl, hm⟩ := h1
  obtain ⟨ai, ci, rfl, hi⟩ := h2
  have HM := hide hm
  have HI := hide hi
  have R1 := hide r1
  have R2 := hide r2
  have HR := hide hR
  clear hm hi r1 r2 hR
  go_enter Tryz.func19, Tryz.ntmps19
  go_wp2
  go_loopw [3] (fun i w' => ∃ k : Nat, k ≤ es1.length ∧ i = .int .i64 (k : Int) ∧ Below W.heap.size W w') (fun i _ => es1.length - (intOf i).toNat)
  case atStart => exact ⟨0, Nat.zero_le _, rfl, Below.refl _ _⟩
  case round =>
    obtain ⟨k, hk, rfl, hB⟩ := hrel
    have c2 : wr.cell? ⟨bL, 2, none⟩ = some (.slice am es1.length cm) := (HR.out.old hB).cell_of rfl
    by_cases hlt : k < es1.length
    · have hlt' : (k : Int) < (es1.length : Int) := by omega
      have hk0 : (0 : Int) ≤ (k : Int) := by omega
      obtain ⟨g, rfl, hg, hcs⟩ := HM.out (by omega)
      have he : es1[k]? = some (es1[k].1, es1[k].2) := List.getElem?_eq_getElem hlt
      obtain ⟨hc1, hc2⟩ := hcs k _ _ he
      obtain ⟨hkm, hrd⟩ := R1.out _ _ (List.mem_of_getElem? he)
      generalize es1[k].2 = m at he hc2 hkm hrd
      generalize es1[k].1 = s at he hc1 hrd
      obtain ⟨a, j, c, rfl, hj, hrs⟩ := hrd.open
      have d1 : wr.cell? ⟨g, k * 2, none⟩ = some (.slice a j c) := cell_later hB hc1
      have d2 : wr.cell? ⟨g, k * 2 + 1, none⟩ = some (.int .i64 (m : Int)) := cell_later hB hc2
      have HB := hide hB
      have HRS := hide hrs
      have HO := hide (fun (W' : World) (hw : W' = wr.alloc (.cells #[.slice a j c, .int .i64 (m : Int)] 99)) => (show OAt W wr.heap.size (.slice a j c) m W' by
        subst hw
        exact ⟨Below.next hB (below_alloc _ _) hB.size, (Row.new wr [_, _] 99).cell_of rfl, (Row.new wr [_, _] 99).cell_of rfl, by simp⟩))
      clear hB hrs hrd hc1 hc2 hcs he
      go_wp2
      go_loopw [5] (fun i w' => ∃ q : Nat, q ≤ j ∧ i = .int .i64 (q : Int) ∧ OAt W wr.heap.size (.slice a j c) m w') (fun i _ => j - (intOf i).toNat)
      case atStart => exact ⟨0, Nat.zero_le _, rfl, HO.out _ (by first | rfl | simp)⟩
      case round =>
        obtain ⟨q, hq, rfl, hO⟩ := hrel
        have o1 := hO.2.1
        have o2 := hO.2.2.1
        have o3 := hO.2.2.2
        by_cases hlt2 : q < j
        · obtain ⟨g2, rfl, hg2, hcell⟩ := HRS.out (by omega)
          have hlt2' : (q : Int) < (j : Int) := by omega
          have hq0 : (0 : Int) ≤ (q : Int) := by omega
          have e0 : wr.cell? ⟨g2, q * 3, none⟩ = some (.int .i64 (-1 - (m : Int))) := by
            rw [cell_later hO.1 (hcell (q * 3) (by omega)), markCell, if_pos (by omega)]
          have e1 : wr.cell? ⟨g2, q * 3 + 1, none⟩ = some (.int .i64 (-1)) := by
            rw [cell_later hO.1 (hcell (q * 3 + 1) (by omega)), markCell, if_neg (by omega)]
          have e2 : wr.cell? ⟨g2, q * 3 + 2, none⟩ = some (.int .i64 (-1)) := by
            rw [cell_later hO.1 (hcell (q * 3 + 2) (by omega)), markCell, if_neg (by omega)]
          have hgw : g2 < wr.heap.size := Nat.lt_of_lt_of_le hg2 hO.1.size
          have HO2 := hide hO
          clear hO hcell
          go_wp2
          go_region_with (first | (go_at_call 52; refine (markOf_any (m : Int) _ (by omega) (by omega)).mono ?_; rintro e w' ⟨rfl, hb⟩; have e0' := cell_later hb e0; have e1' := cell_later hb e1; have e2' := cell_later hb e2; have o1' := cell_later hb o1; have o2' := cell_later hb o2; have HB' := hide hb; clear hb))
          all_goals go_wp2
          all_goals go_roundw
          all_goals first | exact ⟨q + 1, by omega, by go_num, HO2.out.next (by first | exact HB'.out | exact Below.drewN HB'.out _ | (repeat (first | exact HB'.out | refine Below.drewN ?_ _ | refine Below.drew ?_ | refine Below.undrew ?_)))⟩ | (simp [intOf]; omega)
        · have hlt2' : ¬ (q : Int) < (j : Int) := by omega
          have HO2 := hide hO
          clear hO
          go_wp2
          go_roundw
          case rel => exact ⟨k + 1, by omega, by go_num, HO2.out.1⟩
          case measure => simp [intOf]; omega
    · have hlt' : ¬ (k : Int) < (es1.length : Int) := by omega
      have HB := hide hB
      clear hB
      go_wp2
      go_loopw [6] (fun i w' => ∃ k : Nat, k ≤ es2.length ∧ i = .int .i64 (k : Int) ∧ Below W.heap.size W w') (fun i _ => es2.length - (intOf i).toNat)
      case atStart => exact ⟨0, Nat.zero_le _, rfl, HB.out⟩
      case round =>
        obtain ⟨k, hk, rfl, hB⟩ := hrel
        have c3 : wr.cell? ⟨bL, 3, none⟩ = some (.slice ai es2.length ci) := (HR.out.old hB).cell_of rfl
        by_cases hlt : k < es2.length
        · have hlt' : (k : Int) < (es2.length : Int) := by omega
          have hk0 : (0 : Int) ≤ (k : Int) := by omega
          obtain ⟨g, rfl, hg, hcs⟩ := HI.out (by omega)
          have he : es2[k]? = some (es2[k].1, es2[k].2) := List.getElem?_eq_getElem hlt
          obtain ⟨hc1, hc2⟩ := hcs k _ _ he
          obtain ⟨hkm, hrd⟩ := R2.out _ _ (List.mem_of_getElem? he)
          generalize es2[k].2 = m at he hc2 hkm hrd
          generalize es2[k].1 = s at he hc1 hrd
          obtain ⟨a, j, c, rfl, hj, hrs⟩ := hrd.open
          have d1 : wr.cell? ⟨g, k * 2, none⟩ = some (.slice a j c) := cell_later hB hc1
          have d2 : wr.cell? ⟨g, k * 2 + 1, none⟩ = some (.int .i64 (m : Int)) := cell_later hB hc2
          have HB := hide hB
          have HRS := hide hrs
          have HO := hide (fun (W' : World) (hw : W' = wr.alloc (.cells #[.slice a j c, .int .i64 (m : Int)] 102)) => (show OAt W wr.heap.size (.slice a j c) m W' by
            subst hw
            exact ⟨Below.next hB (below_alloc _ _) hB.size, (Row.new wr [_, _] 102).cell_of rfl, (Row.new wr [_, _] 102).cell_of rfl, by simp⟩))
          clear hB hrs hrd hc1 hc2 hcs he
          go_wp2
          go_loopw [8] (fun i w' => ∃ q : Nat, q ≤ j ∧ i = .int .i64 (q : Int) ∧ OAt W wr.heap.size (.slice a j c) m w') (fun i _ => j - (intOf i).toNat)
          case atStart => exact ⟨0, Nat.zero_le _, rfl, HO.out _ (by first | rfl | simp)⟩
          case round =>
            obtain ⟨q, hq, rfl, hO⟩ := hrel
            have o1 := hO.2.1
            have o2 := hO.2.2.1
            have o3 := hO.2.2.2
            by_cases hlt2 : q < j
            · obtain ⟨g2, rfl, hg2, hcell⟩ := HRS.out (by omega)
              have hlt2' : (q : Int) < (j : Int) := by omega
              have hq0 : (0 : Int) ≤ (q : Int) := by omega
              have e0 : wr.cell? ⟨g2, q, none⟩ = some (.int .i64 (-1 - (m : Int))) := by
                rw [cell_later hO.1 (hcell q (by omega)), intCell]
              have HO2 := hide hO
              clear hO hcell
              go_wp2
              go_quiet (fail)
              go_wp2
              go_roundw
              case rel => exact ⟨q + 1, by omega, by go_num, HO2.out.drewN _⟩
              case measure => simp [intOf]; omega
            · have hlt2' : ¬ (q : Int) < (j : Int) := by omega
              have HO2 := hide hO
              clear hO
              go_wp2
              go_roundw
              case rel => exact ⟨k + 1, by omega, by go_num, HO2.out.1⟩
              case measure => simp [intOf]; omega
        · have hlt' : ¬ (k : Int) < (es2.length : Int) := by omega
          have HB := hide hB
          clear hB
          go_wp2
          go_ret
          exact ⟨rfl, HB.out⟩
end Go.Proofs.YtefjhnhdagolhaaGreat
namespace Go.Proofs.YtefjhnhdagolhaaGreat
open Go.RowKit
attribute [local go_sem ↓] Go.wp_at_zero Go.wp_at_succ
theorem results_agg2 {P : Program} {fn : Func} {tmps : Array Value} {a a' : Tmp} {t t' : TypeId} {w : World} {b o b' o' : Nat} {cs cs' : List Value} {d d' : TypeDesc} (hr : fn.results = #[.cell a t, .cell a' t']) (ha : tmps.getD a undef = .pointer (some ⟨b, o, none⟩)) (ha' : tmps.getD a' undef = .pointer (some ⟨b', o', none⟩))
    (hc : w.rangeAt b o cs) (hc' : w.rangeAt b' o' cs') (hu : P.underlying t = some d) (hd : d.isRow = true) (hi : (P.info? t).map (·.size) = some cs.length) (hu' : P.underlying t' = some d') (hd' : d'.isRow = true) (hi' : (P.info? t').map (·.size) = some cs'.length) :
    (results fn tmps).run P w = .ok (.tuple #[.agg cs.toArray, .agg cs'.toArray]) w := by
  rw [Array.getD_eq_getD_getElem?] at ha ha'
  unfold results
  simp [hr, ha, ha', asAddr, run_loadVar_mid w b o t cs d hc hu hd hi, run_loadVar_mid w b' o' t' cs' d' hc' hu' hd' hi']
end Go.Proofs.YtefjhnhdagolhaaGreat
namespace Go.Proofs.YtefjhnhdagolhaaGreat
open Go.RowKit
theorem step_copy_set {P : Program} {ops : Array Oper} {o : Oper} {a : Act} {w : World} {K : Act → World → Prop} {Q : Exit → Act → World → Prop} {E : Prop} (hgd : o.guard = none) (d s : Operand) (dT sT : TypeId)
    (ho : o.op = .call { callee := .builtin .copy, args := #[d, s], argTypes := #[dT, sT] }) (elem : TypeId) (hu : P.underlying dT = some (.slice elem)) (hsz : (P.info? elem).map (·.size) = some 1)
    (b off dLen dCap : Nat) (ad : Addr) (sLen sCap : Nat) (hd : a.eval d = .slice (some ⟨b, off, none⟩) dLen dCap) (hs : a.eval s = .slice (some ad) sLen sCap)
    (cs : List Value) (hn : cs.length = Nat.min sLen dLen) (hsrc : ∀ j v, cs[j]? = some v → w.cell? (ad.add j) = some v) (hc : ∀ j, j < cs.length → (w.cell? ⟨b, off + j, none⟩).isSome = true) (hf : ∀ j, j < cs.length → w.frozen? ⟨b, off + j, none⟩ = false) (h1 : ∀ v ∈ cs, v.oneCell' = true)
    (h : K (a.put o.dst (goInt cs.length)) (w.setCells b off cs)) : if Region.wanted o (yielded ops a.tmps) = true then Oper.wp P o a w K Q else E := by
  have hw : Region.wanted o (yielded ops a.tmps) = true := by simp [Region.wanted, hgd]
  rw [if_pos hw]
  have hrun := run_copy_cells (P := P) w dT sT o.type elem b off dLen dCap ad sLen sCap cs hu hsz hn hsrc hc hf h1
  unfold Oper.wp
  simp [execOp, ho, resolve, invoke, builtin, hd, hs, hrun, Result.andThen]
  exact h
theorem list_one {l : List Value} (h : l.length = 1) : ∃ a, l = [a] := by
  match l, h with
  | [a], _ => exact ⟨a, rfl⟩
end Go.Proofs.YtefjhnhdagolhaaGreat
namespace Go.Proofs.YtefjhnhdagolhaaGreat
open Go.RowKit
attribute [local go_sem ↓] Go.wp_at_zero Go.wp_at_succ
set_option maxHeartbeats 1000000 in
theorem badOp_w (w : World) : Calls Tryz.prog 363 #[] w fun e w' => e = .returned (.agg #[.int .i64 4, .int .i64 0]) ∧ Below w.heap.size w w' := by
  go_enter Tryz.func363, Tryz.ntmps363
  go_wp2
  exact bodyPost_ret (v := .agg #[.int .i64 4, .int .i64 0]) (by simp [results, Tryz.results363, go_sem]) rfl ⟨rfl, below_alloc _ _⟩
set_option maxHeartbeats 1000000 in
theorem done_w (x : Int) (w : World) : Calls Tryz.prog 364 #[.int .i64 x] w fun e w' => e = .returned (.agg #[.int .i64 1, .int .i64 x]) ∧ Below w.heap.size w w' := by
  go_enter Tryz.func364, Tryz.ntmps364
  go_wp2
  exact bodyPost_ret (v := .agg #[.int .i64 1, .int .i64 x]) (by simp [results, Tryz.results364, go_sem]) rfl ⟨rfl, below_alloc _ _⟩
end Go.Proofs.YtefjhnhdagolhaaGreat
