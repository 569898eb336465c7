import Derived.Test.YtefjhnhdagolhaaGreatQ41
import Derived.Deep.LoopGhost
import Derived.Test.YtefjhnhdagolhaaGreatQ42
namespace Go.Proofs.YtefjhnhdagolhaaGreat
open Go.RowKit
attribute [local go_sem ↓] Go.wp_at_zero Go.wp_at_succ
def BestI (l s : Prs) (j k : Nat) (best : Value) : Prop :=
  (best = .int .i64 (-1) ∧ ∀ x ∈ l.take k, ¬ Beh s j x) ∨ ∃ (q : Nat) (hq : q < l.length), q < k ∧ best = .int .i64 (2 * (q : Int)) ∧ Beh s j (l[q]) ∧ ∀ x ∈ l.take k, Beh s j x → (l[q]).1 ≤ x.1
theorem BestI.skip {l s : Prs} {j k : Nat} {best : Value} (h : BestI l s j k best) (hk : k < l.length) (hb : ¬ Beh s j l[k]) : BestI l s j (k + 1) best := by
  rcases h with ⟨e, h⟩ | ⟨q, hq, hqk, e, h1, h2⟩
  · refine .inl ⟨e, fun x hx => ?_⟩
    rw [take_snoc hk, List.mem_append] at hx
    rcases hx with hx | hx
    · exact h x hx
    · rw [List.mem_singleton.mp hx]; exact hb
  · refine .inr ⟨q, hq, by omega, e, h1, fun x hx => ?_⟩
    rw [take_snoc hk, List.mem_append] at hx
    rcases hx with hx | hx
    · exact h2 x hx
    · rw [List.mem_singleton.mp hx]; exact fun c => absurd c hb
theorem BestI.same {l s : Prs} {j k q : Nat} {hq : q < l.length} (hqk : q < k) (h1 : Beh s j l[q]) (h2 : ∀ x ∈ l.take k, Beh s j x → (l[q]).1 ≤ x.1) (hk : k < l.length) (hc : ¬ (l[k]).1 < (l[q]).1) : BestI l s j (k + 1) (.int .i64 (2 * (q : Int))) := by
  refine .inr ⟨q, hq, by omega, rfl, h1, fun x hx hx2 => ?_⟩
  rw [take_snoc hk, List.mem_append] at hx
  rcases hx with hx | hx
  · exact h2 x hx hx2
  · rw [List.mem_singleton.mp hx]; omega
theorem BestI.take1 {l s : Prs} {j k : Nat} (h : ∀ x ∈ l.take k, ¬ Beh s j x) (hk : k < l.length) (hb : Beh s j l[k]) : BestI l s j (k + 1) (.int .i64 (2 * (k : Int))) := by
  refine .inr ⟨k, hk, by omega, rfl, hb, fun x hx hx2 => ?_⟩
  rw [take_snoc hk, List.mem_append] at hx
  rcases hx with hx | hx
  · exact absurd hx2 (h x hx)
  · rw [List.mem_singleton.mp hx]; omega
theorem BestI.take2 {l s : Prs} {j k q : Nat} {hq : q < l.length} (h2 : ∀ x ∈ l.take k, Beh s j x → (l[q]).1 ≤ x.1) (hk : k < l.length) (hb : Beh s j l[k]) (hc : (l[k]).1 < (l[q]).1) : BestI l s j (k + 1) (.int .i64 (2 * (k : Int))) := by
  refine .inr ⟨k, hk, by omega, rfl, hb, fun x hx hx2 => ?_⟩
  rw [take_snoc hk, List.mem_append] at hx
  rcases hx with hx | hx
  · have := h2 x hx hx2; omega
  · rw [List.mem_singleton.mp hx]; omega
section
variable {w : World} {l s : Prs} {v : Value}
set_option maxRecDepth 20000 in
set_option maxHeartbeats 8000000 in
theorem sorted_w (ho : w.ownsRow 0 3 1 v (flat l).length (ints (flat l))) (hp : l.Perm s) (ha : Asc s) (hz : l.length ≤ 500000000000) :
    Calls Tryz.prog 115 #[v] w fun e w' => ∃ v', e = .returned v' ∧ w'.ownsRow w.heap.size 3 1 v' (flat s).length (ints (flat s)) ∧ Below w.heap.size w w' := by
  obtain ⟨ti, hti, htz⟩ := Option.map_eq_some_iff.1 info_int
  simp only [Prod.mk.injEq] at htz
  obtain ⟨htz1, htz2, htz3⟩ := htz
  have HTI := hide hti
  have HT1 := hide htz1
  have HT2 := hide htz2
  have HT3 := hide htz3
  clear hti htz1 htz2 htz3
  obtain ⟨⟨va, vc, rfl⟩, -⟩ := owns_form ho
  have hfl := flat_len l
  have hls := hp.length_eq
  generalize hn2 : (flat l).length = n2 at *
  have hn3 : (n2 : Int) ≤ 2 * (l.length : Int) := by omega
  have hn4 : 2 * (l.length : Int) ≤ (n2 : Int) := by omega
  have HO := hide ho
  have HP := hide hp
  have HA := hide ha
  have HLS := hide hls
  clear ho hp ha hfl hn2 hls
  go_enter Tryz.func115, Tryz.ntmps115
  go_wp2
  go_loopg [3] l.length (fun g o w' => ∃ j : Nat, j + g = l.length ∧ Below w.heap.size w w' ∧ w'.ownsRow w.heap.size 3 1 o (flat (s.take j)).length (ints (flat (s.take j))))
  case atStart => exact ⟨0, by omega, Below.refl _ _, World.ownsRow_nil _ _ _ _⟩
  case round =>
    obtain ⟨j, hj, hb, hown⟩ := hrel
    obtain ⟨⟨oa, oc, rfl⟩, -⟩ := owns_form hown
    have hlj : (flat (s.take j)).length = 2 * j := by rw [flat_len, List.length_take]; have := HLS.out; omega
    have HOw := hide hown
    have HB := hide hb
    have hzr := hb.size
    clear hown hb
    generalize hn5 : (flat (s.take j)).length = n5 at *
    have HN5 := hide hn5
    clear hn5
    have hm1 : (n5 : Int) ≤ 2 * (j : Int) := by omega
    have hm2 : 2 * (j : Int) ≤ (n5 : Int) := by omega
    clear hlj
    by_cases hjm : j < l.length
    · have hlt1 : (n5 : Int) < (n2 : Int) := by omega
      have hjs : j < s.length := by have := HLS.out; omega
      have hgk : 0 < gk := by omega
      -- the last key of those that are out
      have HLK := hide (show j ≠ 0 → ∃ og, oa = some ⟨og, 0, none⟩ ∧ wr.cell? ⟨og, n5 - 2, none⟩ = some (.int .i64 (s[j - 1]'(by omega)).1) by
        intro j0
        have hf := (flat_get (s.take j) (i := j - 1) (by rw [List.length_take]; omega)).1
        obtain ⟨og, oc', e, hc⟩ := owns_at HOw.out (i := n5 - 2) (u := .int .i64 (s[j - 1]'(by omega)).1) (by
          rw [ints, List.getElem?_map, show n5 - 2 = 2 * (j - 1) by omega, hf]
          simp)
        exact ⟨og, by injection e, hc⟩)
      go_wp2
      go_loopw [4, 5] (fun best i w' => ∃ k : Nat, k ≤ l.length ∧ i = .int .i64 (2 * (k : Int)) ∧ (∃ q, w' = wr.drewN q) ∧ BestI l s j k best) (fun _ i _ => l.length - (intOf i).toNat / 2)
      case atStart => exact ⟨0, Nat.zero_le _, rfl, ⟨0, rfl⟩, .inl ⟨rfl, fun x hx => absurd hx (by simp)⟩⟩
      case round =>
        obtain ⟨k, hk, rfl, ⟨nd, rfl⟩, hBI⟩ := hrel
        have HBI := hide hBI
        clear hBI
        by_cases hlt : k < l.length
        · have hf := flat_get l hlt
          obtain ⟨g, cg, eg, hx⟩ := owns_at HO.out (i := 2 * k) (u := .int .i64 (l[k]).1) (by rw [ints, List.getElem?_map, hf.1]; rfl)
          have e1 : va = some ⟨g, 0, none⟩ := by injection eg
          subst e1
          have x1 := cell_later HB.out hx
          have hl1 : 2 * (k : Int) + 1 < (n2 : Int) := by omega
          have hl2 : 2 * (k : Int) < (n2 : Int) := by omega
          have hl0 : (0 : Int) ≤ 2 * (k : Int) := by omega
          have ht1 : (2 * (k : Int)).toNat = 2 * k := by omega
          clear hf eg hx
          by_cases hj0 : j = 0
          · have h50 : ((n5 : Int) == 0) = true := beq_iff_eq.2 (by omega)
            have h55 : decide ((n5 : Int) = 0) = true := decide_eq_true (by omega)
            have hbe : Beh s j l[k] := .inl hj0
            clear HLK hj0
            rcases HBI.out with ⟨rfl, hn⟩ | ⟨q, hq, hqk, rfl, h1, h2⟩
            · have HN := hide (BestI.take1 hn hlt hbe)
              clear hn
              go_wp2
              go_quiet (fail)
              go_wp2
              go_quiet (fail)
              go_wp2
              go_roundw
              case rel => exact ⟨k + 1, by omega, by go_num, ⟨_, rfl⟩, HN.out⟩
              case measure => simp [intOf]; omega
            · have hf := flat_get l hq
              obtain ⟨g', cg', eg', hy⟩ := owns_at HO.out (i := 2 * q) (u := .int .i64 (l[q]).1) (by rw [ints, List.getElem?_map, hf.1]; rfl)
              have e2 : g = g' := by injection eg' with q; injection q with q; injection q
              subst e2
              have y1 := cell_later HB.out hy
              have hq0 : ¬ 2 * (q : Int) < 0 := by omega
              have hd0 : decide (2 * (q : Int) < 0) = false := decide_eq_false (by omega)
              have hq1 : (0 : Int) ≤ 2 * (q : Int) := by omega
              have hq2 : 2 * (q : Int) < (n2 : Int) := by omega
              have hq3 : (2 * (q : Int)).toNat = 2 * q := by omega
              clear hf eg' hy
              by_cases hc : (l[k]).1 < (l[q]).1
              · have HN := hide (BestI.take2 h2 hlt hbe hc)
                clear h1 h2
                go_wp2
                go_quiet (fail)
                go_wp2
                go_quiet (fail)
                go_wp2
                go_roundw
                case rel => exact ⟨k + 1, by omega, by go_num, ⟨_, rfl⟩, HN.out⟩
                case measure => simp [intOf]; omega
              · have HN := hide (BestI.same (hq := hq) hqk h1 h2 hlt hc)
                clear h1 h2
                go_wp2
                go_quiet (fail)
                go_wp2
                go_quiet (fail)
                go_wp2
                go_roundw
                case rel => exact ⟨k + 1, by omega, by go_num, ⟨_, rfl⟩, HN.out⟩
                case measure => simp [intOf]; omega
          · obtain ⟨og, rfl, ox⟩ := HLK.out hj0
            have h50 : ((n5 : Int) == 0) = false := beq_eq_false_iff_ne.2 (by omega)
            have h55 : decide ((n5 : Int) = 0) = false := decide_eq_false (by omega)
            have h56 : ¬ n5 = 0 := by omega
            have h51 : (0 : Int) ≤ (n5 : Int) - 2 := by omega
            have h52 : (n5 : Int) - 2 < (n5 : Int) := by omega
            have h53 : ((n5 : Int) - 2).toNat = n5 - 2 := by omega
            have h54 : IntKind.i64.wrap ((n5 : Int) - 2) = (n5 : Int) - 2 := wrapi _ (by omega) (by omega)
            clear HLK
            by_cases hbb : (s[j - 1]'(by omega)).1 < (l[k]).1
            · have hbe : Beh s j l[k] := .inr fun _ => hbb
              rcases HBI.out with ⟨rfl, hn⟩ | ⟨q, hq, hqk, rfl, h1, h2⟩
              · have HN := hide (BestI.take1 hn hlt hbe)
                clear hn
                go_wp2
                go_quiet (fail)
                go_wp2
                go_quiet (fail)
                go_wp2
                go_roundw
                case rel => exact ⟨k + 1, by omega, by go_num, ⟨_, rfl⟩, HN.out⟩
                case measure => simp [intOf]; omega
              · have hf := flat_get l hq
                obtain ⟨g', cg', eg', hy⟩ := owns_at HO.out (i := 2 * q) (u := .int .i64 (l[q]).1) (by rw [ints, List.getElem?_map, hf.1]; rfl)
                have e2 : g = g' := by injection eg' with q; injection q with q; injection q
                subst e2
                have y1 := cell_later HB.out hy
                have hq0 : ¬ 2 * (q : Int) < 0 := by omega
                have hd0 : decide (2 * (q : Int) < 0) = false := decide_eq_false (by omega)
                have hq1 : (0 : Int) ≤ 2 * (q : Int) := by omega
                have hq2 : 2 * (q : Int) < (n2 : Int) := by omega
                have hq3 : (2 * (q : Int)).toNat = 2 * q := by omega
                clear hf eg' hy
                by_cases hc : (l[k]).1 < (l[q]).1
                · have HN := hide (BestI.take2 h2 hlt hbe hc)
                  clear h1 h2
                  go_wp2
                  go_quiet (fail)
                  go_wp2
                  go_quiet (fail)
                  go_wp2
                  go_roundw
                  case rel => exact ⟨k + 1, by omega, by go_num, ⟨_, rfl⟩, HN.out⟩
                  case measure => simp [intOf]; omega
                · have HN := hide (BestI.same (hq := hq) hqk h1 h2 hlt hc)
                  clear h1 h2
                  go_wp2
                  go_quiet (fail)
                  go_wp2
                  go_quiet (fail)
                  go_wp2
                  go_roundw
                  case rel => exact ⟨k + 1, by omega, by go_num, ⟨_, rfl⟩, HN.out⟩
                  case measure => simp [intOf]; omega
            · have hbd : decide ((s[j - 1]'(by omega)).1 < (l[k]).1) = false := decide_eq_false hbb
              have HN := hide (HBI.out.skip hlt (fun c => c.elim hj0 (fun c => hbb (c (by omega)))))
              go_wp2
              go_quiet (fail)
              go_wp2
              go_quiet (fail)
              go_wp2
              go_roundw
              case rel => exact ⟨k + 1, by omega, by go_num, ⟨_, rfl⟩, HN.out⟩
              case measure => simp [intOf]; omega
        · have hke : k = l.length := by omega
          subst hke
          have hl1 : ¬ 2 * (l.length : Int) + 1 < (n2 : Int) := by omega
          obtain ⟨q, hq, hb1, hb2⟩ : ∃ (q : Nat) (hq : q < l.length), u4 = .int .i64 (2 * (q : Int)) ∧ l[q] = s[j] := by
            obtain ⟨y, hy1, hy2⟩ := beh_ex HP.out HA.out hjs
            rcases HBI.out with ⟨-, hn⟩ | ⟨q, hq, -, e, h1, h2⟩
            · rw [List.take_length] at hn; exact absurd hy2 (hn y hy1)
            · rw [List.take_length] at h2
              exact ⟨q, hq, e, beh_is HP.out HA.out hjs (List.getElem_mem hq) h1 h2⟩
          subst hb1
          have hf := flat_get l hq
          rw [hb2] at hf
          obtain ⟨g, cg, eg, hx⟩ := owns_at HO.out (i := 2 * q) (u := .int .i64 (s[j]).1) (by rw [ints, List.getElem?_map, hf.1]; rfl)
          obtain ⟨g', cg', eg', hy⟩ := owns_at HO.out (i := 2 * q + 1) (u := .int .i64 (s[j]).2) (by rw [ints, List.getElem?_map, hf.2]; rfl)
          have e1 : va = some ⟨g, 0, none⟩ := by injection eg
          have e2 : g = g' := by rw [e1] at eg'; injection eg' with q; injection q with q; injection q
          subst e1 e2
          have hgl : g < w.heap.size := World.block_lt_of_cell? w _ hx
          generalize hW2 : World.drewN wr nd = W2
          have hbW : Below w.heap.size w W2 := by rw [← hW2]; exact Below.drewN HB.out _
          have HOw2 := hide (show W2.ownsRow w.heap.size 3 1 (.slice oa n5 oc) n5 (ints (flat (s.take j))) by rw [← hW2]; exact HOw.out)
          have x1 := cell_later hbW hx
          have y1 := cell_later hbW hy
          have hq1 : (0 : Int) ≤ 2 * (q : Int) := by omega
          have hq2 : 2 * (q : Int) < (n2 : Int) := by omega
          have hq3 : (2 * (q : Int)).toNat = 2 * q := by omega
          have hq4 : (0 : Int) ≤ 2 * (q : Int) + 1 := by omega
          have hq5 : 2 * (q : Int) + 1 < (n2 : Int) := by omega
          have hq6 : (2 * (q : Int) + 1).toNat = 2 * q + 1 := by omega
          have hq7 : IntKind.i64.wrap (2 * (q : Int) + 1) = 2 * (q : Int) + 1 := wrapi _ (by omega) (by omega)
          have HBW := hide hbW
          have hvn : some g ≠ (Value.slice oa n5 oc).ownBlock := fun e => absurd (HOw2.out.lt g e.symm).1 (by omega)
          have hzW := hbW.size
          clear hf eg eg' hx hy hb2 hW2 hbW HLK HBI
          go_wp2
          refine rg0 (S := (fun w' => w'.cell? ⟨g, 2 * q, none⟩ = some (.int .i64 (s[j]).1) ∧ w'.cell? ⟨g, 2 * q + 1, none⟩ = some (.int .i64 (s[j]).2))) 13 rfl (by kernel_rfl) ?_ (fun hHeld => ?_)
          · exact ⟨x1, y1⟩
          iterate 10 (refine tk 12 (by rfl) (by kernel_rfl) (by exact fun _ _ _ h => h) (.inl ⟨by rfl, fun w hS => by (try dsimp only at hS); go_simp; (try with_reducible rfl)⟩) (by assumption) ?_; try go_frame)
          refine rd1 10 (by rfl) (by kernel_rfl) (fun K hK => ?_)
          go_simp
          refine hK.out _ _ ?_ (fun hHeld => ?_)
          · exact ⟨cell_later (below_alloc _ _) hHeld.1, cell_later (below_alloc _ _) hHeld.2⟩
          clear hK K
          (try go_frame)
          refine rd1 11 (by rfl) (by kernel_rfl) (fun K hK => ?_)
          refine step_append_lies _ rfl (.tmp 52) (.tmp 62) 22 rfl w.heap.size 3 ti (.int .i64 0) 1 8 Tryz.underlying22 HTI.out HT1.out HT2.out HT3.out rfl (by decide) (.slice oa n5 oc) n5 (ints (flat (s.take j))) rfl (HOw2.out.alloc _) ⟨W2.heap.size, 0, none⟩ 2 2 [.int .i64 (s[j]).1, .int .i64 (s[j]).2] rfl rfl (World.news_of_block (Row.new' (by simp))) (by simp [Value.oneCell']) (by decide) (by unfold maxLen; omega) (by omega) (by simp; omega) _ rfl ?_
          intro g4 cap4 w4 hown hgr hat hlt4
          have HO4 := hide hown
          have HG := hide hgr
          clear hown hgr hat hlt4
          refine hK.out _ _ ?_ (fun hHeld => ?_)
          · exact ⟨HG.out.cell hHeld.1 hvn, HG.out.cell hHeld.2 hvn⟩
          clear hK K
          (try go_frame)
          iterate 1 (refine tk 12 (by rfl) (by kernel_rfl) (by exact fun _ _ _ h => h) (.inl ⟨by rfl, fun w hS => by (try dsimp only at hS); go_simp; (try with_reducible rfl)⟩) (by assumption) ?_; try go_frame)
          refine wpAnyH_done (by kernel_rfl) ?_ _
          have HN := hide (show Below w.heap.size w w4 ∧ w4.ownsRow w.heap.size 3 1 (.slice (some ⟨g4, 0, none⟩) (n5 + 2) cap4) (flat (s.take (j + 1))).length (ints (flat (s.take (j + 1)))) from by
            refine ⟨(Below.next HBW.out (Below.drew (below_alloc W2 _)) HBW.out.size).grown HG.out (by simp; omega) (fun q hq => (HOw2.out.lt q hq).1), ?_⟩
            rw [take_snoc hjs, flat_append, List.length_append, HN5.out]
            have e3 : ints (flat (s.take j) ++ flat [s[j]]) = ints (flat (s.take j)) ++ [.int .i64 (s[j]).1, .int .i64 (s[j]).2] := by simp [ints, flat]
            rw [e3]
            exact HO4.out)
          clear hHeld HO4 HG
          go_wp2
          go_roundg (gk - 1)
          case measure => omega
          case rel => exact ⟨j + 1, by omega, HN.out.1, HN.out.2⟩
    · have hje : j = l.length := by omega
      subst hje
      have hlt1 : ¬ (n5 : Int) < (n2 : Int) := by omega
      go_wp2
      go_ret
      refine ⟨_, rfl, ?_, HB.out⟩
      have e : s.take l.length = s := by rw [HLS.out]; exact List.take_length
      have ho := HOw.out
      rw [e] at ho
      have h5 := HN5.out
      rw [e] at h5
      rw [h5]
      exact ho
end
end Go.Proofs.YtefjhnhdagolhaaGreat
namespace Go.Proofs.YtefjhnhdagolhaaGreat
open Go.RowKit
open M (upd upd_same upd_other RSt RTh cnt marks tagged num)
attribute [local go_sem ↓] Go.wp_at_zero Go.wp_at_succ
def MapQ (w : World) (b : Nat) (hd : List Value) (vh : Value) (l' : Prs) (w' : World) : Prop :=
  ∃ vh', Row w' b 159 (hd ++ [vh']) ∧ w'.ownsRow 0 3 1 vh' (flat l').length (ints (flat l')) ∧ (∀ k, vh'.ownBlock = some k → k ≠ b ∧ (vh.ownBlock = some k ∨ w.heap.size ≤ k)) ∧ Fr (fun k => k = b) w w'
section
variable {st co a b2 : Int} {s1 s2 : Value} {b : Nat} {w : World} {l l' : Prs} {vh : Value}
set_option maxHeartbeats 1000000 in
theorem docMaps_bad (k : Int) (hk : k < 1 ∨ 3 < k) :
    Calls Tryz.prog 145 #[.pointer (some ⟨b, 0, none⟩), .agg #[.int .i64 k, .int .i64 a, .int .i64 b2]] w fun e w' => e = .returned (.agg #[.int .i64 4, .int .i64 0]) ∧ Below w.heap.size w w' := by
  by_cases h1 : k < 1
  · clear hk
    go_enter Tryz.func145, Tryz.ntmps145
    go_wp2
    exact bodyPost_ret (v := .agg #[.int .i64 4, .int .i64 0]) (by simp [results, Tryz.results145, go_sem]) rfl ⟨rfl, (by repeat (first | exact Below.refl _ _ | assumption | refine Below.drewN ?_ _ | refine Below.alloc ?_ (by simp) _))⟩
  · have h2 : 3 < k := by omega
    clear hk
    go_enter Tryz.func145, Tryz.ntmps145
    go_wp2
    exact bodyPost_ret (v := .agg #[.int .i64 4, .int .i64 0]) (by simp [results, Tryz.results145, go_sem]) rfl ⟨rfl, (by repeat (first | exact Below.refl _ _ | assumption | refine Below.drewN ?_ _ | refine Below.alloc ?_ (by simp) _))⟩
set_option maxRecDepth 20000 in
set_option maxHeartbeats 1000000 in
theorem docDoes_map (k x y : Int) (hR : Row w b 159 ([.int .i64 4, .int .i64 st, .int .i64 co, s1, s2] ++ [vh]))
    (hq : ∀ W, Below w.heap.size w W → Calls Tryz.prog 145 #[.pointer (some ⟨b, 0, none⟩), .agg #[.int .i64 k, .int .i64 a, .int .i64 b2]] W fun e w' => e = .returned (.agg #[.int .i64 x, .int .i64 y]) ∧ MapQ W b [.int .i64 4, .int .i64 st, .int .i64 co, s1, s2] vh l' w') :
    Calls Tryz.prog 114 #[.pointer (some ⟨b, 0, none⟩), .agg #[.int .i64 k, .int .i64 a, .int .i64 b2]] w fun e w' => e = .returned (.agg #[.int .i64 x, .int .i64 y]) ∧ MapQ w b [.int .i64 4, .int .i64 st, .int .i64 co, s1, s2] vh l' w' := by
  have c0 := hR.cell_of (i := 0) rfl
  have hbl := hR.lt
  go_enter Tryz.func114, Tryz.ntmps114
  go_upto_region 1 with fail
  generalize hW : World.alloc (World.alloc w _) _ = W
  have hb : Below w.heap.size w W := by rw [← hW]; exact ((Below.refl _ _).alloc (Nat.le_refl _) _).alloc (by simp) _
  have r0 : Row W w.heap.size 36 [.int .i64 k, .int .i64 a, .int .i64 b2] := by rw [← hW]; exact (Row.new' rfl).alloc _
  have r1 : Row W (w.heap.size + 1) 94 [.int .i64 0, .int .i64 0] := by rw [← hW]; exact Row.new' (by simp)
  have d0 := cell_later hb c0
  have x0 := r0.cell_of (i := 0) rfl
  have x1 := r0.cell_of (i := 1) rfl
  have x2 := r0.cell_of (i := 2) rfl
  have HR1 := hide r1
  have HB := hide hb
  have HQ := hide (hq W hb)
  clear hW hR c0 r0 r1 hb hq
  go_wp2_with fail
  refine HQ.out.mono ?_
  rintro e w3 ⟨rfl, vh', m1, m2, m3, m4⟩
  have r3 : Row w3 (w.heap.size + 1) 94 [.int .i64 0, .int .i64 0] := HR1.out.of_block (m4.block _ HR1.out.lt (by omega))
  have y0 := r3.cell_of (i := 0) rfl
  have y1 := r3.cell_of (i := 1) rfl
  have z0 := r3.frozen 0
  have z1 := r3.frozen 1
  have HRo := hide (r3.set 0 (.int .i64 x) |>.set 1 (.int .i64 y))
  have HN := hide (owns_not m2 r3 (by decide))
  have HM := hide (And.intro m1 (And.intro m2 (And.intro m3 m4)))
  clear m1 m2 m3 m4 r3
  go_wp2_with fail
  have q1 := HRo.out.cell_of (i := 0) rfl
  have q2 := HRo.out.cell_of (i := 1) rfl
  obtain ⟨m1, m2, m3, m4⟩ := HM.out
  have hzb := HB.out.size
  refine bodyPost_ret (v := .agg #[.int .i64 x, .int .i64 y]) (by simp [results, Tryz.results114, go_sem, q1, q2]) rfl ⟨rfl, vh', (m1.setOther (show b ≠ w.heap.size + 1 by omega) _).setOther (show b ≠ w.heap.size + 1 by omega) _, owns_block m2 fun q e => ?_, fun q e => ⟨(m3 q e).1, (m3 q e).2.imp id (fun c => by omega)⟩, ?_⟩
  · have hne : q ≠ w.heap.size + 1 := fun c => HN.out (by rw [← c]; exact e)
    rw [Below.heap_setCell _ _ _ q hne, Below.heap_setCell _ _ _ q hne]
  · refine ((Fr.of_below (own := fun k => k = b) HB.out).trans m4).grow (own' := fun k => k = w.heap.size + 1) (((Fr.refl (fun k => k = w.heap.size + 1) _).here (b := w.heap.size + 1) rfl _ _).here (b := w.heap.size + 1) rfl _ _) (fun k hk => .inr (by omega))
set_option maxHeartbeats 1000000 in
theorem docTells_map {s : Prs} (hR : Row w b 159 ([.int .i64 4, .int .i64 st, .int .i64 co, s1, s2] ++ [vh])) (ho : w.ownsRow 0 3 1 vh (flat l).length (ints (flat l))) (hp : l.Perm s) (ha : Asc s) (hz : l.length ≤ 500000000000) :
    Calls Tryz.prog 89 #[.pointer (some ⟨b, 0, none⟩)] w fun e w' => ∃ v, e = .returned v ∧ w'.ownsRow w.heap.size 3 1 v (flat s).length (ints (flat s)) ∧ Below w.heap.size w w' := by
  have c0 := hR.cell_of (i := 0) rfl
  have c5 := hR.cell_of (i := 5) rfl
  have HS := hide (sorted_w ho hp ha hz)
  obtain ⟨⟨va, vc, rfl⟩, -⟩ := owns_form ho
  clear hR ho hp ha
  go_enter Tryz.func89, Tryz.ntmps89
  go_wp2_with fail
  refine HS.out.mono ?_
  rintro e w2 ⟨v, rfl, ho2, hb2⟩
  have HO := hide ho2
  have HB := hide hb2
  clear ho2 hb2
  go_wp2_with fail
  go_ret
  exact ⟨v, rfl, HO.out, HB.out⟩
end
theorem mapDoc (L : DL) (hk : L.kind = 4) (a1 a2 : Option Addr) (l1 c1 l2 c2 : Nat) (hn : L.vn = .slice a1 l1 c1) (ho : L.vo = .slice a2 l2 c2) :
    DOk L mapP flat (fun s => 2 * s.length) (fun w v s => Asc s ∧ ∃ l : Prs, l.Perm s ∧ w.ownsRow 0 3 1 v (flat l).length (ints (flat l))) (AuL L) where
  stay w w' v s h hb := by obtain ⟨h1, l, h2, h3⟩ := h; exact ⟨h1, l, h2, owns_block h3 hb⟩
  lt w v s h k e := by obtain ⟨h1, l, h2, h3⟩ := h; exact (h3.lt k e).2
  form w v s h := by
    obtain ⟨h1, l, h2, h3⟩ := h
    obtain ⟨⟨a, c, e⟩, -⟩ := owns_form h3
    exact ⟨a, _, c, e⟩
  au := AuL.au
  sz0 := map_grows.1
  szs := map_grows.2
  first w := by
    rw [hk, hn, ho]
    refine (start_list 4 (L.n : Int) (L.cap : Int) L.st L.co a1 l1 c1 a2 l2 c2 w (by decide) (by decide)).mono ?_
    rintro e w' ⟨rfl, hb⟩
    refine ⟨.slice none 0 0, ?_, ⟨trivial, [], List.Perm.refl _, World.ownsRow_nil _ _ _ _⟩, fun k e => (by cases e), hb⟩
    unfold plc; rw [hk, hn, ho]
  does B w b vh s op _ hb hR hM hne hsz := by
    obtain ⟨hA, l, hp, ho⟩ := hM
    have hd := asc_dis hA
    have hll := hp.length_eq
    have hR' : Row w b 159 ([.int .i64 4, .int .i64 L.st, .int .i64 L.co, L.vn, L.vo] ++ [vh]) := by unfold plc at hR; rw [hk] at hR; exact hR
    have hnb : vh.ownBlock ≠ some b := fun e => (hne b e).2 rfl
    have hpl : ∀ v : Value, plc L v = [.int .i64 4, .int .i64 L.st, .int .i64 L.co, L.vn, L.vo] ++ [v] := fun v => by unfold plc; rw [hk]; rfl
    have fin : ∀ (w' : World) (l' s' : Prs), MapQ w b [.int .i64 4, .int .i64 L.st, .int .i64 L.co, L.vn, L.vo] vh l' w' → Asc s' → l'.Perm s' → ∃ vh', Row w' b 159 (plc L vh') ∧ (Asc s' ∧ ∃ l : Prs, l.Perm s' ∧ w'.ownsRow 0 3 1 vh' (flat l).length (ints (flat l))) ∧ (∀ k, vh'.ownBlock = some k → k ≠ b ∧ (vh.ownBlock = some k ∨ w.heap.size ≤ k)) ∧ Fr (fun k => k = b ∨ vh.ownBlock = some k) w w' := by
      rintro w' l' s' ⟨vh', m1, m2, m3, m4⟩ h1 h2
      exact ⟨vh', by rw [hpl]; exact m1, ⟨h1, l', h2, m2⟩, m3, ⟨m4.os, m4.tape, m4.output, m4.size, fun k hk hn => m4.block k hk (fun c => hn (.inl c))⟩⟩
    have hsz' : 2 * s.length ≤ 1000000000000 := hsz
    by_cases kb : op.c < 1 ∨ 3 < op.c
    · have e : mapP.apply s op = (s, ⟨4, 0⟩) := by
        show (if op.c = 1 then _ else if op.c = 2 then _ else if op.c = 3 then _ else _) = _
        rw [if_neg (by omega), if_neg (by omega), if_neg (by omega)]
      rw [e]
      refine (docDoes_map (l' := l) op.c 4 0 hR' fun W hW => ?_).mono ?_
      · refine (docMaps_bad op.c kb).mono ?_
        rintro e w' ⟨rfl, q⟩
        exact ⟨rfl, vh, (hR'.old hW).old q, owns_later (owns_later ho hW) q, fun k e => ⟨(hne k e).2, .inl e⟩, Fr.of_below q⟩
      · rintro e w' ⟨rfl, hq⟩
        exact ⟨rfl, fin w' l s hq hA hp⟩
    · have e : mapP.apply s op = (if op.c = 1 then mput s op.a op.b else if op.c = 3 then mdel s op.a else s, mans s op.a) := by
        show (if op.c = 1 then _ else if op.c = 2 then _ else if op.c = 3 then _ else _) = _
        by_cases c1 : op.c = 1
        · rw [if_pos c1, if_pos c1]
        · by_cases c2 : op.c = 2
          · rw [if_neg c1, if_pos c2, if_neg c1, if_neg (by omega)]
          · rw [if_neg c1, if_neg c2, if_pos (by omega), if_neg c1, if_pos (by omega)]
      rw [e]
      have hpm : (mnew l op.c op.a op.b).Perm (if op.c = 1 then mput s op.a op.b else if op.c = 3 then mdel s op.a else s) := by
        unfold mnew
        split
        · exact put_perm hp _ _
        · split
          · exact del_perm hp _
          · exact hp
      have has : Asc (if op.c = 1 then mput s op.a op.b else if op.c = 3 then mdel s op.a else s) := by
        split
        · exact asc_put hA _ _
        · split
          · exact asc_del hA _
          · exact hA
      refine (docDoes_map (l' := mnew l op.c op.a op.b) op.c (mans s op.a).s (mans s op.a).v hR' fun W hW => ?_).mono ?_
      · refine (docMaps_w (l := l) (by omega) (by omega) (hR'.old hW) (owns_later ho hW) (dis_perm hp hd) (by omega) hnb).mono ?_
        rintro e w' ⟨rfl, vh', m1, m2, m3, m4⟩
        refine ⟨by rw [mans_perm hp hd], vh', m1, m2, m3, m4⟩
      · rintro e w' ⟨rfl, hq⟩
        exact ⟨rfl, fin w' _ _ hq has hpm⟩
  tells w b vh s hR hM hsz := by
    obtain ⟨hA, l, hp, ho⟩ := hM
    have hll := hp.length_eq
    have hR' : Row w b 159 ([.int .i64 4, .int .i64 L.st, .int .i64 L.co, L.vn, L.vo] ++ [vh]) := by unfold plc at hR; rw [hk] at hR; exact hR
    have hsz' : 2 * s.length ≤ 1000000000000 := hsz
    exact docTells_map hR' ho hp hA (by omega)
end Go.Proofs.YtefjhnhdagolhaaGreat
