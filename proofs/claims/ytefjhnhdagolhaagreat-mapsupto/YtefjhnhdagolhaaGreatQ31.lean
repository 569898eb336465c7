import Derived.Test.YtefjhnhdagolhaaGreatQ30
import Derived.Test.YtefjhnhdagolhaaGreatQ22
import Derived.Deep.LoopGhost
import Derived.Test.YtefjhnhdagolhaaGreatQ24
namespace Go.Proofs.YtefjhnhdagolhaaGreat.tree
open Go.RowKit
open M (upd upd_same upd_other Ver ETh ESt RSt RTh wds statusAt valueAt marks tagged num)
attribute [local go_sem ↓] Go.wp_at_zero Go.wp_at_succ
def chain (bs : List (Nat × List Nat)) : List (Nat × List Nat) := bs ++ [(0, [])]
def nxt (bs : List (Nat × List Nat)) (f : Nat → Nat) (i : Nat) : Value := if i < bs.length then .pointer (some ⟨f (i + 1), 0, none⟩) else .pointer none
structure At (w : World) (bs : List (Nat × List Nat)) (f : Nat → Nat) (u : Nat → Value) (i : Nat) (x : Nat × List Nat) : Prop where
  row : Row w (f i) 306 [.int .i64 (x.1 : Int), u i, nxt bs f i]
  sl : Sl w (u i) (ints (x.2.map Int.ofNat))
theorem BRep.at {I : Nat → Prop} {w : World} : ∀ {bs : List (Nat × List Nat)} {b : Nat}, BRep I w bs b → ∃ (f : Nat → Nat) (u : Nat → Value), f 0 = b ∧ ∀ i (h : i < (chain bs).length), At w bs f u i (chain bs)[i]
  | [], b, h => ⟨fun _ => b, fun _ => .slice none 0 0, rfl, fun i hi => by
    have : i = 0 := by simp [chain] at hi; omega
    subst this
    exact ⟨h.2, Sl.nil w⟩⟩
  | (q, p) :: bs, b, h => by
    obtain ⟨v, b', -, h2, ⟨gp, -, g2, -⟩, h4⟩ := h
    obtain ⟨f, u, hf, hA⟩ := BRep.at h4
    refine ⟨fun i => if i = 0 then b else f (i - 1), fun i => if i = 0 then v else u (i - 1), rfl, fun i hi => ?_⟩
    cases i with
    | zero =>
      refine ⟨?_, g2⟩
      have e : nxt ((q, p) :: bs) (fun i => if i = 0 then b else f (i - 1)) 0 = .pointer (some ⟨b', 0, none⟩) := by unfold nxt; simp [hf]
      rw [e]
      exact h2
    | succ i =>
      obtain ⟨r1, r3⟩ := hA i (by simpa [chain] using hi)
      have e : (chain ((q, p) :: bs))[i + 1] = (chain bs)[i]'(by simpa [chain] using hi) := rfl
      have e2 : nxt ((q, p) :: bs) (fun i => if i = 0 then b else f (i - 1)) (i + 1) = nxt bs f i := by unfold nxt; simp
      refine ⟨?_, ?_⟩
      · rw [e, e2]
        simpa using r1
      · rw [e]
        simpa using r3
theorem At.later {w w' : World} {bs : List (Nat × List Nat)} {f : Nat → Nat} {u : Nat → Value} {i : Nat} {x : Nat × List Nat} (h : At w bs f u i x) (hb : Below w.heap.size w w') : At w' bs f u i x := by
  exact ⟨h.row.old hb, h.sl.below hb⟩
theorem tagged_chain (bs : List (Nat × List Nat)) : tagged (chain bs.reverse).reverse = tagged bs := by
  unfold chain
  simp [tagged]
theorem tagged_take (l : List (Nat × List Nat)) (m : Nat) (hm : m < l.length) : tagged (l.take (m + 1)) = tagged (l.take m) ++ (l[m]).2.map fun t => ((l[m]).1, t) := by
  rw [List.take_succ_eq_append_getElem hm]
  exact M.tagged_snoc _ _ _
theorem tagged_take_len (l : List (Nat × List Nat)) (m : Nat) : (tagged (l.take m)).length ≤ (tagged l).length := by
  have : tagged l = tagged (l.take m) ++ tagged (l.drop m) := by
    unfold tagged
    rw [← List.flatMap_append, List.take_append_drop]
  rw [this, List.length_append]
  omega
structure OI (W1 : World) (gc n : Nat) (l : List (Nat × Nat)) (mv : Value) (w' : World) : Prop where
  below : Below W1.heap.size W1 w'
  cnt : Fn w' gc 3 n (fun k => .int .i64 (((l.map Prod.snd).count k : Nat) : Int))
  own : w'.ownsRow (gc + 1) 81 3 mv (marks l).length (markcs (marks l))
section
variable {w : World}
set_option maxRecDepth 20000 in
set_option maxHeartbeats 8000000 in
theorem order_w (bS b n : Nat) (bs : List (Nat × List Nat)) {I : Nat → Prop} (c0 : w.cell? ⟨bS, 0, none⟩ = some (.int .i64 (n : Int))) (hn : n ≤ 64) (hbr : BRep I w bs.reverse b) (hmem : ∀ x ∈ bs, ∀ k ∈ x.2, k < n) (hnum : ∀ x ∈ bs, x.1 ≤ 1000000000) (hlen : bs.length ≤ 1000000000) (hA : (tagged bs).length ≤ 1000000000000) :
    Calls Tryz.prog 334 #[.pointer (some ⟨bS, 0, none⟩), .pointer (some ⟨b, 0, none⟩)] w fun e w' => ∃ v, e = .returned v ∧ w'.ownsRow w.heap.size 81 3 v (marks (tagged bs)).length (markcs (marks (tagged bs))) ∧ Below w.heap.size w w' := by
  obtain ⟨f, u, hf0, hAt⟩ := hbr.at
  have hcl : (chain bs.reverse).length = bs.length + 1 := by simp [chain]
  obtain ⟨N, hN⟩ : ∃ N, N = bs.length := ⟨_, rfl⟩
  obtain ⟨pi, hpi, hpz⟩ := Option.map_eq_some_iff.1 info_pbatch
  simp only [Prod.mk.injEq] at hpz
  obtain ⟨hp1, hp2, hp3⟩ := hpz
  have HPI := hide hpi
  have HP1 := hide hp1
  have HP2 := hide hp2
  have HP3 := hide hp3
  obtain ⟨mi, hmi, hmz⟩ := Option.map_eq_some_iff.1 info_mark3
  simp only [Prod.mk.injEq] at hmz
  obtain ⟨hmz1, hmz2, hmz3⟩ := hmz
  have HMI := hide hmi
  have HM1 := hide hmz1
  have HM2 := hide hmz2
  have HM3 := hide hmz3
  clear hpi hp1 hp2 hp3 hmi hmz1 hmz2 hmz3
  have hmk := run_make_zeros (P := Tryz.prog) 22 3 (.int .i64 0) 8 Tryz.underlying22 info_int rfl (n : Int) n rfl (by omega) (by omega)
  have HAT := hide (show ∀ i (h : i < (chain bs.reverse).length), At w bs.reverse f u i (chain bs.reverse)[i] from hAt)
  have HC0 := hide c0
  have HCL := hide hcl
  have HNN := hide hN
  have HF0 := hide hf0
  have HMEM := hide hmem
  have HNUM := hide hnum
  have hNb : N ≤ 1000000000 := by omega
  clear hbr hAt c0 hcl hf0 hmem hnum hN
  go_enter Tryz.func334, Tryz.ntmps334
  go_wp2
  go_loopg [5, 6] (N + 1) (fun g s p w' => ∃ i : Nat, i + g = N + 1 ∧ p = (if i ≤ N then Value.pointer (some ⟨f i, 0, none⟩) else .pointer none) ∧ Below w.heap.size w w' ∧ w'.ownsRow w.heap.size 223 1 s i ((List.range i).map fun j => Value.pointer (some ⟨f j, 0, none⟩)))
  case atStart => exact ⟨0, by omega, by rw [if_pos (Nat.zero_le _), HF0.out], Below.refl _ _, World.ownsRow_nil _ _ _ _⟩
  case round =>
    obtain ⟨i, hi, rfl, hB, hO⟩ := hrel
    have HB := hide hB
    have HO := hide hO
    have hszw := hB.size
    clear hB hO
    by_cases hle : i ≤ N
    · rw [if_pos hle]
      go_wp2_with (at_builtin; refine wpList_append_keep _ rfl (.tmp 19) (.tmp 21) 384 rfl w.heap.size 223 pi (.pointer none) 1 8 Tryz.underlying384 HPI.out HP1.out HP2.out HP3.out rfl (by decide) _ i _ rfl (HO.out.alloc _) ⟨wr.heap.size, 0, none⟩ 1 1 [.pointer (some ⟨f i, 0, none⟩)] rfl rfl (World.news_of_block (Row.new _ _ _)) (by simp [Value.oneCell']) (by decide) (by unfold maxLen; omega) (by omega) (by simp; omega) ?_)
      intro g3 c3 w3 hown hgr hl3 hk3
      have hvl := HO.out.lt
      have hb3 : Below w.heap.size w w3 := (Below.next HB.out (below_alloc _ _) hszw).grown hgr (by simp; omega) (fun q hq => (hvl q hq).1)
      have hr3 := ((HAT.out i (by rw [HCL.out, ← HNN.out]; omega)).later hb3).row
      have c2 : w3.cell? ⟨f i, 2, none⟩ = some (nxt bs.reverse f i) := hr3.cell_of rfl
      have e2 : nxt bs.reverse f i = if i + 1 ≤ N then Value.pointer (some ⟨f (i + 1), 0, none⟩) else .pointer none := by
        unfold nxt
        rw [List.length_reverse, ← HNN.out]
        rfl
      have HR := hide (And.intro hb3 hown)
      have HE2 := hide e2
      clear hown hgr hl3 hk3 hvl hr3 hb3 e2
      generalize nxt bs.reverse f i = nx at *
      go_wp2
      go_roundg (gk - 1)
      case measure => omega
      case rel =>
        refine ⟨i + 1, by omega, HE2.out, HR.out.1, ?_⟩
        rw [List.range_succ, List.map_append]
        exact HR.out.2
    · rw [if_neg hle]
      have hiN : i = N + 1 := by omega
      subst hiN
      rename World => W1
      obtain ⟨gb, sc, eb, -⟩ := owns_at HO.out (i := 0) (u := .pointer (some ⟨f 0, 0, none⟩)) (by simp)
      subst eb
      have HBT := hide (show ∀ j, j ≤ N → W1.cell? ⟨gb, j, none⟩ = some (.pointer (some ⟨f j, 0, none⟩)) from fun j hj => by
        have := HO.out.cells (g := gb) rfl j (.pointer (some ⟨f j, 0, none⟩)) (by simp [List.getElem?_range (show j < N + 1 by omega)])
        rwa [addr_add, Nat.zero_add] at this)
      have hgb1 : gb < W1.heap.size := (HO.out.lt gb rfl).2
      have c0 : W1.cell? ⟨bS, 0, none⟩ = some (.int .i64 (n : Int)) := cell_later HB.out HC0.out
      go_wp2
      generalize hW2 : World.alloc W1 _ = W2
      have HOI := hide (show OI W1 W1.heap.size n [] (.slice none 0 0) W2 from by
        rw [← hW2]
        refine ⟨below_alloc _ _, ?_, World.ownsRow_nil _ _ _ _⟩
        have : (List.range n).map (fun k => Value.int .i64 ((((([] : List (Nat × Nat)).map Prod.snd).count k : Nat) : Int))) = zeros (.int .i64 0) n := by
          unfold zeros
          apply List.ext_getElem
          · simp
          · intro i h1 h2; simp
        unfold Fn
        rw [this]
        exact Row.new' rfl)
      have HORD := hide (show ∀ m (hm : m ≤ N), (chain bs.reverse).reverse[m]'(by rw [List.length_reverse, HCL.out, ← HNN.out]; omega) = (chain bs.reverse)[N - m]'(by rw [HCL.out, ← HNN.out]; omega) from fun m hm => by
        rw [List.getElem_reverse]
        congr 1
        rw [HCL.out, ← HNN.out]
        omega)
      have HTG := hide (tagged_chain bs)
      have HOL := hide (show (chain bs.reverse).reverse.length = N + 1 by rw [List.length_reverse, HCL.out, ← HNN.out])
      have HXM := hide (show ∀ x ∈ (chain bs.reverse).reverse, (∀ k ∈ x.2, k < n) ∧ x.1 ≤ 1000000000 from fun x hx => by
        rw [List.mem_reverse] at hx
        unfold chain at hx
        rcases List.mem_append.1 hx with q | q
        · rw [List.mem_reverse] at q
          exact ⟨HMEM.out x q, HNUM.out x q⟩
        · rw [List.mem_singleton.1 q]
          exact ⟨fun k hk => absurd hk List.not_mem_nil, by decide⟩)
      clear hW2 c0 HMEM HNUM
      obtain ⟨ord, ho⟩ : ∃ ord, ord = (chain bs.reverse).reverse := ⟨_, rfl⟩
      rw [← ho] at HTG
      have HO' := hide ho
      go_loopw [7, 9] (fun mv i w' => ∃ m : Nat, m ≤ N + 1 ∧ i = .int .i64 ((N : Int) - (m : Int)) ∧ OI W1 W1.heap.size n (tagged (ord.take m)) mv w') (fun _ i _ => (intOf i + 1).toNat)
      case atStart => exact ⟨0, Nat.zero_le _, by go_num, HOI.out⟩
      case round =>
        obtain ⟨m, hm, rfl, hI⟩ := hrel
        by_cases hlt : m ≤ N
        · have hlt' : ¬ (N : Int) - (m : Int) < 0 := by omega
          have hol : m < ord.length := by rw [ho, HOL.out]; omega
          have hx0 : ord[m] = (chain bs.reverse)[N - m]'(by rw [HCL.out, ← HNN.out]; omega) := by
            have := HORD.out m hlt
            simp only [ho]
            exact this
          have hat := HAT.out (N - m) (by rw [HCL.out, ← HNN.out]; omega)
          have hBI := Below.next HB.out hI.below HB.out.size
          rw [← hx0] at hat
          obtain ⟨hxm, hxn⟩ := HXM.out ord[m] (by rw [← ho]; exact List.getElem_mem hol)
          have htt := tagged_take ord m hol
          have hlenA : (tagged (ord.take m)).length + (ord[m]).2.length ≤ 1000000000000 := by
            have h1 := tagged_take_len ord (m + 1)
            rw [htt, List.length_append, List.length_map, HTG.out] at h1
            omega
          obtain ⟨q, hq⟩ : ∃ q, q = (ord[m]).1 := ⟨_, rfl⟩
          obtain ⟨p, hp⟩ : ∃ p, p = (ord[m]).2 := ⟨_, rfl⟩
          rw [← hq, ← hp] at htt
          rw [← hp] at hlenA hxm
          rw [← hq] at hxn
          have hrow := hat.row
          rw [← hq] at hrow
          have hsl := hat.sl
          rw [← hp] at hsl
          obtain ⟨ua, uc, eu, hul, -, hucell⟩ := hsl.open_ints
          rw [List.length_map] at eu hul
          have b0w : w.cell? ⟨f (N - m), 0, none⟩ = some (.int .i64 (q : Int)) := hrow.cell_of rfl
          have b0 := cell_later hBI b0w
          have b1 : wr.cell? ⟨f (N - m), 1, none⟩ = some (.slice ua p.length uc) := by rw [← eu]; exact cell_later hBI (hrow.cell_of rfl)
          have bt : wr.cell? ⟨gb, N - m, none⟩ = some (.pointer (some ⟨f (N - m), 0, none⟩)) := cell_later hI.below (HBT.out _ (by omega))
          have hNm : ((N - m : Nat) : Int) = (N : Int) - (m : Int) := by omega
          have hx1 : (N : Int) - (m : Int) < (N : Int) + 1 := by omega
          have hNmt : ((N : Int) - (m : Int)).toNat = N - m := by omega
          have HUC := hide (show ∀ W, Below w.heap.size w W → ∀ r (hr : r < p.length), ∃ g off, ua = some ⟨g, off, none⟩ ∧ W.cell? ⟨g, off + r, none⟩ = some (.int .i64 ((p[r] : Nat) : Int)) from fun W hW r hr => by
            obtain ⟨g, off, e1, e2⟩ := hucell r (by simpa using hr)
            refine ⟨g, off, e1, ?_⟩
            have := cell_later hW e2
            simpa using this)
          have HTT := hide htt
          have HPL := hide hxm
          have HI := hide hI
          have HFC := hide b0w
          have hm2 : (marks (tagged (ord.take m))).length ≤ 1000000000000 := by rw [M.marks_len]; omega
          clear hx0 hat hrow hsl hucell htt hxm hI hq hp eu hBI b0w b0
          go_wp2
          go_loopw [7, 44] (fun mv i w' => ∃ r : Nat, r ≤ p.length ∧ i = .int .i64 (r : Int) ∧ OI W1 W1.heap.size n (tagged (ord.take m) ++ (p.take r).map fun t => (q, t)) mv w') (fun _ i _ => p.length - (intOf i).toNat)
          case atStart => exact ⟨0, Nat.zero_le _, rfl, by simpa using HI.out⟩
          case round =>
            obtain ⟨r, hr, rfl, hJ⟩ := hrel
            obtain ⟨l, hl⟩ : ∃ l, l = tagged (ord.take m) ++ (p.take r).map fun t => (q, t) := ⟨_, rfl⟩
            rw [← hl] at hJ
            have hll : l.length ≤ 1000000000000 := by
              rw [hl, List.length_append, List.length_map, List.length_take]
              omega
            by_cases hrt : r < p.length
            · have hrt' : (r : Int) < (p.length : Int) := by omega
              have hr0 : (0 : Int) ≤ (r : Int) := by omega
              have hBJ := Below.next HB.out hJ.below HB.out.size
              obtain ⟨g, off, rfl, cr⟩ := HUC.out _ hBJ r hrt
              obtain ⟨tt, htt⟩ : ∃ tt, tt = p[r] := ⟨_, rfl⟩
              have htn : tt < n := by rw [htt]; exact HPL.out _ (List.getElem_mem hrt)
              rw [← htt] at cr
              have bt2 : wr.cell? ⟨gb, N - m, none⟩ = some (.pointer (some ⟨f (N - m), 0, none⟩)) := cell_later hJ.below (HBT.out _ (by omega))
              have b02 : wr.cell? ⟨f (N - m), 0, none⟩ = some (.int .i64 (q : Int)) := cell_later hBJ HFC.out
              have hfl : f (N - m) < W1.heap.size := Nat.lt_of_lt_of_le (World.block_lt_of_cell? w _ HFC.out) HB.out.size
              have HLS := hide (show tagged (ord.take m) ++ (p.take (r + 1)).map (fun t => (q, t)) = l ++ [(q, tt)] by
                rw [hl, List.take_succ_eq_append_getElem hrt, List.map_append, htt, List.append_assoc]
                rfl)
              have HMS := hide (M.marks_snoc l q tt)
              have hA9 : (l.map Prod.snd).count tt ≤ 1000000000000 := Nat.le_trans List.count_le_length (by simpa using hll)
              have HCN := hide (show ∀ k, ((l ++ [(q, tt)]).map Prod.snd).count k = (l.map Prod.snd).count k + if k = tt then 1 else 0 from fun k => by
                rw [List.map_append, List.count_append]
                congr 1
                by_cases e : k = tt
                · subst e; simp
                · simp [e, Ne.symm e])
              have ct : wr.cell? ⟨W1.heap.size, tt, none⟩ = some (.int .i64 (((l.map Prod.snd).count tt : Nat) : Int)) := hJ.cnt.cell htn
              have cf := hJ.cnt.frozen tt
              have htn' : (tt : Int) < (n : Int) := by omega
              have ht0 : (0 : Int) ≤ (tt : Int) := by omega
              have hml : (marks l).length ≤ 1000000000000 := by rw [M.marks_len]; exact hll
              have hmo := hJ.own.lt
              have hzr : W1.heap.size < wr.heap.size := hJ.cnt.lt
              obtain ⟨⟨oa, oc, rfl⟩, -⟩ := owns_form hJ.own
              have HJ := hide hJ
              clear hJ hBJ hl htt
              generalize hA : (l.map Prod.snd).count tt = A at *
              have HAA := hide hA
              clear hA
              have hne1 : some gb ≠ (Value.slice oa (marks l).length oc).ownBlock := fun e => by have := (hmo _ e.symm).1; omega
              have hne2 : some (f (N - m)) ≠ (Value.slice oa (marks l).length oc).ownBlock := fun e => by have := (hmo _ e.symm).1; omega
              have hne3 : some W1.heap.size ≠ (Value.slice oa (marks l).length oc).ownBlock := fun e => by have := (hmo _ e.symm).1; omega
              go_upto_region 14 with fail
              refine rg0 (S := (fun w' => w'.cell? ⟨gb, N - m, none⟩ = some (.pointer (some ⟨f (N - m), 0, none⟩)) ∧ w'.cell? ⟨f (N - m), 0, none⟩ = some (.int .i64 (q : Int)) ∧ w'.cell? ⟨W1.heap.size, tt, none⟩ = some (.int .i64 (A : Int)))) 17 rfl (by kernel_rfl) ?_ (fun hHeld => ?_)
              · exact ⟨bt2, b02, ct⟩
              iterate 14 (refine tk 16 (by rfl) (by kernel_rfl) (by exact fun _ _ _ h => h) (.inl ⟨by rfl, fun w hS => by (try dsimp only at hS); go_simp; (try with_reducible rfl)⟩) (by assumption) ?_; try go_frame)
              refine rd1 14 (by rfl) (by kernel_rfl) (fun K hK => ?_)
              go_simp
              refine hK.out _ _ ?_ (fun hHeld => ?_)
              · exact ⟨cell_later (below_alloc _ _) hHeld.1, cell_later (below_alloc _ _) hHeld.2.1, cell_later (below_alloc _ _) hHeld.2.2⟩
              clear hK K
              (try go_frame)
              refine rd1 15 (by rfl) (by kernel_rfl) (fun K hK => ?_)
              refine step_append_lies _ rfl (.tmp 48) (.tmp 62) 43 rfl (W1.heap.size + 1) 81 mi (.agg #[.int .i64 0, .int .i64 0, .int .i64 0]) 3 24 Tryz.underlying43 HMI.out HM1.out HM2.out HM3.out rfl (by decide) (.slice oa (marks l).length oc) (marks l).length (markcs (marks l)) rfl ?_ ⟨wr.heap.size, 0, none⟩ 1 1 [.int .i64 (q : Int), .int .i64 (tt : Int), .int .i64 (A : Int)] rfl rfl ?_ (by simp [Value.oneCell']) (by decide) (by unfold maxLen; omega) (by omega) (by simp; omega) _ rfl ?_
              · exact HJ.out.own.alloc _
              · exact World.news_of_block (Row.new' (by simp))
              intro g4 gc4 w4 hown hgr hat hlt4
              have HO4 := hide hown
              have HG := hide hgr
              clear hown hgr hat hlt4
              refine hK.out _ _ ?_ (fun hHeld => ?_)
              · exact ⟨HG.out.cell hHeld.1 hne1, HG.out.cell hHeld.2.1 hne2, HG.out.cell hHeld.2.2 hne3⟩
              clear hK K
              (try go_frame)
              iterate 1 (refine tk 16 (by rfl) (by kernel_rfl) (by exact fun _ _ _ h => h) (.inl ⟨by rfl, fun w hS => by (try dsimp only at hS); go_simp; (try with_reducible rfl)⟩) (by assumption) ?_; try go_frame)
              refine wpAnyH_done (by kernel_rfl) ?_ _
              have hcn4 : Fn w4 W1.heap.size 3 n (fun k => .int .i64 (((l.map Prod.snd).count k : Nat) : Int)) := HJ.out.cnt.of_block ((HG.out.block _ (by simp; omega) hne3).trans ((below_alloc wr (.cells #[.int .i64 (q : Int), .int .i64 (tt : Int), .int .i64 (A : Int)] 81)).block _ hzr))
              have ct4 := hHeld.2.2
              have cf4 := hcn4.frozen tt
              have hb4 : Below W1.heap.size W1 w4 := (Below.next HJ.out.below (Below.drew (below_alloc wr (.cells #[.int .i64 (q : Int), .int .i64 (tt : Int), .int .i64 (A : Int)] 81))) HJ.out.below.size).grown HG.out (by simp; omega) (fun x hx => by have := (hmo x hx).1; omega)
              have hg4 : W1.heap.size + 1 ≤ g4 := (HO4.out.lt g4 rfl).1
              have HFIN := hide (show OI W1 W1.heap.size n (l ++ [(q, tt)]) (.slice (some ⟨g4, 0, none⟩) ((marks l).length + 1) gc4) (w4.setCell ⟨W1.heap.size, tt, none⟩ (.int .i64 ((A : Int) + 1))) from by
                refine ⟨hb4.setCell (Nat.le_refl _) _, ?_, ?_⟩
                · refine Fn.congr (hcn4.set tt (.int .i64 ((A : Int) + 1))) fun k hk => ?_
                  rw [HCN.out k]
                  by_cases e : k = tt
                  · rw [e, upd_same, if_pos rfl, HAA.out]; rfl
                  · rw [upd_other _ _ e, if_neg e]; rfl
                · rw [HMS.out, markcs_append, List.length_append, List.length_singleton]
                  have := ownsRow_setCell_other HO4.out (a := ⟨W1.heap.size, tt, none⟩) (by simp [Value.ownBlock]; omega) (.int .i64 ((A : Int) + 1))
                  simpa [markcs] using this)
              clear hHeld hcn4 hb4 HG HO4
              go_wp2
              go_roundw
              case rel => exact ⟨r + 1, by omega, by go_num, by rw [HLS.out]; exact HFIN.out⟩
              case measure => simp [intOf]; omega
            · have hrt' : ¬ (r : Int) < (p.length : Int) := by omega
              have HE := hide (show OI W1 W1.heap.size n (tagged (ord.take (m + 1))) _ wr by
                rw [HTT.out]
                rw [hl, List.take_of_length_le (show p.length ≤ r by omega)] at hJ
                exact hJ)
              clear hJ hl
              go_wp2
              go_roundw
              case rel => exact ⟨m + 1, by omega, by go_num, HE.out⟩
              case measure => simp [intOf]; omega
        · have hlt' : (N : Int) - (m : Int) < 0 := by omega
          have HE := hide (show wr.ownsRow w.heap.size 81 3 _ (marks (tagged bs)).length (markcs (marks (tagged bs))) ∧ Below w.heap.size w wr from by
            have h1 := hI.own
            rw [List.take_of_length_le (by rw [ho, HOL.out]; omega), HTG.out] at h1
            exact ⟨owns_base h1 (by have := HB.out.size; omega), Below.next HB.out hI.below HB.out.size⟩)
          clear hI
          go_wp2
          go_ret
          exact ⟨_, rfl, HE.out.1, HE.out.2⟩
end
end Go.Proofs.YtefjhnhdagolhaaGreat.tree
namespace Go.Proofs.YtefjhnhdagolhaaGreat.tree
open Go.RowKit
open M (upd upd_same upd_other Ver ETh ESt RSt RTh wds statusAt valueAt marks tagged num YI)
attribute [local go_sem ↓] Go.wp_at_zero Go.wp_at_succ
section
variable {σ : Type} {R : SR σ} {P : M.Plain σ} {L : Lt} {S : Nat → Prop} {E : ESt σ} {Y : RSt} {w : World} {t : Nat}
theorem numOf_num (bs : List (List Nat)) : numOf (num bs).reverse = bs.length := by
  rcases List.eq_nil_or_concat bs with rfl | ⟨l, p, rfl⟩
  · rfl
  · rw [List.concat_eq_append, M.num_append, List.reverse_append]
    simp [numOf]
theorem num_mem (bs : List (List Nat)) : ∀ x ∈ num bs, x.1 ≤ bs.length ∧ x.2 ∈ bs := by
  intro x hx
  unfold M.num at hx
  obtain ⟨i, hi, e⟩ := List.mem_mapIdx.1 hx
  subst e
  exact ⟨by dsimp only; omega, List.getElem_mem hi⟩
def stOf (P : M.Plain σ) (Y : RSt) : σ := (M.replay P (fun k i => ((Y.th k).ops).getD i ⟨0, 0, 0⟩) Y.bs).st
theorem Both.cur (h : Both R P L S E Y w) : ∃ f, E.rst E.prec = some (⟨stOf P Y, num Y.bs⟩, f) := by
  obtain ⟨pb, nf, -, G, -⟩ := h.inv
  exact G.curS
theorem Both.mem (h : Both R P L S E Y w) : ∀ b ∈ Y.bs, ∀ k ∈ b, k < L.n := by
  obtain ⟨pb, nf, -, G, -⟩ := h.inv
  exact G.mem
theorem Both.newest (h : Both R P L S E Y w) (hN : Y.bs.length ≤ 1000000000) {W : World} (hb : Below w.heap.size w W) :
    Calls Tryz.prog 335 #[.pointer (some ⟨L.bS, 0, none⟩)] W fun e w' => ∃ q0 bB, e = .returned (.agg #[.pointer q0, .pointer (some ⟨bB, 0, none⟩)]) ∧ R.rep (fun k => S k ∧ ¬ L.own k) W (stOf P Y) [.pointer q0] ∧ BRep (fun k => S k ∧ ¬ L.own k) W (num Y.bs).reverse bB ∧ Below W.heap.size W w' := by
  obtain ⟨f, hf⟩ := h.cur
  exact newest_w (h.re.stay (fun k hk => hb.block k (h.re.lt k hk)) (fun _ hk => hk) (fun k hk => Nat.lt_of_lt_of_le (h.re.lt k hk) hb.size)) hf h.bnd.pr (by rw [h.pst]; exact hN) (by rw [h.pst]; exact numOf_num _)
set_option maxRecDepth 20000 in
set_option maxHeartbeats 2000000 in
theorem Order_b (h : Both R P L S E Y w) (hN : Y.bs.length ≤ 1000000000) (hA : Y.bs.flatten.length ≤ 1000000000000) :
    Calls Tryz.prog 327 #[.pointer (some ⟨L.bE, 0, none⟩)] w fun e w' => ∃ v, e = .returned v ∧ w'.ownsRow w.heap.size 81 3 v Y.order.length (markcs Y.order) ∧ Below w.heap.size w w' := by
  have c0 : w.cell? ⟨L.bE, 0, none⟩ = some (.pointer (some ⟨L.bS, 0, none⟩)) := h.re.eng.cell_of rfl
  have s0 : w.cell? ⟨L.bS, 0, none⟩ = some (.int .i64 (L.n : Int)) := h.re.sh.cell_of rfl
  have HNW := hide (fun (W : World) (hb : Below w.heap.size w W) => h.newest hN hb)
  have HTA := hide (show (tagged (num Y.bs)).length ≤ 1000000000000 by have := congrArg List.length (M.tagged_snd Y.bs); rw [List.length_map] at this; omega)
  have HOR := hide (fun (W : World) (bB : Nat) (hc : W.cell? ⟨L.bS, 0, none⟩ = some (.int .i64 (L.n : Int))) (hbr : BRep (fun k => S k ∧ ¬ L.own k) W (num Y.bs).reverse bB) => order_w (w := W) L.bS bB L.n (num Y.bs) hc h.re.ok.n64 hbr (fun x hx k hk => h.mem x.2 (num_mem Y.bs x hx).2 k hk) (fun x hx => Nat.le_trans (num_mem Y.bs x hx).1 hN) (by rw [M.num_len]; exact hN) HTA.out)
  have hfl : ∀ q0 bB W, (Instr.field 267 (.agg #[.pointer q0, .pointer (some ⟨bB, 0, none⟩)]) 1).run Tryz.prog W = .ok (.pointer (some ⟨bB, 0, none⟩)) W := fun _ _ _ => by kernel_rfl
  have HLT := hide h.re.lt
  clear h hN hA
  go_enter Tryz.func327, Tryz.ntmps327
  go_wp2
  refine rg0 (S := (fun w' => w'.cell? ⟨L.bE, 0, none⟩ = some (.pointer (some ⟨L.bS, 0, none⟩)) ∧ Below w.heap.size w w')) 12 rfl (by kernel_rfl) ?_ (fun hHeld => ?_)
  · exact ⟨c0, Below.drew (Below.refl _ _)⟩
  iterate 8 (refine tk 11 (by rfl) (by kernel_rfl) (by exact fun _ _ _ h => h) (.inl ⟨by rfl, fun w hS => by (try dsimp only at hS); go_simp; (try with_reducible rfl)⟩) (by assumption) ?_; try go_frame)
  refine rd1 8 (by rfl) (by kernel_rfl) (fun K hK => ?_)
  go_simp
  refine (HNW.out _ hHeld.2).mono ?_
  rintro e w2 ⟨q0, bB, rfl, -, hbr2, hb2⟩
  have HBR := hide (BRep.stay (I' := fun k => S k ∧ ¬ L.own k) (w' := w2) (fun k hk hl => ⟨hk, hb2.block k hl⟩) (fun k hk => Nat.lt_of_lt_of_le (HLT.out k hk.1) hHeld.2.size) _ _ hbr2)
  clear hbr2
  go_wp2_with fail
  refine hK.out _ _ ?_ (fun hHeld => ?_)
  · exact ⟨cell_later hb2 hHeld.1, Below.next hHeld.2 hb2 hHeld.2.size⟩
  clear hK K
  (try go_frame)
  iterate 1 (refine tk 11 (by rfl) (by kernel_rfl) (by exact fun _ _ _ h => h) (.inl ⟨by rfl, fun w hS => by (try dsimp only at hS); go_simp; (try with_reducible rfl)⟩) (by assumption) ?_; try go_frame)
  refine rd1 10 (by rfl) (by kernel_rfl) (fun K hK => ?_)
  go_simp
  refine (HOR.out _ _ (cell_later hHeld.2 s0) HBR.out).mono ?_
  rintro e w3 ⟨v, rfl, hO3, hb3⟩
  have HO3 := hide (owns_base hO3 hHeld.2.size)
  clear hO3
  go_wp2_with fail
  refine hK.out _ _ ?_ (fun hHeld => ?_)
  · exact ⟨cell_later hb3 hHeld.1, Below.next hHeld.2 hb3 hHeld.2.size⟩
  clear hK K
  (try go_frame)
  iterate 1 (refine tk 11 (by rfl) (by kernel_rfl) (by exact fun _ _ _ h => h) (.inl ⟨by rfl, fun w hS => by (try dsimp only at hS); go_simp; (try with_reducible rfl)⟩) (by assumption) ?_; try go_frame)
  refine wpAnyH_done (by kernel_rfl) ?_ _
  (try go_wp2_with fail)
  go_ret
  exact ⟨_, rfl, HO3.out, hHeld.2⟩
structure TeOk (R : SR σ) (L : Lt) (tell : σ → List Int) (fT : Nat) (rv : Value) : Prop where
  m : ∀ W, (method 553 L.oT L.ov "Tell").run Tryz.prog W = .ok (fT, rv) W
  c : ∀ (s : Value) (W : World), (callFunc fT #[rv, s]).run Tryz.prog W = .ok (.enter fT #[rv, s]) W
  f : ∀ (I : Nat → Prop) (W : World) (s : σ) q0, R.rep I W s [.pointer q0] → R.sz s ≤ 1000000000000 → (∀ k, I k → k < W.heap.size) → Calls Tryz.prog fT #[rv, .pointer q0] W fun e w' => ∃ v, e = .returned v ∧ w'.ownsRow W.heap.size 3 1 v (tell s).length (ints (tell s)) ∧ Below W.heap.size W w'
set_option maxRecDepth 20000 in
set_option maxHeartbeats 2000000 in
theorem State_b {tell : σ → List Int} {fT : Nat} {rv : Value} (hT : TeOk R L tell fT rv) (hZ : M.Grows R.sz P) (h : Both R P L S E Y w) (hN : Y.bs.length ≤ 1000000000) (hF : Y.bs.flatten.length ≤ 100000000000) :
    Calls Tryz.prog 328 #[.pointer (some ⟨L.bE, 0, none⟩)] w fun e w' => ∃ v, e = .returned v ∧ w'.ownsRow w.heap.size 3 1 v (tell (stOf P Y)).length (ints (tell (stOf P Y))) ∧ Below w.heap.size w w' := by
  have c0 : w.cell? ⟨L.bE, 0, none⟩ = some (.pointer (some ⟨L.bS, 0, none⟩)) := h.re.eng.cell_of rfl
  have c1 : w.cell? ⟨L.bS, 1, none⟩ = some (.iface L.oT L.ov) := h.re.sh.cell_of rfl
  have HNW := hide (fun (W : World) (hb : Below w.heap.size w W) => h.newest hN hb)
  have hfl : ∀ q0 bB W, (Instr.field 267 (.agg #[.pointer q0, .pointer (some ⟨bB, 0, none⟩)]) 0).run Tryz.prog W = .ok (.pointer q0) W := fun _ _ _ => by kernel_rfl
  have hm := hT.m
  have hcf := hT.c
  have HT := hide hT
  have HLT := hide h.re.lt
  have hsz : R.sz (stOf P Y) ≤ 1000000000000 := by have := M.replay_sz hZ (fun k i => ((Y.th k).ops).getD i ⟨0, 0, 0⟩) Y.bs; show R.sz (M.replay P _ Y.bs).st ≤ _; omega
  clear h hN hT hZ hF
  go_enter Tryz.func328, Tryz.ntmps328
  go_wp2
  refine rg0 (S := (fun w' => w'.cell? ⟨L.bE, 0, none⟩ = some (.pointer (some ⟨L.bS, 0, none⟩)) ∧ w'.cell? ⟨L.bS, 1, none⟩ = some (.iface L.oT L.ov) ∧ Below w.heap.size w w')) 17 rfl (by kernel_rfl) ?_ (fun hHeld => ?_)
  · exact ⟨c0, c1, Below.drew (Below.refl _ _)⟩
  iterate 11 (refine tk 16 (by rfl) (by kernel_rfl) (by exact fun _ _ _ h => h) (.inl ⟨by rfl, fun w hS => by (try dsimp only at hS); go_simp; (try with_reducible rfl)⟩) (by assumption) ?_; try go_frame)
  iterate 2 (refine tk 18 (by rfl) (by kernel_rfl) (by exact fun _ _ _ h => h) (.inl ⟨by rfl, fun w hS => by (try dsimp only at hS); go_simp; (try with_reducible rfl)⟩) (by assumption) ?_; try go_frame)
  refine rd1 11 (by rfl) (by kernel_rfl) (fun K hK => ?_)
  go_simp
  refine (HNW.out _ hHeld.2.2).mono ?_
  rintro e w2 ⟨q0, bB, rfl, hrp2, -, hb2⟩
  have HRP := hide (R.stay (I' := fun k => S k ∧ ¬ L.own k) (w' := w2) (fun k hk hl => ⟨hk, hb2.block k hl⟩) hrp2)
  clear hrp2
  go_wp2_with fail
  refine hK.out _ _ ?_ (fun hHeld => ?_)
  · exact ⟨cell_later hb2 hHeld.1, cell_later hb2 hHeld.2.1, Below.next hHeld.2.2 hb2 hHeld.2.2.size⟩
  clear hK K
  (try go_frame)
  iterate 1 (refine tk 14 (by rfl) (by kernel_rfl) (by exact fun _ _ _ h => h) (.inl ⟨by rfl, fun w hS => by (try dsimp only at hS); go_simp; (try with_reducible rfl)⟩) (by assumption) ?_; try go_frame)
  refine rd1 15 (by rfl) (by kernel_rfl) (fun K hK => ?_)
  go_simp
  refine (HT.out.f _ _ (stOf P Y) q0 HRP.out hsz (fun k hk => Nat.lt_of_lt_of_le (HLT.out k hk.1) hHeld.2.2.size)).mono ?_
  rintro e w3 ⟨v, rfl, ho3, hb3⟩
  have HO3 := hide (owns_base ho3 hHeld.2.2.size)
  clear ho3
  go_wp2_with fail
  refine hK.out _ _ ?_ (fun hHeld => ?_)
  · exact ⟨cell_later hb3 hHeld.1, cell_later hb3 hHeld.2.1, Below.next hHeld.2.2 hb3 hHeld.2.2.size⟩
  clear hK K
  (try go_frame)
  iterate 1 (refine tk 16 (by rfl) (by kernel_rfl) (by exact fun _ _ _ h => h) (.inl ⟨by rfl, fun w hS => by (try dsimp only at hS); go_simp; (try with_reducible rfl)⟩) (by assumption) ?_; try go_frame)
  refine wpAnyH_done (by kernel_rfl) ?_ _
  (try go_wp2_with fail)
  go_ret
  exact ⟨v, rfl, HO3.out, hHeld.2.2⟩
def bndI (n cap : Nat) : Int := 4 + 2 * ((cap : Int) + 3 + 2 * (((n : Int) + 15) / 16 + 2 * (n : Int) + 1) + ((n : Int) + 15) / 16 + 3 * (n : Int)) + 3
set_option maxRecDepth 20000 in
set_option maxHeartbeats 1000000 in
theorem Bound_b (h : Both R P L S E Y w) :
    Calls Tryz.prog 325 #[.pointer (some ⟨L.bE, 0, none⟩)] w fun e w' => e = .returned (.int .i64 (bndI L.n L.cap)) ∧ Below w.heap.size w w' := by
  have c0 : w.cell? ⟨L.bE, 0, none⟩ = some (.pointer (some ⟨L.bS, 0, none⟩)) := h.re.eng.cell_of rfl
  have c2 : w.cell? ⟨L.bE, 2, none⟩ = some (.int .i64 (L.cap : Int)) := h.re.eng.cell_of rfl
  have cs : w.cell? ⟨L.bS, 0, none⟩ = some (.int .i64 (L.n : Int)) := h.re.sh.cell_of rfl
  have hn1 := h.re.ok.n1
  have hn64 := h.re.ok.n64
  have hc64 := h.re.ok.c64
  clear h
  go_enter Tryz.func325, Tryz.ntmps325
  go_wp2
  generalize hW0 : World.alloc w _ = W0
  have hb0 : Below w.heap.size w W0 := by rw [← hW0]; exact below_alloc w _
  have d2 : W0.cell? ⟨L.bE, 2, none⟩ = some (.int .i64 (L.cap : Int)) := cell_later hb0 c2
  have dl : W0.cell? ⟨w.heap.size, 0, none⟩ = some (.int .i64 (L.n : Int)) := by rw [← hW0]; exact (Row.new w [_] 287).cell_of rfl
  have hw1 : IntKind.i64.wrap ((L.cap : Int) + 3) = (L.cap : Int) + 3 := wrapi _ (by omega) (by omega)
  have hw2 : IntKind.i64.wrap (3 * (L.n : Int)) = 3 * (L.n : Int) := wrapi _ (by omega) (by omega)
  clear hW0 c0 c2 cs
  refine rg0 (S := (fun w' => w'.cell? ⟨L.bE, 2, none⟩ = some (.int .i64 (L.cap : Int)) ∧ w'.cell? ⟨w.heap.size, 0, none⟩ = some (.int .i64 (L.n : Int)) ∧ Below w.heap.size w w')) 17 rfl (by kernel_rfl) ?_ (fun hHeld => ?_)
  · exact ⟨d2, dl, hb0.drew⟩
  iterate 6 (refine tk 16 (by rfl) (by kernel_rfl) (by exact fun _ _ _ h => h) (.inl ⟨by rfl, fun w hS => by (try dsimp only at hS); go_simp; (try with_reducible rfl)⟩) (by assumption) ?_; try go_frame)
  iterate 1 (refine tk 19 (by rfl) (by kernel_rfl) (by exact fun _ _ _ h => h) (.inl ⟨by rfl, fun w hS => by (try dsimp only at hS); go_simp; (try with_reducible rfl)⟩) (by assumption) ?_; try go_frame)
  iterate 3 (refine tk 21 (by rfl) (by kernel_rfl) (by exact fun _ _ _ h => h) (.inl ⟨by rfl, fun w hS => by (try dsimp only at hS); go_simp; (try with_reducible rfl)⟩) (by assumption) ?_; try go_frame)
  refine rd1 6 (by rfl) (by kernel_rfl) (fun K hK => ?_)
  go_simp
  refine (parts_any (L.n : Int) _ (by omega) (by omega)).mono ?_
  rintro e w2 ⟨rfl, hb2⟩
  go_wp2_with fail
  refine hK.out _ _ ?_ (fun hHeld => ?_)
  · exact ⟨cell_later hb2 hHeld.1, cell_later hb2 hHeld.2.1, Below.next hHeld.2.2 hb2 hHeld.2.2.size⟩
  clear hK K
  (try go_frame)
  iterate 2 (refine tk 12 (by rfl) (by kernel_rfl) (by exact fun _ _ _ h => h) (.inl ⟨by rfl, fun w hS => by (try dsimp only at hS); go_simp; (try with_reducible rfl)⟩) (by assumption) ?_; try go_frame)
  refine rd1 10 (by rfl) (by kernel_rfl) (fun K hK => ?_)
  go_simp
  refine (toggleWords_any (L.n : Int) _ (by omega) (by omega)).mono ?_
  rintro e w3 ⟨rfl, hb3⟩
  go_wp2_with fail
  refine hK.out _ _ ?_ (fun hHeld => ?_)
  · exact ⟨cell_later hb3 hHeld.1, cell_later hb3 hHeld.2.1, Below.next hHeld.2.2 hb3 hHeld.2.2.size⟩
  clear hK K
  (try go_frame)
  iterate 1 (refine tk 13 (by rfl) (by kernel_rfl) (by exact fun _ _ _ h => h) (.inl ⟨by rfl, fun w hS => by (try dsimp only at hS); go_simp; (try with_reducible rfl)⟩) (by assumption) ?_; try go_frame)
  iterate 2 (refine tk 16 (by rfl) (by kernel_rfl) (by exact fun _ _ _ h => h) (.inl ⟨by rfl, fun w hS => by (try dsimp only at hS); go_simp; (try with_reducible rfl)⟩) (by assumption) ?_; try go_frame)
  refine wpAnyH_done (by kernel_rfl) ?_ _
  (try go_wp2_with fail)
  go_ret
  exact ⟨rfl, hHeld.2.2⟩
end
end Go.Proofs.YtefjhnhdagolhaaGreat.tree
