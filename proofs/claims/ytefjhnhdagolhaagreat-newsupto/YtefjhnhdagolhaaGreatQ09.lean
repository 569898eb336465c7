import Derived.Test.YtefjhnhdagolhaaGreatQ08
namespace Go.Proofs.YtefjhnhdagolhaaGreat.tree
open Go.RowKit
attribute [local go_sem ↓] Go.wp_at_zero Go.wp_at_succ
def thAll (bS n : Nat) (most : Int) (gD gG : Nat → Nat) (k : Nat) : List Value :=
  (List.range k).flatMap fun (t : Nat) => thNew bS (t : Int) most (gD t) (rwn n) (gG t) (tw n)
theorem length_thNew (bS : Nat) (i most : Int) (gD nD gG nG : Nat) : (thNew bS i most gD nD gG nG).length = 28 := rfl
theorem one_thNew (bS : Nat) (i most : Int) (gD nD gG nG : Nat) : ∀ v ∈ thNew bS i most gD nD gG nG, v.oneCell' = true := by
  simp [thNew, Value.oneCell']
theorem thAll_succ (bS n : Nat) (most : Int) (gD gG : Nat → Nat) (k a b : Nat) :
    thAll bS n most (fun t => if t = k then a else gD t) (fun t => if t = k then b else gG t) (k + 1) = thAll bS n most gD gG k ++ thNew bS (k : Int) most a (rwn n) b (tw n) := by
  unfold thAll
  rw [List.range_succ, List.flatMap_append]
  congr 1
  · rw [List.flatMap_def, List.flatMap_def]
    congr 1
    apply List.map_congr_left
    intro t ht
    have : t < k := List.mem_range.1 ht
    simp only [if_neg (show ¬ t = k by omega)]
  · simp
def EnI (W1 : World) (bS n : Nat) (most : Int) (v : Value) (k : Nat) (gD gG : Nat → Nat) (w' : World) : Prop :=
  Row w' W1.heap.size 265 [.pointer (some ⟨bS, 0, none⟩), v, .int .i64 most] ∧ w'.ownsRow (W1.heap.size + 1) 273 28 v k (thAll bS n most gD gG k) ∧
  (∀ t, t < k → Row w' (gD t) 3 (zeros (.int .i64 0) (rwn n)) ∧ Row w' (gG t) 3 (zeros (.int .i64 0) (tw n)) ∧ W1.heap.size < gD t ∧ W1.heap.size < gG t ∧ some (gD t) ≠ v.ownBlock ∧ some (gG t) ≠ v.ownBlock ∧ gD t ≠ gG t) ∧
  (∀ s t, s < t → t < k → gD s ≠ gD t ∧ gD s ≠ gG t ∧ gG s ≠ gD t ∧ gG s ≠ gG t) ∧ Below W1.heap.size W1 w'
theorem below_grownE {w w' : World} (h : Below w.heap.size w w') : w.grownBy w' none := ⟨h.os, h.tape, h.output, h.size, fun k hk _ => h.block k hk⟩
theorem owns_below {w w' : World} {base : Nat} {e : TypeId} {size : Nat} {v : Value} {n : Nat} {xs : List Value} (h : w.ownsRow base e size v n xs) (hb : Below w.heap.size w w') : w'.ownsRow base e size v n xs :=
  h.kept (below_grownE hb) (by cases v.ownBlock <;> simp)
theorem EnI.next {W1 : World} {bS n : Nat} {most : Int} {v : Value} {k : Nat} {gD gG : Nat → Nat} {wr w2 w4 : World} {a b g cap : Nat} (h : EnI W1 bS n most v k gD gG wr) (hb : Below wr.heap.size wr w2)
    (ha : wr.heap.size ≤ a) (hb' : wr.heap.size ≤ b) (hab : a ≠ b) (hra : Row w2 a 3 (zeros (.int .i64 0) (rwn n))) (hrb : Row w2 b 3 (zeros (.int .i64 0) (tw n)))
    (hown : w4.ownsRow (W1.heap.size + 1) 273 28 (.slice (some ⟨g, 0, none⟩) (k + 1) cap) (k + 1) (thAll bS n most gD gG k ++ thNew bS (k : Int) most a (rwn n) b (tw n)))
    (hgr : (w2.alloc (.cells (thNew bS (k : Int) most a (rwn n) b (tw n)).toArray 273)).grownBy w4 v.ownBlock) (hg : v.ownBlock = some g ∨ g = w2.heap.size + 1) :
    EnI W1 bS n most (.slice (some ⟨g, 0, none⟩) (k + 1) cap) (k + 1) (fun t => if t = k then a else gD t) (fun t => if t = k then b else gG t) (w4.setCell ⟨W1.heap.size, 1, none⟩ (.slice (some ⟨g, 0, none⟩) (k + 1) cap)) := by
  obtain ⟨hE, hO, hT, hD, hB⟩ := h
  have hz := hb.size
  have hzB := hB.size
  have hlE := hE.lt
  have hla := hra.lt
  have hlb := hrb.lt
  have hvlt := hO.lt
  have keep : ∀ {q : Nat} {t : TypeId} {xs : List Value}, Row w2 q t xs → some q ≠ v.ownBlock → Row w4 q t xs := fun {q t xs} hr hne =>
    (hr.alloc _).of_block (hgr.block q (Nat.lt_of_lt_of_le hr.lt (by simp)) hne)
  have hav : some a ≠ v.ownBlock := fun e => by have := (hvlt a e.symm).2; omega
  have hbv : some b ≠ v.ownBlock := fun e => by have := (hvlt b e.symm).2; omega
  have hEv : some W1.heap.size ≠ v.ownBlock := fun e => by have := (hvlt _ e.symm).1; omega
  have hgne : ∀ q, q < w2.heap.size → some q ≠ v.ownBlock → q ≠ g := fun q hq hne e => by
    subst e
    rcases hg with h | h
    · exact hne h.symm
    · omega
  refine ⟨?_, ?_, ?_, ?_, ?_⟩
  · have := (keep (hE.old hb) hEv).set 1 (.slice (some ⟨g, 0, none⟩) (k + 1) cap)
    simpa using this
  · rw [thAll_succ]
    exact ownsRow_setCell_below hown (by simp) _
  · intro t ht
    by_cases e : t = k
    · subst e
      simp only [if_true]
      refine ⟨(keep hra hav).setOther (by simp; omega) _, (keep hrb hbv).setOther (by simp; omega) _, by omega, by omega, ?_, ?_, hab⟩
      · simp only [Value.ownBlock, ne_eq, Option.some.injEq]; exact hgne a hla hav
      · simp only [Value.ownBlock, ne_eq, Option.some.injEq]; exact hgne b hlb hbv
    · simp only [if_neg e]
      obtain ⟨h1, h2, h3, h4, h5, h6, h7⟩ := hT t (by omega)
      refine ⟨(keep (h1.old hb) h5).setOther (by simp; omega) _, (keep (h2.old hb) h6).setOther (by simp; omega) _, h3, h4, ?_, ?_, h7⟩
      · simp only [Value.ownBlock, ne_eq, Option.some.injEq]; exact hgne _ (h1.old hb).lt h5
      · simp only [Value.ownBlock, ne_eq, Option.some.injEq]; exact hgne _ (h2.old hb).lt h6
  · intro s t h1 h2
    by_cases e : t = k
    · subst e
      obtain ⟨r1, r2, -⟩ := hT s h1
      have l1 := r1.lt
      have l2 := r2.lt
      simp only [if_true, if_neg (show ¬ s = t by omega)]
      omega
    · simp only [if_neg e, if_neg (show ¬ s = k by omega)]
      exact hD s t h1 (by omega)
  · have q1 : Below W1.heap.size W1 (w2.alloc (.cells (thNew bS (k : Int) most a (rwn n) b (tw n)).toArray 273)) := Below.alloc (Below.next hB hb hzB) (by omega) _
    exact (q1.grown hgr (by simp; omega) (fun q hq => by have := (hvlt q hq).1; omega)).setCell (Nat.le_refl _) _
theorem ShNew.later {base bS bTg bAn bP n : Nat} {oT : TypeId} {ov : Value} {bW : Nat → Nat} {bB bE : Nat} {w w' : World} (h : ShNew base bS bTg bAn bP n oT ov bW bB bE w) (hb : Below w.heap.size w w') : ShNew base bS bTg bAn bP n oT ov bW bB bE w' := by
  obtain ⟨a1, a2, a3, a4, a5, a6, a7, a8, z⟩ := h
  exact ⟨a1.old hb, a2.old hb, a3.old hb, a4.old hb, fun r hr => ⟨(a5 r hr).1.old hb, (a5 r hr).2⟩, a6, a7.old hb, a8.old hb, z⟩
theorem newThread_nat (bS n : Nat) (i most : Int) (w : World) (hc : w.cell? ⟨bS, 0, none⟩ = some (.int .i64 (n : Int))) (h0 : 1 ≤ n) (h1 : n ≤ 64) (h2 : 0 ≤ i) (h3 : i ≤ 64) :
    Calls Tryz.prog 140 #[.pointer (some ⟨bS, 0, none⟩), .int .i64 i, .int .i64 most] w fun e w' => ∃ gD gG, e = .returned (.agg (thNew bS i most gD (rwn n) gG (tw n)).toArray) ∧ w.heap.size ≤ gD ∧ w.heap.size ≤ gG ∧ gD ≠ gG ∧
      Row w' gD 3 (zeros (.int .i64 0) (rwn n)) ∧ Row w' gG 3 (zeros (.int .i64 0) (tw n)) ∧ Below w.heap.size w w' := by
  have h := newThread_any bS (n : Int) i most w hc (by omega) (by omega) h2 h3
  rwa [show (((n : Int) + 15) / 16 + 2 * (n : Int)).toNat = rwn n from by unfold rwn; omega, show (((n : Int) + 15) / 16).toNat = tw n from by unfold tw; omega] at h
theorem keepG {w w4 : World} {row : Option Nat} {E bS : Nat} {p q : Value} (hg : w.grownBy w4 row) (h : w.cell? ⟨E, 0, none⟩ = some p ∧ w.cell? ⟨bS, 0, none⟩ = some q ∧ w.there E 1 1) (hE : some E ≠ row) (hS : some bS ≠ row) :
    w4.cell? ⟨E, 0, none⟩ = some p ∧ w4.cell? ⟨bS, 0, none⟩ = some q ∧ w4.there E 1 1 := by
  refine ⟨hg.cell h.1 hE, hg.cell h.2.1 hS, fun j hj => ?_⟩
  obtain ⟨h1, h2⟩ := h.2.2 j hj
  have hlt := World.block_lt_of_cell? w _ h.1
  rw [hg.cell_far ⟨E, 1 + j, none⟩ hlt hE, hg.frozen_far ⟨E, 1 + j, none⟩ hlt hE]
  exact ⟨h1, h2⟩
theorem keepSt {w : World} {E bS : Nat} {p q : Value} (h : w.cell? ⟨E, 0, none⟩ = some p ∧ w.cell? ⟨bS, 0, none⟩ = some q ∧ w.there E 1 1) (hlt : bS < E) (v : Value) :
    (w.setCell ⟨E, 1, none⟩ v).cell? ⟨E, 0, none⟩ = some p ∧ (w.setCell ⟨E, 1, none⟩ v).cell? ⟨bS, 0, none⟩ = some q ∧ (w.setCell ⟨E, 1, none⟩ v).there E 1 1 :=
  ⟨(World.cell?_setCell_other w _ _ v (by simp)).trans h.1, (World.cell?_setCell_far w _ _ v (by simp; omega)).trans h.2.1, there_set h.2.2 _ rfl _⟩
def EngNew (w : World) (n : Nat) (most : Int) (oT : TypeId) (ov : Value) (b : Nat) (w' : World) : Prop :=
  ∃ W1 bS bTg bAn bP bW bB bE v gD gG, b = W1.heap.size ∧ ShNew w.heap.size bS bTg bAn bP n oT ov bW bB bE W1 ∧ Below w.heap.size w W1 ∧ EnI W1 bS n most v n gD gG w'
theorem info_thread : (Tryz.prog.info? 273).map (fun i => (i.zero.map (·.cells.size), i.size, i.bytes)) = some (some 28, 28, 272) := by kernel_rfl
set_option maxRecDepth 20000 in
set_option maxHeartbeats 4000000 in
theorem engineNew_any (oT : TypeId) (ov : Value) (fF : Nat) (rv : Value) (hm : ∀ w, (method 553 oT ov "First").run Tryz.prog w = .ok (fF, rv) w) (hcf : ∀ w, (callFunc fF #[rv]).run Tryz.prog w = .ok (.enter fF #[rv]) w)
    (hF : ∀ w, Calls Tryz.prog fF #[rv] w fun e w' => e = .returned (.pointer none) ∧ Below w.heap.size w w') (n : Nat) (most : Int) (w : World) (_h0 : 1 ≤ n) (_h1 : n ≤ 64) :
    Calls Tryz.prog 107 #[.iface oT ov, .int .i64 (n : Int), .int .i64 most] w fun e w' => ∃ b, e = .returned (.pointer (some ⟨b, 0, none⟩)) ∧ EngNew w n most oT ov b w' := by
  have hsh := newShared_any oT ov fF rv hm hcf hF n w _h0 _h1
  have HSH := hide hsh
  clear hsh hF hm hcf
  obtain ⟨ti, hti, htz⟩ := Option.map_eq_some_iff.1 info_thread
  simp only [Prod.mk.injEq] at htz
  obtain ⟨htz1, htz2, htz3⟩ := htz
  obtain ⟨tz, htz0, htz4⟩ := Option.map_eq_some_iff.1 htz1
  have HTI := hide hti
  have HTZ := hide htz0
  have HT2 := hide htz2
  have HT3 := hide htz3
  have HT4 := hide htz4
  clear hti htz1 htz2 htz3 htz0 htz4
  go_enter Tryz.func107, Tryz.ntmps107
  go_wp2_with fail
  refine HSH.out.mono ?_
  rintro e W1 ⟨bS, bTg, bAn, bP, bW, bB, bE, rfl, hShN, hbW1⟩
  have HSN := hide hShN
  have HBW := hide hbW1
  clear hShN hbW1
  go_wp2_with fail
  have hE0 : EnI W1 bS n most (.slice none 0 0) 0 (fun _ => 0) (fun _ => 0) (W1.alloc (.cells [.pointer (some ⟨bS, 0, none⟩), .slice none 0 0, .int .i64 most].toArray 265)) :=
    ⟨Row.new' rfl, World.ownsRow_nil _ _ _ _, fun t ht => absurd ht (by omega), fun s t _ h => absurd h (by omega), below_alloc _ _⟩
  go_loopw [16] (fun i w' => ∃ k v gD gG, k ≤ n ∧ i = .int .i64 (k : Int) ∧ EnI W1 bS n most v k gD gG w') (fun i _ => n - (intOf i).toNat)
  case atStart => exact ⟨0, _, _, _, Nat.zero_le _, rfl, hE0⟩
  case round =>
    obtain ⟨k, v, gD, gG, hk, rfl, hI⟩ := hrel
    by_cases hlt : k < n
    · have hlt' : (k : Int) < (n : Int) := by omega
      have hcv : wr.cell? ⟨W1.heap.size, 1, none⟩ = some v := hI.1.cell_of rfl
      have hcs : wr.cell? ⟨W1.heap.size, 0, none⟩ = some (.pointer (some ⟨bS, 0, none⟩)) := hI.1.cell_of rfl
      have hcn : wr.cell? ⟨bS, 0, none⟩ = some (.int .i64 (n : Int)) := (HSN.out.later hI.2.2.2.2).1.cell_of rfl
      have hth : wr.there W1.heap.size 1 1 := hI.1.there (by simp)
      have hsl : bS < W1.heap.size := HSN.out.1.lt
      have hvlt := hI.2.1.lt
      have hsz : (Tryz.prog.info? 263).map (·.size) = some 1 := by kernel_rfl
      have HI := hide hI
      have HCV := hide hcv
      have hneE : some W1.heap.size ≠ v.ownBlock := fun e => by have := (hvlt _ e.symm).1; omega
      have hneS : some bS ≠ v.ownBlock := fun e => by have := (hvlt _ e.symm).1; omega
      clear hI hcv hvlt
      go_wp2
      refine rg0 (S := (fun w' => w'.cell? ⟨W1.heap.size, 0, none⟩ = some (.pointer (some ⟨bS, 0, none⟩)) ∧ w'.cell? ⟨bS, 0, none⟩ = some (.int .i64 (n : Int)) ∧ w'.there W1.heap.size 1 1)) 17 rfl (by kernel_rfl) ?_ (fun hHeld => ?_)
      · exact ⟨hcs, hcn, hth⟩
      iterate 4 (refine tk 16 (by rfl) (by kernel_rfl) (by exact fun _ _ _ h => h) (.inl ⟨by rfl, fun w hS => by (try dsimp only at hS); go_simp; (try with_reducible rfl)⟩) (by assumption) ?_; try go_frame)
      iterate 6 (refine tk 17 (by rfl) (by kernel_rfl) (by exact fun _ _ _ h => h) (.inl ⟨by rfl, fun w hS => by (try dsimp only at hS); go_simp; (try with_reducible rfl)⟩) (by assumption) ?_; try go_frame)
      refine wpAnyH_ready (rs := [4, 11]) (by kernel_rfl) (by simp) (rc (by rfl) (fun K hK => ?_) (rc (by rfl) (fun K hK => ?_) AllReadyH.nil))
      · rw [if_pos (by rfl)]
        refine wp_load_one _ _ rfl _ _ v rfl (by kernel_rfl) (by first | exact HCV.out | exact cell_later hb2 HCV.out | exact cell_later (below_alloc _ _) (cell_later hb2 HCV.out)) ?_
        refine hK.out _ _ ?_ (fun hHeld => ?_)
        · exact hHeld
        clear hK K
        (try go_frame)
        refine rd1 11 (by rfl) (by kernel_rfl) (fun K hK => ?_)
        go_simp
        refine (newThread_nat bS n (k : Int) most _ hHeld.2.1 _h0 _h1 (by omega) (by omega)).mono ?_
        rintro e w2 ⟨a, b, rfl, ha, hb, hab, hra, hrb, hb2⟩
        go_wp2_with fail
        refine hK.out _ _ ?_ (fun hHeld => ?_)
        · exact ⟨cell_later hb2 hHeld.1, cell_later hb2 hHeld.2.1, there_later hb2 hHeld.2.2⟩
        clear hK K
        (try go_frame)
        refine rd1 12 (by rfl) (by kernel_rfl) (fun K hK => ?_)
        rw [if_pos (by rfl)]
        refine wp_of_run (v := .slice (some ⟨w2.heap.size, 0, none⟩) 1 1) (w' := w2.alloc (.cells (thNew bS (k : Int) most a (rwn n) b (tw n)).toArray 273)) (by kernel_rfl) ?_
        refine hK.out _ _ ?_ (fun hHeld => ?_)
        · exact ⟨cell_later (below_alloc _ _) hHeld.1, cell_later (below_alloc _ _) hHeld.2.1, World.there_alloc hHeld.2.2 _⟩
        clear hK K
        (try go_frame)
        refine rd1 13 (by rfl) (by kernel_rfl) (fun K hK => ?_)
        refine step_append_lies _ rfl (.tmp 23) (.tmp 31) 263 rfl (W1.heap.size + 1) 273 ti tz 28 272 Tryz.underlying263 HTI.out HTZ.out HT2.out HT3.out HT4.out (by decide) v k (thAll bS n most gD gG k) rfl ?_ ⟨w2.heap.size, 0, none⟩ 1 1 (thNew bS (k : Int) most a (rwn n) b (tw n)) rfl rfl ?_ (one_thNew _ _ _ _ _ _ _) (by decide) (by unfold maxLen; omega) (by omega) ?_ (w2.heap.size + 1) (by simp) ?_
        · exact (owns_below HI.out.2.1 (Below.undrew hb2)).alloc _
        · exact World.news_of_block (Row.new w2 _ _)
        · have := (Below.undrew hb2).size; have := HI.out.1.lt; simp; omega
        intro g cap w4 hown hgr hat hlt4
        have HO := hide hown
        have HG := hide hgr
        have HA := hide hat
        clear hown hgr hat
        refine hK.out _ _ ?_ (fun hHeld => ?_)
        · exact keepG HG.out hHeld hneE hneS
        clear hK K
        (try go_frame)
        iterate 2 (refine tk 16 (by rfl) (by kernel_rfl) (by exact fun _ _ _ h => h) (.inl ⟨by rfl, fun w hS => by (try dsimp only at hS); go_simp; (try with_reducible rfl)⟩) (by assumption) ?_; try go_frame)
        refine rd1 16 (by rfl) (by kernel_rfl) (fun K hK => ?_)
        rw [if_pos (by rfl)]
        refine wp_store_one _ _ _ rfl W1.heap.size 1 _ rfl rfl rfl rfl hHeld.2.2 hsz ?_
        refine hK.out _ _ ?_ (fun hHeld => ?_)
        · exact keepSt hHeld hsl _
        clear hK K
        (try go_frame)
        refine wpAnyH_done (by kernel_rfl) ?_ _
        (try go_wp2_with fail)
        go_roundw
        case rel => exact ⟨k + 1, _, _, _, by omega, by go_num, EnI.next HI.out (Below.undrew hb2) ha hb hab hra hrb HO.out HG.out HA.out⟩
        case measure => simp [intOf]; omega
      · go_simp
        refine (newThread_nat bS n (k : Int) most _ hHeld.2.1 _h0 _h1 (by omega) (by omega)).mono ?_
        rintro e w2 ⟨a, b, rfl, ha, hb, hab, hra, hrb, hb2⟩
        go_wp2_with fail
        refine hK.out _ _ ?_ (fun hHeld => ?_)
        · exact ⟨cell_later hb2 hHeld.1, cell_later hb2 hHeld.2.1, there_later hb2 hHeld.2.2⟩
        clear hK K
        (try go_frame)
        refine wpAnyH_ready (rs := [4, 12]) (by kernel_rfl) (by simp) (rc (by rfl) (fun K hK => ?_) (rc (by rfl) (fun K hK => ?_) AllReadyH.nil))
        · rw [if_pos (by rfl)]
          refine wp_load_one _ _ rfl _ _ v rfl (by kernel_rfl) (by first | exact HCV.out | exact cell_later hb2 HCV.out | exact cell_later (below_alloc _ _) (cell_later hb2 HCV.out)) ?_
          refine hK.out _ _ ?_ (fun hHeld => ?_)
          · exact hHeld
          clear hK K
          (try go_frame)
          refine rd1 12 (by rfl) (by kernel_rfl) (fun K hK => ?_)
          rw [if_pos (by rfl)]
          refine wp_of_run (v := .slice (some ⟨w2.heap.size, 0, none⟩) 1 1) (w' := w2.alloc (.cells (thNew bS (k : Int) most a (rwn n) b (tw n)).toArray 273)) (by kernel_rfl) ?_
          refine hK.out _ _ ?_ (fun hHeld => ?_)
          · exact ⟨cell_later (below_alloc _ _) hHeld.1, cell_later (below_alloc _ _) hHeld.2.1, World.there_alloc hHeld.2.2 _⟩
          clear hK K
          (try go_frame)
          refine rd1 13 (by rfl) (by kernel_rfl) (fun K hK => ?_)
          refine step_append_lies _ rfl (.tmp 23) (.tmp 31) 263 rfl (W1.heap.size + 1) 273 ti tz 28 272 Tryz.underlying263 HTI.out HTZ.out HT2.out HT3.out HT4.out (by decide) v k (thAll bS n most gD gG k) rfl ?_ ⟨w2.heap.size, 0, none⟩ 1 1 (thNew bS (k : Int) most a (rwn n) b (tw n)) rfl rfl ?_ (one_thNew _ _ _ _ _ _ _) (by decide) (by unfold maxLen; omega) (by omega) ?_ (w2.heap.size + 1) (by simp) ?_
          · exact (owns_below HI.out.2.1 (Below.undrew hb2)).alloc _
          · exact World.news_of_block (Row.new w2 _ _)
          · have := (Below.undrew hb2).size; have := HI.out.1.lt; simp; omega
          intro g cap w4 hown hgr hat hlt4
          have HO := hide hown
          have HG := hide hgr
          have HA := hide hat
          clear hown hgr hat
          refine hK.out _ _ ?_ (fun hHeld => ?_)
          · exact keepG HG.out hHeld hneE hneS
          clear hK K
          (try go_frame)
          iterate 2 (refine tk 16 (by rfl) (by kernel_rfl) (by exact fun _ _ _ h => h) (.inl ⟨by rfl, fun w hS => by (try dsimp only at hS); go_simp; (try with_reducible rfl)⟩) (by assumption) ?_; try go_frame)
          refine rd1 16 (by rfl) (by kernel_rfl) (fun K hK => ?_)
          rw [if_pos (by rfl)]
          refine wp_store_one _ _ _ rfl W1.heap.size 1 _ rfl rfl rfl rfl hHeld.2.2 hsz ?_
          refine hK.out _ _ ?_ (fun hHeld => ?_)
          · exact keepSt hHeld hsl _
          clear hK K
          (try go_frame)
          refine wpAnyH_done (by kernel_rfl) ?_ _
          (try go_wp2_with fail)
          go_roundw
          case rel => exact ⟨k + 1, _, _, _, by omega, by go_num, EnI.next HI.out (Below.undrew hb2) ha hb hab hra hrb HO.out HG.out HA.out⟩
          case measure => simp [intOf]; omega
        · rw [if_pos (by rfl)]
          refine wp_of_run (v := .slice (some ⟨w2.heap.size, 0, none⟩) 1 1) (w' := w2.alloc (.cells (thNew bS (k : Int) most a (rwn n) b (tw n)).toArray 273)) (by kernel_rfl) ?_
          refine hK.out _ _ ?_ (fun hHeld => ?_)
          · exact ⟨cell_later (below_alloc _ _) hHeld.1, cell_later (below_alloc _ _) hHeld.2.1, World.there_alloc hHeld.2.2 _⟩
          clear hK K
          (try go_frame)
          refine rd1 4 (by rfl) (by kernel_rfl) (fun K hK => ?_)
          rw [if_pos (by rfl)]
          refine wp_load_one _ _ rfl _ _ v rfl (by kernel_rfl) (by first | exact HCV.out | exact cell_later hb2 HCV.out | exact cell_later (below_alloc _ _) (cell_later hb2 HCV.out)) ?_
          refine hK.out _ _ ?_ (fun hHeld => ?_)
          · exact hHeld
          clear hK K
          (try go_frame)
          refine rd1 13 (by rfl) (by kernel_rfl) (fun K hK => ?_)
          refine step_append_lies _ rfl (.tmp 23) (.tmp 31) 263 rfl (W1.heap.size + 1) 273 ti tz 28 272 Tryz.underlying263 HTI.out HTZ.out HT2.out HT3.out HT4.out (by decide) v k (thAll bS n most gD gG k) rfl ?_ ⟨w2.heap.size, 0, none⟩ 1 1 (thNew bS (k : Int) most a (rwn n) b (tw n)) rfl rfl ?_ (one_thNew _ _ _ _ _ _ _) (by decide) (by unfold maxLen; omega) (by omega) ?_ (w2.heap.size + 1) (by simp) ?_
          · exact (owns_below HI.out.2.1 (Below.undrew hb2)).alloc _
          · exact World.news_of_block (Row.new w2 _ _)
          · have := (Below.undrew hb2).size; have := HI.out.1.lt; simp; omega
          intro g cap w4 hown hgr hat hlt4
          have HO := hide hown
          have HG := hide hgr
          have HA := hide hat
          clear hown hgr hat
          refine hK.out _ _ ?_ (fun hHeld => ?_)
          · exact keepG HG.out hHeld hneE hneS
          clear hK K
          (try go_frame)
          iterate 2 (refine tk 16 (by rfl) (by kernel_rfl) (by exact fun _ _ _ h => h) (.inl ⟨by rfl, fun w hS => by (try dsimp only at hS); go_simp; (try with_reducible rfl)⟩) (by assumption) ?_; try go_frame)
          refine rd1 16 (by rfl) (by kernel_rfl) (fun K hK => ?_)
          rw [if_pos (by rfl)]
          refine wp_store_one _ _ _ rfl W1.heap.size 1 _ rfl rfl rfl rfl hHeld.2.2 hsz ?_
          refine hK.out _ _ ?_ (fun hHeld => ?_)
          · exact keepSt hHeld hsl _
          clear hK K
          (try go_frame)
          refine wpAnyH_done (by kernel_rfl) ?_ _
          (try go_wp2_with fail)
          go_roundw
          case rel => exact ⟨k + 1, _, _, _, by omega, by go_num, EnI.next HI.out (Below.undrew hb2) ha hb hab hra hrb HO.out HG.out HA.out⟩
          case measure => simp [intOf]; omega
    · have hke : k = n := by omega
      subst hke
      have HI := hide hI
      clear hI
      have hlt' : ¬ (k : Int) < (k : Int) := by omega
      go_wp2
      go_ret
      exact ⟨W1.heap.size, rfl, W1, bS, bTg, bAn, bP, bW, bB, bE, v, gD, gG, rfl, HSN.out, HBW.out, HI.out⟩
end Go.Proofs.YtefjhnhdagolhaaGreat.tree
namespace Go.Proofs.YtefjhnhdagolhaaGreat.tree
open Go.RowKit
theorem EnI.later {W1 : World} {bS n : Nat} {most : Int} {v : Value} {k : Nat} {gD gG : Nat → Nat} {w w' : World} (h : EnI W1 bS n most v k gD gG w) (hb : Below w.heap.size w w') : EnI W1 bS n most v k gD gG w' := by
  obtain ⟨hE, hO, hT, hD, hB⟩ := h
  exact ⟨hE.old hb, owns_below hO hb, fun t ht => ⟨(hT t ht).1.old hb, (hT t ht).2.1.old hb, (hT t ht).2.2⟩, hD, Below.next hB hb hB.size⟩
theorem EngNew.later {w0 : World} {n : Nat} {most : Int} {oT : TypeId} {ov : Value} {b : Nat} {w w' : World} (h : EngNew w0 n most oT ov b w) (hb : Below w.heap.size w w') : EngNew w0 n most oT ov b w' := by
  obtain ⟨W1, bS, bTg, bAn, bP, bW, bB, bE, v, gD, gG, h1, h2, h3, h4⟩ := h
  exact ⟨W1, bS, bTg, bAn, bP, bW, bB, bE, v, gD, gG, h1, h2, h3, h4.later hb⟩
theorem EngNew.from {w0 w1 : World} {n : Nat} {most : Int} {oT : TypeId} {ov : Value} {b : Nat} {w : World} (h : EngNew w1 n most oT ov b w) (hb : Below w0.heap.size w0 w1) : EngNew w0 n most oT ov b w := by
  obtain ⟨W1, bS, bTg, bAn, bP, bW, bB, bE, v, gD, gG, h1, h2, h3, h4⟩ := h
  exact ⟨W1, bS, bTg, bAn, bP, bW, bB, bE, v, gD, gG, h1, h2.base hb.size, Below.next hb h3 hb.size, h4⟩
theorem EngNew.below {w0 : World} {n : Nat} {most : Int} {oT : TypeId} {ov : Value} {b : Nat} {w : World} (h : EngNew w0 n most oT ov b w) : Below w0.heap.size w0 w ∧ b < w.heap.size := by
  obtain ⟨W1, bS, bTg, bAn, bP, bW, bB, bE, v, gD, gG, h1, h2, h3, h4⟩ := h
  exact ⟨Below.next h3 h4.2.2.2.2 h3.size, h1 ▸ h4.1.lt⟩
def ObjNew (w : World) (n : Nat) (most : Int) (oT : TypeId) (ov : Value) (b : Nat) (w' : World) : Prop :=
  ∃ bN, Row w' b 74 [.iface 195 (.pointer (some ⟨bN, 0, none⟩))] ∧ EngNew w n most oT ov bN w' ∧ w.heap.size ≤ b
set_option maxHeartbeats 1000000 in
theorem objectOf_any (oT : TypeId) (ov : Value) (fF : Nat) (rv : Value) (hm : ∀ w, (method 553 oT ov "First").run Tryz.prog w = .ok (fF, rv) w) (hcf : ∀ w, (callFunc fF #[rv]).run Tryz.prog w = .ok (.enter fF #[rv]) w)
    (hF : ∀ w, Calls Tryz.prog fF #[rv] w fun e w' => e = .returned (.pointer none) ∧ Below w.heap.size w w') (kind : Int) (n : Nat) (cap st co : Int) (vn vo : Value) (w : World) (h0 : 1 ≤ n) (h1 : n ≤ 64) :
    Calls Tryz.prog 80 #[.iface oT ov, .agg #[.int .i64 kind, .int .i64 (n : Int), .int .i64 cap, .int .i64 st, .int .i64 co, vn, vo]] w fun e w' => ∃ b, e = .returned (.pointer (some ⟨b, 0, none⟩)) ∧ ObjNew w n cap oT ov b w' := by
  have hen := fun W => engineNew_any oT ov fF rv hm hcf hF n cap W h0 h1
  have HEN := hide hen
  clear hen hm hcf hF
  go_enter Tryz.func80, Tryz.ntmps80
  go_wp2_with fail
  refine (HEN.out _).mono ?_
  rintro e w1 ⟨b, rfl, hE⟩
  have HE := hide hE
  clear hE
  go_wp2_with fail
  go_ret
  refine ⟨w1.heap.size, rfl, b, ?_, ?_, ?_⟩
  · exact Row.new' rfl
  · exact (HE.out.later (below_alloc _ _)).from (below_alloc _ _)
  · exact Nat.le_trans (by simp) HE.out.below.1.size
end Go.Proofs.YtefjhnhdagolhaaGreat.tree
