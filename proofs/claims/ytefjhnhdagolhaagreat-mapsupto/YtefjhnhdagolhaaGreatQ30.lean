import Derived.Test.YtefjhnhdagolhaaGreatQ28
namespace Go.Proofs.YtefjhnhdagolhaaGreat
open Go.RowKit
theorem step_copy_set {P : Program} {ops : Array Oper} {o : Oper} {a : Act} {w : World} {K : Act → World → Prop} {Q : Exit → Act → World → Prop} {E : Prop} (hgd : o.guard = none) (d s : Operand) (dT sT : TypeId)
    (ho : o.op = .call { callee := .builtin .copy, args := #[d, s], argTypes := #[dT, sT] }) (elem : TypeId) (hu : P.underlying dT = some (.slice elem)) (hsz : (P.info? elem).map (·.size) = some 1)
    (b off dLen dCap : Nat) (ad : Addr) (sLen sCap : Nat) (hd : a.eval d = .slice (some ⟨b, off, none⟩) dLen dCap) (hs : a.eval s = .slice (some ad) sLen sCap)
    (cs : List Value) (hn : cs.length = Nat.min sLen dLen) (hsrc : ∀ j v, cs[j]? = some v → w.cell? (ad.add j) = some v) (hc : ∀ j, j < cs.length → (w.cell? ⟨b, off + j, none⟩).isSome = true) (hf : ∀ j, j < cs.length → w.frozen? ⟨b, off + j, none⟩ = false) (h1 : ∀ v ∈ cs, v.oneCell' = true)
    (h : K (a.put o.dst (goInt cs.length)) (w.setCells b off cs)) : if Region.wanted o (yielded ops a.tmps) = true then Oper.wp P o a w K Q else E := by
  have hw : Region.wanted o (yielded ops a.tmps) = true := by simp [Region.wanted, hgd]
  rw [if_pos hw]
  have hrun := run_copy_cells (P := P) w dT sT o.type elem b off dLen dCap ad sLen sCap cs hu hsz hn hsrc hc hf h1
  unfold Oper.wp
  simp [execOp, ho, resolve, invoke, builtin, hd, hs, hrun, Result.andThen]
  exact h
theorem list_one {l : List Value} (h : l.length = 1) : ∃ a, l = [a] := by
  match l, h with
  | [a], _ => exact ⟨a, rfl⟩
end Go.Proofs.YtefjhnhdagolhaaGreat
namespace Go.Proofs.YtefjhnhdagolhaaGreat.tree
open Go.RowKit
open M (upd upd_same upd_other Op Ver ETh ESt wds statusAt valueAt)
attribute [local go_sem ↓] Go.wp_at_zero Go.wp_at_succ
section
variable {σ : Type} {R : SR σ} {L : Lt} {S : Nat → Prop} {E E' : ESt σ} {w : World} {t : Nat}
theorem RE.set_drafts (ht : t < L.n) : ∀ (vs : List Int) (o : Nat) (E : ESt σ) (w : World), RE R L S E w → RE R L S { E with th := upd E.th t { E.th t with dw := fun i => if o ≤ i ∧ i < o + vs.length then vs.getD (i - o) 0 else (E.th t).dw i } } (w.setCells (L.gD t) o (ints vs)) ∧ Fr L.own w (w.setCells (L.gD t) o (ints vs))
  | [], o, E, w, h => by
    refine ⟨h.cast ?_, Fr.refl _ w⟩
    have e : (fun i => if o ≤ i ∧ i < o + ([] : List Int).length then ([] : List Int).getD (i - o) 0 else (E.th t).dw i) = (E.th t).dw := by
      funext i
      rw [if_neg (by simp)]
    rw [e]
    have u : upd E.th t (E.th t) = E.th := by funext k; unfold upd; split <;> simp_all
    rw [u]
  | v :: vs, o, E, w, h => by
    have r1 := h.set_draft t ht o v
    obtain ⟨r2, k2⟩ := RE.set_drafts ht vs (o + 1) _ _ r1
    refine ⟨r2.cast ?_, (Fr.set w (own_gD ht) _).trans k2⟩
    simp only [upd_upd, upd_same]
    congr 2
    have e : (fun i => if o + 1 ≤ i ∧ i < o + 1 + vs.length then vs.getD (i - (o + 1)) 0 else upd (E.th t).dw o v i) = fun i => if o ≤ i ∧ i < o + (v :: vs).length then (v :: vs).getD (i - o) 0 else (E.th t).dw i := by
      funext i
      simp only [List.length_cons]
      by_cases q : i = o
      · subst q
        rw [if_neg (by omega), if_pos (by omega), upd_same]
        simp
      · rw [upd_other _ _ q]
        by_cases q2 : o + 1 ≤ i ∧ i < o + 1 + vs.length
        · rw [if_pos q2, if_pos (by omega), show i - o = (i - (o + 1)) + 1 by omega]
          simp
        · rw [if_neg q2, if_neg (by omega)]
    rw [e]
theorem close_fin (ht : t < L.n) {wc W3 : World} {gp pl pc bv bf : Nat} {a0 b0 : Value} {v f : Ver σ}
    (hL : Left R L S w { E with th := upd E.th t { E.th t with dw := fun i => if i < M.tw L.n then (E.th t).tg i else (E.th t).dw i } } wc) (hb3 : Below wc.heap.size wc W3)
    (hrow : Row W3 wc.heap.size 306 [.int .i64 (((E.th t).stamp + 1 : Nat) : Int), .slice (some ⟨gp, 0, none⟩) pl pc, .pointer (some ⟨bf, 0, none⟩)]) (hIp : grown S w wc gp ∧ ¬ L.own gp) (hsl : Sl wc (.slice (some ⟨gp, 0, none⟩) pl pc) (ints ((E.th t).pend.map Int.ofNat)))
    (hrv : R.rep (fun k => grown S w wc k ∧ ¬ L.own k) wc v.st [a0]) (hrf : R.rep (fun k => grown S w wc k ∧ ¬ L.own k) wc f.st [b0]) (hbf : BRep (fun k => grown S w wc k ∧ ¬ L.own k) wc f.bs.reverse bf)
    (hX : ∀ j, j < 2 * (1 + 1) → wc.cell? ⟨L.g, t * 28 + (15 + j), none⟩ = (([a0] ++ [.pointer (some ⟨bv, 0, none⟩)]) ++ ([b0] ++ [.pointer (some ⟨bf, 0, none⟩)]))[j]?) (hv : (E.th t).now = some v) (hf : (E.th t).frm = some f) :
    Left R L S w { E with th := upd E.th t (ETh.close L.n (E.th t)) } (W3.setCell ⟨L.g, t * 28 + 16, none⟩ (.pointer (some ⟨wc.heap.size, 0, none⟩))) := by
  have hLb := Left.below hL.re hb3
  have hgl : L.g < wc.heap.size := hL.re.lt _ (hL.re.ow _ own_g)
  have hst : ∀ k, (grown S w wc k ∧ ¬ L.own k) → k < wc.heap.size → (grown (grown S w wc) wc W3 k ∧ ¬ L.own k) ∧ W3.heap[k]? = wc.heap[k]? := fun k hk hlt => ⟨⟨.inl hk.1, hk.2⟩, hb3.block k hlt⟩
  have hI : ∀ k, (grown S w wc k ∧ ¬ L.own k) → k < wc.heap.size := fun k hk => hL.re.lt k hk.1
  have vr : VRep R (fun k => grown (grown S w wc) wc W3 k ∧ ¬ L.own k) W3 { v with bs := f.bs ++ [((E.th t).stamp + 1, (E.th t).pend)] } ([a0] ++ [.pointer (some ⟨wc.heap.size, 0, none⟩)]) := by
    refine ⟨[a0], wc.heap.size, rfl, R.stay hst hrv, ?_⟩
    show BRep _ W3 (f.bs ++ [((E.th t).stamp + 1, (E.th t).pend)]).reverse wc.heap.size
    rw [List.reverse_append]
    exact ⟨_, bf, ⟨.inr ⟨Nat.le_refl _, hrow.lt⟩, fun q => by have := hL.re.lt _ (hL.re.ow _ q); omega⟩, hrow, ⟨gp, (hst gp hIp (hI gp hIp)).1, Sl.stay rfl hsl (fun q => (hst gp hIp q).2), _, _, rfl⟩, BRep.stay hst hI _ _ hbf⟩
  have fr : VRep R (fun k => grown (grown S w wc) wc W3 k ∧ ¬ L.own k) W3 f ([b0] ++ [.pointer (some ⟨bf, 0, none⟩)]) := ⟨[b0], bf, rfl, R.stay hst hrf, BRep.stay hst hI _ _ hbf⟩
  obtain ⟨r2, k2⟩ := hLb.re.set_vers ht [.pointer (some ⟨wc.heap.size, 0, none⟩)] 1 (by simp) (by simp) vr fr (fun j hj => by
    by_cases q : j = 1
    · subst q
      rfl
    · rw [if_neg (by simp; omega), hb3.cell (p := ⟨L.g, t * 28 + (15 + j), none⟩) hgl, hX j hj]
      rcases (by omega : j = 0 ∨ j = 1 ∨ j = 2 ∨ j = 3) with q2 | q2 | q2 | q2 <;> subst q2 <;> first | rfl | exact absurd rfl q) (ETh.close L.n (E.th t)) (by
    simp only [upd_same]
    unfold ETh.close
    rw [hv, hf]
    rfl)
  have := hL.next (hLb.next (Left.of r2 k2 rfl))
  refine this.cast ?_
  simp only [upd_upd]
set_option maxRecDepth 20000 in
set_option maxHeartbeats 4000000 in
theorem close_w (h : RE R L S E w) (ht : t < L.n) (hN : (E.th t).stamp ≤ 1000000000) (hr : (E.th t).srec < 129) {v f : Ver σ} (hv : (E.th t).now = some v) (hf : (E.th t).frm = some f) (hp : (E.th t).pend ≠ []) :
    Calls Tryz.prog 356 #[.pointer (some ⟨L.g, t * 28, none⟩)] w fun e w' => e = .returned (.tuple #[]) ∧ Left R L S w { E with th := upd E.th t (ETh.close L.n (E.th t)) } w' := by
  obtain ⟨cv, cf, pv, hc, hcv, hcf, -, -⟩ := h.cells ht rfl
  obtain ⟨x0, x1, rfl⟩ := list_cells hcv.1
  obtain ⟨y0, y1, rfl⟩ := list_cells hcf.1
  have hn := h.ok.n64
  have htw : M.tw L.n ≤ M.wds L.n := by unfold M.wds; omega
  have hwd : M.wds L.n ≤ 200 := by unfold M.wds M.tw; omega
  have c14 := hc 14 _ (by decide) rfl
  have cg := hc 19 _ (by decide) rfl
  have ngD : L.g ≠ L.gD t := by obtain ⟨T, q, -⟩ := h.th; exact Row.apart q (h.gd t ht) (by decide)
  obtain ⟨tgs, htgs⟩ : ∃ tgs, tgs = (List.range (M.tw L.n)).map (E.th t).tg := ⟨_, rfl⟩
  have hlen : (ints tgs).length = M.tw L.n := by rw [htgs]; simp [ints]
  have HSRC := hide (show ∀ j u, (ints tgs)[j]? = some u → w.cell? ((⟨L.gG t, 0, none⟩ : Addr).add j) = some u from fun j u hj => by
    have hj2 : j < M.tw L.n := by rw [← hlen]; exact (List.getElem?_eq_some_iff.1 hj).1
    rw [addr_add, Nat.zero_add, (h.gg t ht).cell hj2]
    rw [htgs, getElem?_ints, List.getElem?_map, List.getElem?_range hj2] at hj
    simpa using hj)
  have HDST := hide (show ∀ j, j < (ints tgs).length → (w.cell? ⟨L.gD t, 0 + j, none⟩).isSome = true from fun j hj => by rw [Nat.zero_add, (h.gd t ht).cell (by omega)]; rfl)
  have HFZ := hide (show ∀ j, j < (ints tgs).length → w.frozen? ⟨L.gD t, 0 + j, none⟩ = false from fun j _ => (h.gd t ht).frozen _)
  have hdw : (fun i => if 0 ≤ i ∧ i < 0 + tgs.length then tgs.getD (i - 0) 0 else (E.th t).dw i) = fun i => if i < M.tw L.n then (E.th t).tg i else (E.th t).dw i := by
    have hl2 : tgs.length = M.tw L.n := by simpa [ints] using hlen
    funext i
    rw [hl2]
    by_cases q : i < M.tw L.n
    · rw [if_pos ⟨Nat.zero_le _, by omega⟩, if_pos q, htgs]
      simp [List.getD_eq_getElem?_getD, List.getElem?_range q]
    · rw [if_neg (by omega), if_neg q]
  obtain ⟨r1, k1⟩ := RE.set_drafts ht tgs 0 E w.drew h.drew
  rw [hdw] at r1
  have H1 := hide (Left.of r1 (show Fr L.own w _ from ⟨k1.os, k1.tape, k1.output, k1.size, k1.block⟩) rfl)
  have HH := hide h
  have HC := hide (And.intro hv (And.intro hf hp))
  have HTG := hide htgs
  have HLN := hide hlen
  clear h hc hcv hcf hv hf hp r1 k1 hdw htgs hlen
  go_enter Tryz.func356, Tryz.ntmps356
  go_upto_region 0 with fail
  go_cut [11] (fun _ w' => Left R L S w { E with th := upd E.th t { E.th t with dw := fun i => if i < M.tw L.n then (E.th t).tg i else (E.th t).dw i } } w')
  case first =>
    refine wp_region_held_drew (S := (fun w' => w'.cell? ⟨L.g, t * 28 + 14, none⟩ = some (.slice (some ⟨L.gD t, 0, none⟩) (M.wds L.n) (M.wds L.n)) ∧ w'.cell? ⟨L.g, t * 28 + 19, none⟩ = some (.slice (some ⟨L.gG t, 0, none⟩) (M.tw L.n) (M.tw L.n)))) (by kernel_rfl) ?_ (fun hHeld => ?_)
    · exact ⟨c14, cg⟩
    refine tk1 0 ⟨some 2, .move (.tmp 0), 436, "attempt.go:72", #[], none⟩ _ ?_
    (try go_frame)
    refine tk1 1 ⟨some 3, .nilCheck (.tmp 2), 0, "attempt.go:72", #[⟨0, .data⟩], none⟩ _ ?_
    (try go_frame)
    refine tk1 2 ⟨some 4, .fieldAddr 273 (.tmp 3) 12, 0, "attempt.go:72", #[⟨1, .data⟩], none⟩ _ ?_
    (try go_frame)
    refine tk1 3 ⟨some 5, .fieldAddr 271 (.tmp 4) 0, 0, "attempt.go:72", #[⟨2, .data⟩], none⟩ _ ?_
    (try go_frame)
    refine tk1 4 ⟨some 6, .load 22 (.tmp 5), 22, "attempt.go:72", #[⟨3, .data⟩], none⟩ _ ?_
    (try go_frame)
    refine tk1 5 ⟨some 7, .move (.tmp 0), 436, "attempt.go:72", #[], none⟩ _ ?_
    (try go_frame)
    refine tk1 6 ⟨some 8, .nilCheck (.tmp 7), 0, "attempt.go:72", #[⟨5, .data⟩], none⟩ _ ?_
    (try go_frame)
    refine tk1 7 ⟨some 9, .fieldAddr 273 (.tmp 8) 13, 0, "attempt.go:72", #[⟨6, .data⟩], none⟩ _ ?_
    (try go_frame)
    refine tk1 8 ⟨some 10, .load 22 (.tmp 9), 22, "attempt.go:72", #[⟨7, .data⟩], none⟩ _ ?_
    (try go_frame)
    refine wpAnyH_ready (rs := [9]) (by kernel_rfl) (by simp) ?_
    refine AllReadyH.cons (o := ⟨some 11, .call ⟨.builtin .copy, #[.tmp 6, .tmp 10], #[22, 22]⟩, 3, "attempt.go:72", #[⟨4, .data⟩, ⟨8, .data⟩], none⟩) (by rfl) (fun K hK => ?_) AllReadyH.nil
    refine step_copy_set rfl (.tmp 6) (.tmp 10) 22 22 rfl 3 Tryz.underlying22 (by kernel_rfl) (L.gD t) 0 (M.wds L.n) (M.wds L.n) ⟨L.gG t, 0, none⟩ (M.tw L.n) (M.tw L.n) rfl rfl (ints tgs) (by rw [HLN.out]; exact (Nat.min_eq_left htw).symm) HSRC.out HDST.out HFZ.out (one_ints tgs) ?_
    refine hK.out _ _ ?_ (fun hHeld => ?_)
    · exact ⟨(World.cell?_setCells_out _ _ _ _ _ (fun q _ => absurd q ngD)).trans hHeld.1, (World.cell?_setCells_out _ _ _ _ _ (fun q _ => absurd q ngD)).trans hHeld.2⟩
    clear hK K
    (try go_frame)
    refine wpAnyH_done (by kernel_rfl) ?_ _
    (try go_wp2_with fail)
    go_meet
    case rel => exact H1.out
  case rest =>
    have hL := hcut
    obtain ⟨cv, cf, pv1, hc, hcv, hcf, hpd, -⟩ := hL.re.cells ht (upd_same _ _ _)
    have hvr := hcv.2 v HC.out.1
    have hfr := hcf.2 f HC.out.2.1
    obtain ⟨scv, bv, rfl, hrv, hbv⟩ := hvr
    obtain ⟨scf, bf, rfl, hrf, hbf⟩ := hfr
    have lv := R.len hrv
    have lf := R.len hrf
    obtain ⟨a0, rfl⟩ := list_one lv
    obtain ⟨b0, rfl⟩ := list_one lf
    have e13 := hc 13 _ (by decide) rfl
    have epv := hc 20 _ (by decide) rfl
    have efl := hc 18 _ (by decide) rfl
    have eth : wc.there L.g (t * 28 + 16) 1 := by obtain ⟨T, q, -⟩ := hL.re.th; exact q.there (Nat.lt_of_lt_of_le ht hL.re.ok.gn) (by decide)
    have hq2 : (((E.th t).stamp : Int) * 129 + ((E.th t).srec : Int)) / 129 = ((E.th t).stamp : Int) := by omega
    obtain ⟨gp, pl, pc, hIp, rfl, hslp⟩ : ∃ gp pl pc, (grown S w wc gp ∧ ¬ L.own gp) ∧ pv1 = .slice (some ⟨gp, 0, none⟩) pl pc ∧ Sl wc (.slice (some ⟨gp, 0, none⟩) pl pc) (ints ((E.th t).pend.map Int.ofNat)) := by
      rcases hpd with ⟨-, q⟩ | ⟨gp, pl, pc, q1, q2, q3⟩
      · exact absurd q HC.out.2.2
      · exact ⟨gp, pl, pc, q1, q2, by rw [← q2]; exact q3⟩
    have hwp := hide (show IntKind.i64.wrap (((E.th t).stamp : Int) + 1) = (((E.th t).stamp + 1 : Nat) : Int) by rw [wrapi _ (by omega) (by omega)]; omega)
    have HP := hide (And.intro hIp hslp)
    have HL := hide hL
    have HRV := hide (And.intro hrv (And.intro hrf hbf))
    have HX := hide (show ∀ j, j < 2 * (1 + 1) → wc.cell? ⟨L.g, t * 28 + (15 + j), none⟩ = (([a0] ++ [.pointer (some ⟨bv, 0, none⟩)]) ++ ([b0] ++ [.pointer (some ⟨bf, 0, none⟩)]))[j]? from fun j hj => by
      rcases (by omega : j = 0 ∨ j = 1 ∨ j = 2 ∨ j = 3) with q | q | q | q <;> subst q
      all_goals exact hc _ _ (by decide) rfl)
    have hne1 : L.g < wc.heap.size := hL.re.lt _ (hL.re.ow _ own_g)
    clear hcut hL hc hcv hcf hpd hrv hrf hbv hbf hIp hslp c14 cg
    go_upto_region 1 with fail
    refine wp_region_held_drew (S := (fun w' => w'.cell? ⟨L.g, t * 28 + 13, none⟩ = some (.int .i64 (((E.th t).stamp : Int) * 129 + ((E.th t).srec : Int))) ∧ w'.cell? ⟨L.g, t * 28 + 20, none⟩ = some (.slice (some ⟨gp, 0, none⟩) pl pc) ∧ w'.cell? ⟨L.g, t * 28 + 18, none⟩ = some (.pointer (some ⟨bf, 0, none⟩)) ∧ w'.there (L.g) (t * 28 + 16) 1)) (by kernel_rfl) ?_ (fun hHeld => ?_)
    · exact ⟨e13, epv, efl, eth⟩
    refine tk1 0 ⟨some 12, .move (.tmp 0), 436, "attempt.go:73", #[], none⟩ _ ?_
    (try go_frame)
    refine tk1 1 ⟨some 13, .move (.tmp 0), 436, "attempt.go:73", #[], none⟩ _ ?_
    (try go_frame)
    refine tk1 2 ⟨some 14, .nilCheck (.tmp 13), 0, "attempt.go:73", #[⟨1, .data⟩], none⟩ _ ?_
    (try go_frame)
    refine tk1 3 ⟨some 15, .fieldAddr 273 (.tmp 14) 11, 0, "attempt.go:73", #[⟨2, .data⟩], none⟩ _ ?_
    (try go_frame)
    refine tk1 4 ⟨some 16, .load 222 (.tmp 15), 222, "attempt.go:73", #[⟨3, .data⟩], none⟩ _ ?_
    (try go_frame)
    refine tk1 7 ⟨some 19, .move (.tmp 0), 436, "attempt.go:73", #[], none⟩ _ ?_
    (try go_frame)
    refine tk1 8 ⟨some 20, .nilCheck (.tmp 19), 0, "attempt.go:73", #[⟨7, .data⟩], none⟩ _ ?_
    (try go_frame)
    refine tk1 9 ⟨some 21, .fieldAddr 273 (.tmp 20) 14, 0, "attempt.go:73", #[⟨8, .data⟩], none⟩ _ ?_
    (try go_frame)
    refine tk1 10 ⟨some 22, .load 22 (.tmp 21), 22, "attempt.go:73", #[⟨9, .data⟩], none⟩ _ ?_
    (try go_frame)
    refine tk1 11 ⟨some 23, .move (.tmp 0), 436, "attempt.go:73", #[], none⟩ _ ?_
    (try go_frame)
    refine tk1 12 ⟨some 24, .nilCheck (.tmp 23), 0, "attempt.go:73", #[⟨11, .data⟩], none⟩ _ ?_
    (try go_frame)
    refine tk1 13 ⟨some 25, .fieldAddr 273 (.tmp 24) 12, 0, "attempt.go:73", #[⟨12, .data⟩], none⟩ _ ?_
    (try go_frame)
    refine tk1 14 ⟨some 26, .fieldAddr 271 (.tmp 25) 1, 0, "attempt.go:73", #[⟨13, .data⟩], none⟩ _ ?_
    (try go_frame)
    refine tk1 15 ⟨some 27, .fieldAddr 269 (.tmp 26) 1, 0, "attempt.go:73", #[⟨14, .data⟩], none⟩ _ ?_
    (try go_frame)
    refine tk1 16 ⟨some 28, .fieldAddr 267 (.tmp 27) 1, 0, "attempt.go:73", #[⟨15, .data⟩], none⟩ _ ?_
    (try go_frame)
    refine tk1 17 ⟨some 29, .load 223 (.tmp 28), 223, "attempt.go:73", #[⟨16, .data⟩], none⟩ _ ?_
    (try go_frame)
    refine wpAnyH_ready (rs := [5]) (by kernel_rfl) (by simp) ?_
    refine AllReadyH.cons (o := ⟨some 17, .call ⟨.value (.func 226), #[.tmp 16], #[222]⟩, 3, "attempt.go:73", #[⟨4, .data⟩], none⟩) (by rfl) (fun K hK => ?_) AllReadyH.nil
    go_simp
    refine (pubStamp _ _ (by omega) (by omega)).mono ?_
    rintro e w3 ⟨rfl, rfl⟩
    rw [hq2]
    go_wp2_with fail
    refine hK.out _ _ ?_ (fun hHeld => ?_)
    · exact hHeld
    clear hK K
    (try go_frame)
    refine tk1 6 ⟨some 18, .binOp .add 3 (.tmp 17) (.const (.int .i64 1)) 3, 3, "attempt.go:73", #[⟨5, .data⟩], none⟩ _ ?_
    (try go_frame)
    refine tk1 18 ⟨some 30, .build 306 #[(0, .tmp 18), (1, .tmp 22), (2, .tmp 29)], 306, "attempt.go:73", #[⟨6, .data⟩, ⟨10, .data⟩, ⟨17, .data⟩], none⟩ _ ?_
    (try go_frame)
    refine wpAnyH_ready (rs := [19]) (by kernel_rfl) (by simp) ?_
    refine AllReadyH.cons (o := ⟨some 31, .box 306 (.tmp 30), 223, "attempt.go:73", #[⟨18, .data⟩], none⟩) (by rfl) (fun K hK => ?_) AllReadyH.nil
    go_simp
    refine hK.out _ _ ?_ (fun hHeld => ?_)
    · exact ⟨cell_later (below_alloc _ _) hHeld.1, cell_later (below_alloc _ _) hHeld.2.1, cell_later (below_alloc _ _) hHeld.2.2.1, there_later (below_alloc _ _) hHeld.2.2.2⟩
    clear hK K
    (try go_frame)
    refine tk1 20 ⟨some 32, .nilCheck (.tmp 12), 0, "attempt.go:73", #[⟨0, .data⟩, ⟨0, .phase⟩, ⟨1, .phase⟩, ⟨2, .phase⟩, ⟨3, .phase⟩, ⟨4, .phase⟩, ⟨5, .phase⟩, ⟨6, .phase⟩, ⟨7, .phase⟩, ⟨8, .phase⟩, ⟨9, .phase⟩, ⟨10, .phase⟩, ⟨11, .phase⟩, ⟨12, .phase⟩, ⟨13, .phase⟩, ⟨14, .phase⟩, ⟨15, .phase⟩, ⟨16, .phase⟩, ⟨17, .phase⟩, ⟨18, .phase⟩, ⟨19, .phase⟩], none⟩ _ ?_
    (try go_frame)
    refine tk1 21 ⟨some 33, .fieldAddr 273 (.tmp 32) 12, 0, "attempt.go:73", #[⟨20, .data⟩, ⟨0, .phase⟩, ⟨1, .phase⟩, ⟨2, .phase⟩, ⟨3, .phase⟩, ⟨4, .phase⟩, ⟨5, .phase⟩, ⟨6, .phase⟩, ⟨7, .phase⟩, ⟨8, .phase⟩, ⟨9, .phase⟩, ⟨10, .phase⟩, ⟨11, .phase⟩, ⟨12, .phase⟩, ⟨13, .phase⟩, ⟨14, .phase⟩, ⟨15, .phase⟩, ⟨16, .phase⟩, ⟨17, .phase⟩, ⟨18, .phase⟩, ⟨19, .phase⟩], none⟩ _ ?_
    (try go_frame)
    refine tk1 22 ⟨some 34, .fieldAddr 271 (.tmp 33) 1, 0, "attempt.go:73", #[⟨21, .data⟩, ⟨0, .phase⟩, ⟨1, .phase⟩, ⟨2, .phase⟩, ⟨3, .phase⟩, ⟨4, .phase⟩, ⟨5, .phase⟩, ⟨6, .phase⟩, ⟨7, .phase⟩, ⟨8, .phase⟩, ⟨9, .phase⟩, ⟨10, .phase⟩, ⟨11, .phase⟩, ⟨12, .phase⟩, ⟨13, .phase⟩, ⟨14, .phase⟩, ⟨15, .phase⟩, ⟨16, .phase⟩, ⟨17, .phase⟩, ⟨18, .phase⟩, ⟨19, .phase⟩], none⟩ _ ?_
    (try go_frame)
    refine tk1 23 ⟨some 35, .fieldAddr 269 (.tmp 34) 0, 0, "attempt.go:73", #[⟨22, .data⟩, ⟨0, .phase⟩, ⟨1, .phase⟩, ⟨2, .phase⟩, ⟨3, .phase⟩, ⟨4, .phase⟩, ⟨5, .phase⟩, ⟨6, .phase⟩, ⟨7, .phase⟩, ⟨8, .phase⟩, ⟨9, .phase⟩, ⟨10, .phase⟩, ⟨11, .phase⟩, ⟨12, .phase⟩, ⟨13, .phase⟩, ⟨14, .phase⟩, ⟨15, .phase⟩, ⟨16, .phase⟩, ⟨17, .phase⟩, ⟨18, .phase⟩, ⟨19, .phase⟩], none⟩ _ ?_
    (try go_frame)
    refine tk1 24 ⟨some 36, .fieldAddr 267 (.tmp 35) 1, 0, "attempt.go:73", #[⟨23, .data⟩, ⟨0, .phase⟩, ⟨1, .phase⟩, ⟨2, .phase⟩, ⟨3, .phase⟩, ⟨4, .phase⟩, ⟨5, .phase⟩, ⟨6, .phase⟩, ⟨7, .phase⟩, ⟨8, .phase⟩, ⟨9, .phase⟩, ⟨10, .phase⟩, ⟨11, .phase⟩, ⟨12, .phase⟩, ⟨13, .phase⟩, ⟨14, .phase⟩, ⟨15, .phase⟩, ⟨16, .phase⟩, ⟨17, .phase⟩, ⟨18, .phase⟩, ⟨19, .phase⟩], none⟩ _ ?_
    (try go_frame)
    refine wpAnyH_ready (rs := [25]) (by kernel_rfl) (by simp) ?_
    refine AllReadyH.cons (o := ⟨none, .store 223 (.tmp 36) (.tmp 31), 0, "attempt.go:73", #[⟨24, .data⟩, ⟨19, .data⟩, ⟨5, .chain⟩, ⟨0, .phase⟩, ⟨1, .phase⟩, ⟨2, .phase⟩, ⟨3, .phase⟩, ⟨4, .phase⟩, ⟨5, .phase⟩, ⟨6, .phase⟩, ⟨7, .phase⟩, ⟨8, .phase⟩, ⟨9, .phase⟩, ⟨10, .phase⟩, ⟨11, .phase⟩, ⟨12, .phase⟩, ⟨13, .phase⟩, ⟨14, .phase⟩, ⟨15, .phase⟩, ⟨16, .phase⟩, ⟨17, .phase⟩, ⟨18, .phase⟩, ⟨19, .phase⟩], none⟩) (by rfl) (fun K hK => ?_) AllReadyH.nil
    rw [if_pos (by rfl)]
    refine wp_store_one _ _ _ rfl L.g (t * 28 + 16) (.pointer (some ⟨wc.heap.size, 0, none⟩)) rfl rfl rfl rfl hHeld.2.2.2 (by kernel_rfl) ?_
    refine hK.out _ _ ?_ (fun hHeld => ?_)
    · exact ⟨cell_kept hHeld.1 (by first | exact .inr (by dsimp only; omega) | exact .inl (by assumption) | exact .inl (Ne.symm (by assumption))), cell_kept hHeld.2.1 (by first | exact .inr (by dsimp only; omega) | exact .inl (by assumption) | exact .inl (Ne.symm (by assumption))), cell_kept hHeld.2.2.1 (by first | exact .inr (by dsimp only; omega) | exact .inl (by assumption) | exact .inl (Ne.symm (by assumption))), there_set hHeld.2.2.2 _ rfl _⟩
    clear hK K
    (try go_frame)
    refine wpAnyH_done (by kernel_rfl) ?_ _
    clear hHeld
    rw [hwp.out]
    generalize hW3 : World.drew _ = W3
    have hb3 : Below wc.heap.size wc W3 := by rw [← hW3]; exact Below.drew (below_alloc _ _)
    have hrow : Row W3 wc.heap.size 306 [.int .i64 (((E.th t).stamp + 1 : Nat) : Int), .slice (some ⟨gp, 0, none⟩) pl pc, .pointer (some ⟨bf, 0, none⟩)] := by rw [← hW3]; exact Row.new wc [_, _, _] _
    have HF := hide (And.intro hb3 hrow)
    clear hW3 hb3 hrow
    go_wp2
    exact bodyPost_end (v := .tuple #[]) (by simp [results, Tryz.results356, go_sem]) rfl ⟨rfl, close_fin ht HL.out HF.out.1 HF.out.2 HP.out.1 HP.out.2 HRV.out.1 HRV.out.2.1 HRV.out.2.2 HX.out HC.out.1 HC.out.2.1⟩
end
end Go.Proofs.YtefjhnhdagolhaaGreat.tree
