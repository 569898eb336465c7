import Derived.Test.YtefjhnhdagolhaaGreatQ34
import Derived.Test.YtefjhnhdagolhaaGreatQ26
import Derived.Test.YtefjhnhdagolhaaGreatQ35
import Derived.Test.YtefjhnhdagolhaaGreatQ07
import Derived.Test.YtefjhnhdagolhaaGreatQ12
import Derived.Test.YtefjhnhdagolhaaGreatQ04
namespace Go.Proofs.YtefjhnhdagolhaaGreat.tree
open Go.RowKit
open M (upd upd_same upd_other Ver ETh ESt RSt RTh wds statusAt valueAt marks tagged num YI)
attribute [local go_sem ↓] Go.wp_at_zero Go.wp_at_succ
section
variable {σ : Type} {R : SR σ} {P : M.Plain σ} {L : Lt} {S : Nat → Prop} {E : ESt σ} {Y : RSt} {w : World} {t : Nat}
theorem numOf_num (bs : List (List Nat)) : numOf (num bs).reverse = bs.length := by
  rcases List.eq_nil_or_concat bs with rfl | ⟨l, p, rfl⟩
  · rfl
  · rw [List.concat_eq_append, M.num_append, List.reverse_append]
    simp [numOf]
theorem num_mem (bs : List (List Nat)) : ∀ x ∈ num bs, x.1 ≤ bs.length ∧ x.2 ∈ bs := by
  intro x hx
  unfold M.num at hx
  obtain ⟨i, hi, e⟩ := List.mem_mapIdx.1 hx
  subst e
  exact ⟨by dsimp only; omega, List.getElem_mem hi⟩
def stOf (P : M.Plain σ) (Y : RSt) : σ := (M.replay P (fun k i => ((Y.th k).ops).getD i ⟨0, 0, 0⟩) Y.bs).st
theorem Both.cur (h : Both R P L S E Y w) : ∃ f, E.rst E.prec = some (⟨stOf P Y, num Y.bs⟩, f) := by
  obtain ⟨pb, nf, -, G, -⟩ := h.inv
  exact G.curS
theorem Both.mem (h : Both R P L S E Y w) : ∀ b ∈ Y.bs, ∀ k ∈ b, k < L.n := by
  obtain ⟨pb, nf, -, G, -⟩ := h.inv
  exact G.mem
theorem Both.newest (h : Both R P L S E Y w) (hN : Y.bs.length ≤ 1000000000) {W : World} (hb : Below w.heap.size w W) :
    Calls Tryz.prog 335 #[.pointer (some ⟨L.bS, 0, none⟩)] W fun e w' => ∃ q0 bB, e = .returned (.agg #[.pointer q0, .pointer (some ⟨bB, 0, none⟩)]) ∧ R.rep (fun k => S k ∧ ¬ L.own k) W (stOf P Y) [.pointer q0] ∧ BRep (fun k => S k ∧ ¬ L.own k) W (num Y.bs).reverse bB ∧ Below W.heap.size W w' := by
  obtain ⟨f, hf⟩ := h.cur
  exact newest_w (h.re.stay (fun k hk => hb.block k (h.re.lt k hk)) (fun _ hk => hk) (fun k hk => Nat.lt_of_lt_of_le (h.re.lt k hk) hb.size)) hf h.bnd.pr (by rw [h.pst]; exact hN) (by rw [h.pst]; exact numOf_num _)
set_option maxRecDepth 20000 in
set_option maxHeartbeats 2000000 in
theorem Order_b (h : Both R P L S E Y w) (hN : Y.bs.length ≤ 1000000000) (hA : Y.bs.flatten.length ≤ 1000000000000) :
    Calls Tryz.prog 327 #[.pointer (some ⟨L.bE, 0, none⟩)] w fun e w' => ∃ v, e = .returned v ∧ w'.ownsRow w.heap.size 81 3 v Y.order.length (markcs Y.order) ∧ Below w.heap.size w w' := by
  have c0 : w.cell? ⟨L.bE, 0, none⟩ = some (.pointer (some ⟨L.bS, 0, none⟩)) := h.re.eng.cell_of rfl
  have s0 : w.cell? ⟨L.bS, 0, none⟩ = some (.int .i64 (L.n : Int)) := h.re.sh.cell_of rfl
  have HNW := hide (fun (W : World) (hb : Below w.heap.size w W) => h.newest hN hb)
  have HTA := hide (show (tagged (num Y.bs)).length ≤ 1000000000000 by have := congrArg List.length (M.tagged_snd Y.bs); rw [List.length_map] at this; omega)
  have HOR := hide (fun (W : World) (bB : Nat) (hc : W.cell? ⟨L.bS, 0, none⟩ = some (.int .i64 (L.n : Int))) (hbr : BRep (fun k => S k ∧ ¬ L.own k) W (num Y.bs).reverse bB) => order_w (w := W) L.bS bB L.n (num Y.bs) hc h.re.ok.n64 hbr (fun x hx k hk => h.mem x.2 (num_mem Y.bs x hx).2 k hk) (fun x hx => Nat.le_trans (num_mem Y.bs x hx).1 hN) (by rw [M.num_len]; exact hN) HTA.out)
  have hfl : ∀ q0 bB W, (Instr.field 267 (.agg #[.pointer q0, .pointer (some ⟨bB, 0, none⟩)]) 1).run Tryz.prog W = .ok (.pointer (some ⟨bB, 0, none⟩)) W := fun _ _ _ => by kernel_rfl
  have HLT := hide h.re.lt
  clear h hN hA
  go_enter Tryz.func327, Tryz.ntmps327
  go_wp2
  refine wp_region_held_drew (S := (fun w' => w'.cell? ⟨L.bE, 0, none⟩ = some (.pointer (some ⟨L.bS, 0, none⟩)) ∧ Below w.heap.size w w')) (by kernel_rfl) ?_ (fun hHeld => ?_)
  · exact ⟨c0, Below.drew (Below.refl _ _)⟩
  refine tk1 0 ⟨some 3, .move (.tmp 0), 195, "engine.go:75", #[], none⟩ _ ?_
  (try go_frame)
  refine tk1 1 ⟨some 4, .nilCheck (.tmp 3), 0, "engine.go:75", #[⟨0, .data⟩], none⟩ _ ?_
  (try go_frame)
  refine tk1 2 ⟨some 5, .fieldAddr 265 (.tmp 4) 0, 0, "engine.go:75", #[⟨1, .data⟩], none⟩ _ ?_
  (try go_frame)
  refine tk1 3 ⟨some 6, .load 261 (.tmp 5), 261, "engine.go:75", #[⟨2, .data⟩], none⟩ _ ?_
  (try go_frame)
  refine tk1 4 ⟨some 7, .move (.tmp 0), 195, "engine.go:75", #[], none⟩ _ ?_
  (try go_frame)
  refine tk1 5 ⟨some 8, .nilCheck (.tmp 7), 0, "engine.go:75", #[⟨4, .data⟩], none⟩ _ ?_
  (try go_frame)
  refine tk1 6 ⟨some 9, .fieldAddr 265 (.tmp 8) 0, 0, "engine.go:75", #[⟨5, .data⟩], none⟩ _ ?_
  (try go_frame)
  refine tk1 7 ⟨some 10, .load 261 (.tmp 9), 261, "engine.go:75", #[⟨6, .data⟩], none⟩ _ ?_
  (try go_frame)
  refine wpAnyH_ready (rs := [8]) (by kernel_rfl) (by simp) ?_
  refine AllReadyH.cons (o := ⟨some 11, .call ⟨.value (.func 335), #[.tmp 10], #[261]⟩, 267, "engine.go:75", #[⟨7, .data⟩], none⟩) (by rfl) (fun K hK => ?_) AllReadyH.nil
  go_simp
  refine (HNW.out _ hHeld.2).mono ?_
  rintro e w2 ⟨q0, bB, rfl, -, hbr2, hb2⟩
  have HBR := hide (BRep.stay (I' := fun k => S k ∧ ¬ L.own k) (w' := w2) (fun k hk hl => ⟨hk, hb2.block k hl⟩) (fun k hk => Nat.lt_of_lt_of_le (HLT.out k hk.1) hHeld.2.size) _ _ hbr2)
  clear hbr2
  go_wp2_with fail
  refine hK.out _ _ ?_ (fun hHeld => ?_)
  · exact ⟨cell_later hb2 hHeld.1, Below.next hHeld.2 hb2 hHeld.2.size⟩
  clear hK K
  (try go_frame)
  refine tk1 9 ⟨some 12, .field 267 (.tmp 11) 1, 223, "engine.go:75", #[⟨8, .data⟩], none⟩ _ ?_
  (try go_frame)
  refine wpAnyH_ready (rs := [10]) (by kernel_rfl) (by simp) ?_
  refine AllReadyH.cons (o := ⟨some 13, .call ⟨.value (.func 334), #[.tmp 6, .tmp 12], #[261, 223]⟩, 43, "engine.go:75", #[⟨3, .data⟩, ⟨9, .data⟩, ⟨8, .chain⟩], none⟩) (by rfl) (fun K hK => ?_) AllReadyH.nil
  go_simp
  refine (HOR.out _ _ (cell_later hHeld.2 s0) HBR.out).mono ?_
  rintro e w3 ⟨v, rfl, hO3, hb3⟩
  have HO3 := hide (owns_base hO3 hHeld.2.size)
  clear hO3
  go_wp2_with fail
  refine hK.out _ _ ?_ (fun hHeld => ?_)
  · exact ⟨cell_later hb3 hHeld.1, Below.next hHeld.2 hb3 hHeld.2.size⟩
  clear hK K
  (try go_frame)
  refine tk1 11 ⟨some 2, .assign (.tmp 13), 43, "engine.go:75", #[⟨10, .data⟩, ⟨10, .chain⟩, ⟨0, .phase⟩, ⟨1, .phase⟩, ⟨2, .phase⟩, ⟨3, .phase⟩, ⟨4, .phase⟩, ⟨5, .phase⟩, ⟨6, .phase⟩, ⟨7, .phase⟩, ⟨8, .phase⟩, ⟨9, .phase⟩, ⟨10, .phase⟩], none⟩ _ ?_
  (try go_frame)
  refine wpAnyH_done (by kernel_rfl) ?_ _
  (try go_wp2_with fail)
  go_ret
  exact ⟨_, rfl, HO3.out, hHeld.2⟩
structure TeOk (R : SR σ) (L : Lt) (tell : σ → List Int) (fT : Nat) (rv : Value) : Prop where
  m : ∀ W, (method 553 L.oT L.ov "Tell").run Tryz.prog W = .ok (fT, rv) W
  c : ∀ (s : Value) (W : World), (callFunc fT #[rv, s]).run Tryz.prog W = .ok (.enter fT #[rv, s]) W
  f : ∀ (I : Nat → Prop) (W : World) (s : σ) q0, R.rep I W s [.pointer q0] → R.sz s ≤ 1000000000000 → (∀ k, I k → k < W.heap.size) → Calls Tryz.prog fT #[rv, .pointer q0] W fun e w' => ∃ v, e = .returned v ∧ w'.ownsRow W.heap.size 3 1 v (tell s).length (ints (tell s)) ∧ Below W.heap.size W w'
set_option maxRecDepth 20000 in
set_option maxHeartbeats 2000000 in
theorem State_b {tell : σ → List Int} {fT : Nat} {rv : Value} (hT : TeOk R L tell fT rv) (hZ : M.Grows R.sz P) (h : Both R P L S E Y w) (hN : Y.bs.length ≤ 1000000000) (hF : Y.bs.flatten.length ≤ 100000000000) :
    Calls Tryz.prog 328 #[.pointer (some ⟨L.bE, 0, none⟩)] w fun e w' => ∃ v, e = .returned v ∧ w'.ownsRow w.heap.size 3 1 v (tell (stOf P Y)).length (ints (tell (stOf P Y))) ∧ Below w.heap.size w w' := by
  have c0 : w.cell? ⟨L.bE, 0, none⟩ = some (.pointer (some ⟨L.bS, 0, none⟩)) := h.re.eng.cell_of rfl
  have c1 : w.cell? ⟨L.bS, 1, none⟩ = some (.iface L.oT L.ov) := h.re.sh.cell_of rfl
  have HNW := hide (fun (W : World) (hb : Below w.heap.size w W) => h.newest hN hb)
  have hfl : ∀ q0 bB W, (Instr.field 267 (.agg #[.pointer q0, .pointer (some ⟨bB, 0, none⟩)]) 0).run Tryz.prog W = .ok (.pointer q0) W := fun _ _ _ => by kernel_rfl
  have hm := hT.m
  have hcf := hT.c
  have HT := hide hT
  have HLT := hide h.re.lt
  have hsz : R.sz (stOf P Y) ≤ 1000000000000 := by have := M.replay_sz hZ (fun k i => ((Y.th k).ops).getD i ⟨0, 0, 0⟩) Y.bs; show R.sz (M.replay P _ Y.bs).st ≤ _; omega
  clear h hN hT hZ hF
  go_enter Tryz.func328, Tryz.ntmps328
  go_wp2
  refine wp_region_held_drew (S := (fun w' => w'.cell? ⟨L.bE, 0, none⟩ = some (.pointer (some ⟨L.bS, 0, none⟩)) ∧ w'.cell? ⟨L.bS, 1, none⟩ = some (.iface L.oT L.ov) ∧ Below w.heap.size w w')) (by kernel_rfl) ?_ (fun hHeld => ?_)
  · exact ⟨c0, c1, Below.drew (Below.refl _ _)⟩
  refine tk1 0 ⟨some 3, .move (.tmp 0), 195, "engine.go:78", #[], none⟩ _ ?_
  (try go_frame)
  refine tk1 1 ⟨some 4, .nilCheck (.tmp 3), 0, "engine.go:78", #[⟨0, .data⟩], none⟩ _ ?_
  (try go_frame)
  refine tk1 2 ⟨some 5, .fieldAddr 265 (.tmp 4) 0, 0, "engine.go:78", #[⟨1, .data⟩], none⟩ _ ?_
  (try go_frame)
  refine tk1 3 ⟨some 6, .load 261 (.tmp 5), 261, "engine.go:78", #[⟨2, .data⟩], none⟩ _ ?_
  (try go_frame)
  refine tk1 4 ⟨some 7, .nilCheck (.tmp 6), 0, "engine.go:78", #[⟨3, .data⟩], none⟩ _ ?_
  (try go_frame)
  refine tk1 5 ⟨some 8, .fieldAddr 336 (.tmp 7) 1, 0, "engine.go:78", #[⟨4, .data⟩], none⟩ _ ?_
  (try go_frame)
  refine tk1 6 ⟨some 9, .load 194 (.tmp 8), 194, "engine.go:78", #[⟨5, .data⟩], none⟩ _ ?_
  (try go_frame)
  refine tk1 7 ⟨some 10, .move (.tmp 0), 195, "engine.go:78", #[], none⟩ _ ?_
  (try go_frame)
  refine tk1 8 ⟨some 11, .nilCheck (.tmp 10), 0, "engine.go:78", #[⟨7, .data⟩], none⟩ _ ?_
  (try go_frame)
  refine tk1 9 ⟨some 12, .fieldAddr 265 (.tmp 11) 0, 0, "engine.go:78", #[⟨8, .data⟩], none⟩ _ ?_
  (try go_frame)
  refine tk1 10 ⟨some 13, .load 261 (.tmp 12), 261, "engine.go:78", #[⟨9, .data⟩], none⟩ _ ?_
  (try go_frame)
  refine tk1 13 ⟨some 16, .nilCheck (.tmp 9), 194, "engine.go:78", #[⟨6, .data⟩], none⟩ _ ?_
  (try go_frame)
  refine tk1 14 ⟨some 17, .move (.tmp 9), 194, "engine.go:78", #[⟨6, .data⟩, ⟨13, .data⟩], none⟩ _ ?_
  (try go_frame)
  refine wpAnyH_ready (rs := [11]) (by kernel_rfl) (by simp) ?_
  refine AllReadyH.cons (o := ⟨some 14, .call ⟨.value (.func 335), #[.tmp 13], #[261]⟩, 267, "engine.go:78", #[⟨10, .data⟩], none⟩) (by rfl) (fun K hK => ?_) AllReadyH.nil
  go_simp
  refine (HNW.out _ hHeld.2.2).mono ?_
  rintro e w2 ⟨q0, bB, rfl, hrp2, -, hb2⟩
  have HRP := hide (R.stay (I' := fun k => S k ∧ ¬ L.own k) (w' := w2) (fun k hk hl => ⟨hk, hb2.block k hl⟩) hrp2)
  clear hrp2
  go_wp2_with fail
  refine hK.out _ _ ?_ (fun hHeld => ?_)
  · exact ⟨cell_later hb2 hHeld.1, cell_later hb2 hHeld.2.1, Below.next hHeld.2.2 hb2 hHeld.2.2.size⟩
  clear hK K
  (try go_frame)
  refine tk1 12 ⟨some 15, .field 267 (.tmp 14) 0, 149, "engine.go:78", #[⟨11, .data⟩], none⟩ _ ?_
  (try go_frame)
  refine wpAnyH_ready (rs := [15]) (by kernel_rfl) (by simp) ?_
  refine AllReadyH.cons (o := ⟨some 18, .call ⟨.invoke (.tmp 17) "Tell", #[.tmp 15], #[149]⟩, 22, "engine.go:78", #[⟨14, .data⟩, ⟨12, .data⟩, ⟨11, .chain⟩], none⟩) (by rfl) (fun K hK => ?_) AllReadyH.nil
  go_simp
  refine (HT.out.f _ _ (stOf P Y) q0 HRP.out hsz (fun k hk => Nat.lt_of_lt_of_le (HLT.out k hk.1) hHeld.2.2.size)).mono ?_
  rintro e w3 ⟨v, rfl, ho3, hb3⟩
  have HO3 := hide (owns_base ho3 hHeld.2.2.size)
  clear ho3
  go_wp2_with fail
  refine hK.out _ _ ?_ (fun hHeld => ?_)
  · exact ⟨cell_later hb3 hHeld.1, cell_later hb3 hHeld.2.1, Below.next hHeld.2.2 hb3 hHeld.2.2.size⟩
  clear hK K
  (try go_frame)
  refine tk1 16 ⟨some 2, .assign (.tmp 18), 22, "engine.go:78", #[⟨15, .data⟩, ⟨15, .chain⟩, ⟨0, .phase⟩, ⟨1, .phase⟩, ⟨2, .phase⟩, ⟨3, .phase⟩, ⟨4, .phase⟩, ⟨5, .phase⟩, ⟨6, .phase⟩, ⟨7, .phase⟩, ⟨8, .phase⟩, ⟨9, .phase⟩, ⟨10, .phase⟩, ⟨11, .phase⟩, ⟨12, .phase⟩, ⟨13, .phase⟩, ⟨14, .phase⟩, ⟨15, .phase⟩], none⟩ _ ?_
  (try go_frame)
  refine wpAnyH_done (by kernel_rfl) ?_ _
  (try go_wp2_with fail)
  go_ret
  exact ⟨v, rfl, HO3.out, hHeld.2.2⟩
def bndI (n cap : Nat) : Int := 4 + 2 * ((cap : Int) + 3 + 2 * (((n : Int) + 15) / 16 + 2 * (n : Int) + 1) + ((n : Int) + 15) / 16 + 3 * (n : Int)) + 3
set_option maxRecDepth 20000 in
set_option maxHeartbeats 1000000 in
theorem Bound_b (h : Both R P L S E Y w) :
    Calls Tryz.prog 325 #[.pointer (some ⟨L.bE, 0, none⟩)] w fun e w' => e = .returned (.int .i64 (bndI L.n L.cap)) ∧ Below w.heap.size w w' := by
  have c0 : w.cell? ⟨L.bE, 0, none⟩ = some (.pointer (some ⟨L.bS, 0, none⟩)) := h.re.eng.cell_of rfl
  have c2 : w.cell? ⟨L.bE, 2, none⟩ = some (.int .i64 (L.cap : Int)) := h.re.eng.cell_of rfl
  have cs : w.cell? ⟨L.bS, 0, none⟩ = some (.int .i64 (L.n : Int)) := h.re.sh.cell_of rfl
  have hn1 := h.re.ok.n1
  have hn64 := h.re.ok.n64
  have hc64 := h.re.ok.c64
  clear h
  go_enter Tryz.func325, Tryz.ntmps325
  go_wp2
  generalize hW0 : World.alloc w _ = W0
  have hb0 : Below w.heap.size w W0 := by rw [← hW0]; exact below_alloc w _
  have d2 : W0.cell? ⟨L.bE, 2, none⟩ = some (.int .i64 (L.cap : Int)) := cell_later hb0 c2
  have dl : W0.cell? ⟨w.heap.size, 0, none⟩ = some (.int .i64 (L.n : Int)) := by rw [← hW0]; exact (Row.new w [_] 287).cell_of rfl
  have hw1 : IntKind.i64.wrap ((L.cap : Int) + 3) = (L.cap : Int) + 3 := wrapi _ (by omega) (by omega)
  have hw2 : IntKind.i64.wrap (3 * (L.n : Int)) = 3 * (L.n : Int) := wrapi _ (by omega) (by omega)
  clear hW0 c0 c2 cs
  refine wp_region_held_drew (S := (fun w' => w'.cell? ⟨L.bE, 2, none⟩ = some (.int .i64 (L.cap : Int)) ∧ w'.cell? ⟨w.heap.size, 0, none⟩ = some (.int .i64 (L.n : Int)) ∧ Below w.heap.size w w')) (by kernel_rfl) ?_ (fun hHeld => ?_)
  · exact ⟨d2, dl, hb0.drew⟩
  refine tk1 0 ⟨some 12, .move (.tmp 0), 195, "engine.go:83", #[], none⟩ _ ?_
  (try go_frame)
  refine tk1 1 ⟨some 13, .nilCheck (.tmp 12), 0, "engine.go:83", #[⟨0, .data⟩], none⟩ _ ?_
  (try go_frame)
  refine tk1 2 ⟨some 14, .fieldAddr 265 (.tmp 13) 2, 0, "engine.go:83", #[⟨1, .data⟩], none⟩ _ ?_
  (try go_frame)
  refine tk1 3 ⟨some 15, .load 3 (.tmp 14), 3, "engine.go:83", #[⟨2, .data⟩], none⟩ _ ?_
  (try go_frame)
  refine tk1 4 ⟨some 16, .binOp .add 3 (.tmp 15) (.const (.int .i64 3)) 3, 3, "engine.go:83", #[⟨3, .data⟩], none⟩ _ ?_
  (try go_frame)
  refine tk1 5 ⟨some 17, .load 287 (.tmp 3), 287, "engine.go:83", #[], none⟩ _ ?_
  (try go_frame)
  refine tk1 9 ⟨some 21, .load 287 (.tmp 3), 287, "engine.go:83", #[], none⟩ _ ?_
  (try go_frame)
  refine tk1 12 ⟨some 24, .fieldAddr 287 (.tmp 3) 0, 0, "engine.go:83", #[], none⟩ _ ?_
  (try go_frame)
  refine tk1 13 ⟨some 25, .load 3 (.tmp 24), 3, "engine.go:83", #[⟨12, .data⟩], none⟩ _ ?_
  (try go_frame)
  refine tk1 14 ⟨some 26, .binOp .mul 3 (.const (.int .i64 3)) (.tmp 25) 3, 3, "engine.go:83", #[⟨13, .data⟩], none⟩ _ ?_
  (try go_frame)
  refine wpAnyH_ready (rs := [6]) (by kernel_rfl) (by simp) ?_
  refine AllReadyH.cons (o := ⟨some 18, .call ⟨.value (.func 199), #[.tmp 17], #[287]⟩, 3, "engine.go:83", #[⟨5, .data⟩], none⟩) (by rfl) (fun K hK => ?_) AllReadyH.nil
  go_simp
  refine (parts_any (L.n : Int) _ (by omega) (by omega)).mono ?_
  rintro e w2 ⟨rfl, hb2⟩
  go_wp2_with fail
  refine hK.out _ _ ?_ (fun hHeld => ?_)
  · exact ⟨cell_later hb2 hHeld.1, cell_later hb2 hHeld.2.1, Below.next hHeld.2.2 hb2 hHeld.2.2.size⟩
  clear hK K
  (try go_frame)
  refine tk1 7 ⟨some 19, .binOp .mul 3 (.const (.int .i64 2)) (.tmp 18) 3, 3, "engine.go:83", #[⟨6, .data⟩], none⟩ _ ?_
  (try go_frame)
  refine tk1 8 ⟨some 20, .binOp .add 3 (.tmp 16) (.tmp 19) 3, 3, "engine.go:83", #[⟨4, .data⟩, ⟨7, .data⟩], none⟩ _ ?_
  (try go_frame)
  refine wpAnyH_ready (rs := [10]) (by kernel_rfl) (by simp) ?_
  refine AllReadyH.cons (o := ⟨some 22, .call ⟨.value (.func 156), #[.tmp 21], #[287]⟩, 3, "engine.go:83", #[⟨9, .data⟩, ⟨6, .chain⟩], none⟩) (by rfl) (fun K hK => ?_) AllReadyH.nil
  go_simp
  refine (toggleWords_any (L.n : Int) _ (by omega) (by omega)).mono ?_
  rintro e w3 ⟨rfl, hb3⟩
  go_wp2_with fail
  refine hK.out _ _ ?_ (fun hHeld => ?_)
  · exact ⟨cell_later hb3 hHeld.1, cell_later hb3 hHeld.2.1, Below.next hHeld.2.2 hb3 hHeld.2.2.size⟩
  clear hK K
  (try go_frame)
  refine tk1 11 ⟨some 23, .binOp .add 3 (.tmp 20) (.tmp 22) 3, 3, "engine.go:83", #[⟨8, .data⟩, ⟨10, .data⟩], none⟩ _ ?_
  (try go_frame)
  refine tk1 15 ⟨some 27, .binOp .add 3 (.tmp 23) (.tmp 26) 3, 3, "engine.go:83", #[⟨11, .data⟩, ⟨14, .data⟩], none⟩ _ ?_
  (try go_frame)
  refine tk1 16 ⟨some 4, .assign (.tmp 27), 3, "engine.go:83", #[⟨15, .data⟩, ⟨10, .chain⟩, ⟨0, .phase⟩, ⟨1, .phase⟩, ⟨2, .phase⟩, ⟨3, .phase⟩, ⟨4, .phase⟩, ⟨5, .phase⟩, ⟨6, .phase⟩, ⟨7, .phase⟩, ⟨8, .phase⟩, ⟨9, .phase⟩, ⟨10, .phase⟩, ⟨11, .phase⟩, ⟨12, .phase⟩, ⟨13, .phase⟩, ⟨14, .phase⟩, ⟨15, .phase⟩], none⟩ _ ?_
  (try go_frame)
  refine wpAnyH_done (by kernel_rfl) ?_ _
  (try go_wp2_with fail)
  go_ret
  exact ⟨rfl, hHeld.2.2⟩
end
end Go.Proofs.YtefjhnhdagolhaaGreat.tree
namespace Go.Proofs.YtefjhnhdagolhaaGreat.tree
open Go.RowKit
open M (upd upd_same upd_other Ver ETh ESt RSt RTh wds statusAt valueAt marks tagged num YI)
attribute [local go_sem ↓] Go.wp_at_zero Go.wp_at_succ
section
variable {σ : Type} {R : SR σ} {P : M.Plain σ} {L : Lt} {S S' : Nat → Prop} {E : ESt σ} {Y Y' Y'' : RSt} {w w1 w2 : World} {t K : Nat}
theorem Both.yi (h : Both R P L S E Y w) : YI P L.n L.cap Y := ⟨E, h.inv⟩
theorem Both.stay (h : Both R P L S E Y w) (hk : ∀ k, S k → w1.heap[k]? = w.heap[k]?) (hS : ∀ k, S k → S' k) (hlt : ∀ k, S' k → k < w1.heap.size) : Both R P L S' E Y w1 := ⟨h.re.stay hk hS hlt, h.inv, h.bnd, h.szs⟩
theorem Goes.next (h : Goes R P L S w Y' w1) (h' : Goes R P L (grown S w w1) w1 Y'' w2) : Goes R P L S w Y'' w2 := by
  obtain ⟨E1, b1⟩ := h.ex
  obtain ⟨E2, b2⟩ := h'.ex
  exact Goes.left (Left.next ⟨b1.re, h.fr⟩ ⟨b2.re, h'.fr⟩) b2.inv b2.bnd b2.szs
theorem Goes.past2 (h : Goes R P L S w Y' w1) {B : Nat} (hk : ∀ k, k ≠ B → k < w1.heap.size → w2.heap[k]? = w1.heap[k]?) (ho : w2.os = w1.os ∧ w2.tape = w1.tape ∧ w2.output = w1.output) (hz : w1.heap.size ≤ w2.heap.size) (hBS : ¬ S B) (hB : B < w.heap.size) :
    (∃ E', Both R P L (grown S w w2) E' Y' w2) ∧ w2.os = w.os ∧ w2.tape = w.tape ∧ w2.output = w.output ∧ w.heap.size ≤ w2.heap.size ∧ ∀ k, k < w.heap.size → k ≠ B → ¬ L.own k → w2.heap[k]? = w.heap[k]? := by
  obtain ⟨E1, b1⟩ := h.ex
  refine ⟨⟨E1, b1.stay (fun k hS => hk k (fun e => ?_) (b1.re.lt k hS)) (fun k hS => ?_) (fun k hS => ?_)⟩, ho.1.trans h.fr.os, ho.2.1.trans h.fr.tape, ho.2.2.trans h.fr.output, Nat.le_trans h.fr.size hz, fun k hkk hne ho' => (hk k hne (Nat.lt_of_lt_of_le hkk h.fr.size)).trans (h.fr.block k hkk ho')⟩
  · subst e
    rcases hS with hS | hS
    · exact hBS hS
    · omega
  · rcases hS with hS | hS
    · exact .inl hS
    · exact .inr ⟨hS.1, Nat.lt_of_lt_of_le hS.2 hz⟩
  · rcases hS with hS | hS
    · exact Nat.lt_of_lt_of_le (b1.re.lt k (.inl hS)) hz
    · exact hS.2
theorem Goes.made {W : World} {B : Nat} (h : (∃ E', Both R P L (grown S W w2) E' Y' w2) ∧ w2.os = W.os ∧ w2.tape = W.tape ∧ w2.output = W.output ∧ W.heap.size ≤ w2.heap.size ∧ ∀ k, k < W.heap.size → k ≠ B → ¬ L.own k → w2.heap[k]? = W.heap[k]?) (hB : w.heap.size ≤ B) (hS : ∀ k, S k → k < w.heap.size) (hb : Below w.heap.size w W) : Goes R P L S w Y' w2 := by
  obtain ⟨⟨E1, b1⟩, h1, h2, h3, h4, h5⟩ := h
  have hz := hb.size
  refine ⟨⟨E1, b1.stay (fun _ _ => rfl) (fun k hk => ?_) (fun k hk => ?_)⟩, ⟨h1.trans hb.os, h2.trans hb.tape, h3.trans hb.output, Nat.le_trans hb.size h4, fun k hk ho => (h5 k (by omega) (by omega) ho).trans (hb.block k hk)⟩⟩
  · rcases hk with hk | hk
    · exact .inl hk
    · exact .inr ⟨Nat.le_trans hb.size hk.1, hk.2⟩
  · rcases hk with hk | hk
    · have := hS k hk; omega
    · exact hk.2
set_option maxRecDepth 20000 in
set_option maxHeartbeats 1000000 in
theorem Do_err (x er : Int) (o : M.Op) (her : er ≠ 0) (hS : ∀ k, S k → k < w.heap.size)
    (hc : ∀ W, Below w.heap.size w W → Calls Tryz.prog 324 #[.pointer (some ⟨L.bE, 0, none⟩), .int .i64 x, .agg #[.int .i64 o.c, .int .i64 o.a, .int .i64 o.b]] W fun e w' => e = .returned (.int .i64 er) ∧ Goes R P L S W Y w') (hown : ∀ k, L.own k → S k) :
    Calls Tryz.prog 326 #[.pointer (some ⟨L.bE, 0, none⟩), .int .i64 x, .agg #[.int .i64 o.c, .int .i64 o.a, .int .i64 o.b]] w fun e w' => e = .returned (.tuple #[.agg #[.int .i64 0, .int .i64 0], .int .i64 er]) ∧ Goes R P L S w Y w' := by
  have her' : (er == 0) = false := by simp [her]
  go_enter Tryz.func326, Tryz.ntmps326
  go_upto_region 1 with fail
  generalize hW : World.alloc (World.alloc w _) _ = W
  have hb : Below w.heap.size w W := by rw [← hW]; exact ((Below.refl _ _).alloc (Nat.le_refl _) _).alloc (by simp) _
  have r0 : Row W w.heap.size 36 [.int .i64 o.c, .int .i64 o.a, .int .i64 o.b] := by rw [← hW]; exact (Row.new' rfl).alloc _
  have r1 : Row W (w.heap.size + 1) 94 [.int .i64 0, .int .i64 0] := by rw [← hW]; exact Row.new' (by simp)
  have x0 := r0.cell_of (i := 0) rfl
  have x1 := r0.cell_of (i := 1) rfl
  have x2 := r0.cell_of (i := 2) rfl
  have hzW : w.heap.size + 1 < W.heap.size := r1.lt
  have HR1 := hide r1
  have HB := hide hb
  have HC := hide (hc W hb)
  have hnS : ¬ S (w.heap.size + 1) := fun c => by have := hS _ c; omega
  have hnO : ¬ L.own (w.heap.size + 1) := fun c => hnS (hown _ c)
  clear hW r0 r1 hb hc
  go_wp2_with fail
  refine HC.out.mono ?_
  rintro e w3 ⟨rfl, hg3⟩
  have r3 : Row w3 (w.heap.size + 1) 94 [.int .i64 0, .int .i64 0] := HR1.out.of_block (hg3.fr.block _ HR1.out.lt hnO)
  have y0 := r3.cell_of (i := 0) rfl
  have y1 := r3.cell_of (i := 1) rfl
  have z0 := r3.frozen 0
  have z1 := r3.frozen 1
  have HRo := hide (r3.set 0 (.int .i64 0) |>.set 1 (.int .i64 0))
  have HG0 := hide hg3
  clear hg3 r3
  go_wp2_with fail
  have q1 := HRo.out.cell_of (i := 0) rfl
  have q2 := HRo.out.cell_of (i := 1) rfl
  refine bodyPost_ret (v := .tuple #[.agg #[.int .i64 0, .int .i64 0], .int .i64 er]) (by simp [results, Tryz.results326, go_sem, q1, q2]) rfl ⟨rfl, ?_⟩
  refine Goes.made (W := W) (B := w.heap.size + 1) (Goes.past2 HG0.out (B := w.heap.size + 1) (fun k hk _ => ?_) ⟨rfl, rfl, rfl⟩ (by simp [World.setCell]) hnS (by omega)) (by omega) hS HB.out
  rw [Below.heap_setCell _ _ _ k hk, Below.heap_setCell _ _ _ k hk]
def DoE (R : SR σ) (P : M.Plain σ) (L : Lt) (S : Nat → Prop) (W : World) (D : DL) (t K : Nat) (Y' : RSt) (g : Nat) (w' : World) : Prop := ∃ Yc, Going P D t K Y' g Yc ∧ Goes R P L S W Yc w'
set_option maxRecDepth 20000 in
set_option maxHeartbeats 2000000 in
theorem Do_idle {fA : Nat} {rv : Value} (hA : ApOk R P L fA rv) (h : Both R P L S E Y w) (D : DL) (hDn : D.n = L.n) (hDc : D.cap = L.cap) (hK : Lim D K Y) (hK9 : K + 6000 ≤ 1000000000) (ht : t < L.n) (hp : (Y.th t).part = 0) (o : M.Op) :
    Calls Tryz.prog 326 #[.pointer (some ⟨L.bE, 0, none⟩), .int .i64 (t : Int), .agg #[.int .i64 o.c, .int .i64 o.a, .int .i64 o.b]] w fun e w' => e = .returned (.tuple #[.agg #[.int .i64 (ansD P (M.fin L.n L.cap t (M.rbegin Y t o)) t).s, .int .i64 (ansD P (M.fin L.n L.cap t (M.rbegin Y t o)) t).v], .int .i64 0]) ∧ Goes R P L S w (M.fin L.n L.cap t (M.rbegin Y t o)) w' := by
  have hn1 := h.re.ok.n1
  have hn64 := h.re.ok.n64
  have hc64 := h.re.ok.c64
  have hGo := Going.begin (L := D) (by rw [hDn, hDc]; exact h.yi) (by omega) (by omega) (by omega) hp hK o
  rw [hDn, hDc] at hGo
  have htD : t < D.n := by omega
  generalize hY1 : M.rbegin Y t o = Y1 at *
  generalize hY' : M.fin L.n L.cap t Y1 = Y' at *
  go_enter Tryz.func326, Tryz.ntmps326
  go_upto_region 1 with fail
  generalize hW : World.alloc (World.alloc w _) _ = W
  have hb : Below w.heap.size w W := by rw [← hW]; exact ((Below.refl _ _).alloc (Nat.le_refl _) _).alloc (by simp) _
  have r0 : Row W w.heap.size 36 [.int .i64 o.c, .int .i64 o.a, .int .i64 o.b] := by rw [← hW]; exact (Row.new' rfl).alloc _
  have r1 : Row W (w.heap.size + 1) 94 [.int .i64 0, .int .i64 0] := by rw [← hW]; exact Row.new' (by simp)
  have x0 := r0.cell_of (i := 0) rfl
  have x1 := r0.cell_of (i := 1) rfl
  have x2 := r0.cell_of (i := 2) rfl
  have HB := hide hb
  have hW1 : Both R P L S E Y W := h.stay (fun k hS => hb.block k (h.re.lt k hS)) (fun _ hS => hS) (fun k hS => Nat.lt_of_lt_of_le (h.re.lt k hS) hb.size)
  have HBg := hide ((Begin_b hW1 o).2 t ht)
  rw [if_pos hp, if_pos hp, hY1] at HBg
  have hnS : ¬ S (w.heap.size + 1) := fun c => by have := h.re.lt _ c; omega
  have hnO : ¬ L.own (w.heap.size + 1) := fun c => hnS (h.re.ow _ c)
  have HSL := hide h.re.lt
  have HR1 := hide r1
  have HGo := hide hGo
  have HAp := hide hA
  have ht' : (t : Int) < (L.n : Int) := by omega
  have ht0 : (0 : Int) ≤ (t : Int) := by omega
  have hzW : w.heap.size + 1 < W.heap.size := r1.lt
  clear hW r0 r1 hb h hGo hY1 hY' hK hW1 hA hp
  go_wp2_with fail
  refine HBg.out.mono ?_
  rintro e w3 ⟨rfl, hg3⟩
  have HG3 := hide hg3
  clear hg3
  go_wp2_with fail
  go_loopg [] 5000 (fun g w' => DoE R P L S W D t (K + 1) Y' g w')
  case atStart => exact ⟨Y1, HGo.out, HG3.out⟩
  case round =>
    obtain ⟨Yc, hgc, hgo⟩ := hrel
    obtain ⟨Ec, hB⟩ := hgo.ex
    have hl : Lim D 1000000000 Yc := hgc.lim.mono (by have := hgc.gl; omega)
    have hid := hB.idle ht
    have c1 : wr.cell? ⟨L.bE, 1, none⟩ = some (.slice (some ⟨L.g, 0, none⟩) L.n L.gc) := hB.re.eng.cell_of rfl
    have HBu := hide (busy_w hB.re ht)
    by_cases hpc : (Yc.th t).part = 0
    · have hYe := hgc.end hpc
      subst hYe
      have hen : (Yc.th t).ended ≠ 0 := by
        rw [hgc.yi.ok.ide t htD hpc]
        exact fun c => hgc.ops (List.eq_nil_of_length_eq_zero c)
      have HAn := hide ((Answer_b hB).2 t ht)
      rw [if_neg (by simpa using hpc), if_neg hen, show ansOf P Yc t = ansD P Yc t from rfl] at HAn
      have HPH := hide (show decide ((Ec.th t).phase ≠ 0) = false by simpa using hid.mpr hpc)
      have hr : Row wr (w.heap.size + 1) 94 [.int .i64 0, .int .i64 0] := HR1.out.of_block (hgo.fr.block _ HR1.out.lt hnO)
      have HR := hide hr
      have HGo2 := hide hgo
      clear hgc hgo hB hl hid hpc hen hr HG3 HGo
      go_wp2_with fail
      refine HBu.out.mono ?_
      rintro e w4 ⟨rfl, rfl⟩
      rw [HPH.out]
      go_wp2_with fail
      refine HAn.out.mono ?_
      rintro e w5 ⟨rfl, hb5⟩
      have r5 := HR.out.old hb5
      have y0 := r5.cell_of (i := 0) rfl
      have y1 := r5.cell_of (i := 1) rfl
      have z0 := r5.frozen 0
      have z1 := r5.frozen 1
      have HRo := hide (r5.set 0 (.int .i64 (ansD P Yc t).s) |>.set 1 (.int .i64 (ansD P Yc t).v))
      have HB5 := hide hb5
      clear hb5 r5
      go_wp2_with fail
      have q1 := HRo.out.cell_of (i := 0) rfl
      have q2 := HRo.out.cell_of (i := 1) rfl
      refine bodyPost_ret (v := .tuple #[.agg #[.int .i64 (ansD P Yc t).s, .int .i64 (ansD P Yc t).v], .int .i64 0]) (by simp [results, Tryz.results326, go_sem, q1, q2]) rfl ⟨rfl, ?_⟩
      refine Goes.made (W := W) (B := w.heap.size + 1) (Goes.past2 HGo2.out (B := w.heap.size + 1) (fun k hk hkk => ?_) ⟨HB5.out.os, HB5.out.tape, HB5.out.output⟩ (by simp [World.setCell]; exact HB5.out.size) hnS (by omega)) (by omega) HSL.out HB.out
      rw [Below.heap_setCell _ _ _ k hk, Below.heap_setCell _ _ _ k hk]
      exact HB5.out.block k hkk
    · have hph : 1 ≤ (Ec.th t).phase := by have := mt hid.mp hpc; omega
      have HPH := hide (show decide ((Ec.th t).phase ≠ 0) = true by simp; omega)
      have hN : Yc.bs.length ≤ 1000000000 := hl.2
      have hCan := hB.can ht hN
      have h13 := hB.phase ht
      have HSt := hide (step_w HAp.out hB.re ht hCan (hB.sz8 ht hN (Nat.le_trans (hB.yi.all hn64 (fun t ht => hl.1 t (by omega))) (by omega))) hph h13)
      obtain ⟨s1, -⟩ := M.sim_step (Nat.lt_of_lt_of_le (by decide) hn1) hB.inv ht hpc
      have hst := hgc.step (by omega) htD hpc
      rw [hDn, hDc] at hst
      have hgk : 0 < gk := hst.1
      have HPo := hide (show ∀ w', Left R L (grown S W wr) wr (M.step P L.n L.cap Ec t) w' → DoE R P L S W D t (K + 1) Y' (gk - 1) w' from fun w' hd => ⟨_, hst.2, hgo.next (Goes.left hd s1 (hB.bnd.step ht (hB.spare ht)) (hB.szs.step HAp.out.z hB.inv ht))⟩)
      clear hgc hgo hB hl hid hpc hN hCan h13 s1 hst hph
      go_wp2_with fail
      refine HBu.out.mono ?_
      rintro e w4 ⟨rfl, rfl⟩
      rw [HPH.out]
      go_wp2_with fail
      refine HSt.out.mono ?_
      rintro e w5 ⟨rfl, hd5⟩
      have HP := hide (HPo.out w5 hd5)
      clear hd5
      go_wp2_with fail
      go_roundg (gk - 1)
      case measure => omega
      case rel => exact HP.out
theorem Do_b {fA : Nat} {rv : Value} (hA : ApOk R P L fA rv) (h : Both R P L S E Y w) (D : DL) (hDn : D.n = L.n) (hDc : D.cap = L.cap) (hK : Lim D K Y) (hK9 : K + 6000 ≤ 1000000000) (o : M.Op) :
    (∀ x : Int, ¬ (0 ≤ x ∧ x < L.n) → Calls Tryz.prog 326 #[.pointer (some ⟨L.bE, 0, none⟩), .int .i64 x, .agg #[.int .i64 o.c, .int .i64 o.a, .int .i64 o.b]] w fun e w' => e = .returned (.tuple #[.agg #[.int .i64 0, .int .i64 0], .int .i64 3]) ∧ Goes R P L S w Y w')
    ∧ ∀ t, t < L.n → Calls Tryz.prog 326 #[.pointer (some ⟨L.bE, 0, none⟩), .int .i64 (t : Int), .agg #[.int .i64 o.c, .int .i64 o.a, .int .i64 o.b]] w fun e w' => e = .returned (doW P L.n L.cap Y t o) ∧ Goes R P L S w (doY L.n L.cap Y t o) w' := by
  have st : ∀ W, Below w.heap.size w W → Both R P L S E Y W := fun W hb => h.stay (fun k hS => hb.block k (h.re.lt k hS)) (fun _ hS => hS) (fun k hS => Nat.lt_of_lt_of_le (h.re.lt k hS) hb.size)
  refine ⟨fun x hx => Do_err x 3 o (by decide) h.re.lt (fun W hb => (Begin_b (st W hb) o).1 x hx) h.re.ow, fun t ht => ?_⟩
  unfold doW doY
  by_cases hp : (Y.th t).part = 0
  · rw [if_neg (by simpa using hp), if_neg (by simpa using hp)]
    exact Do_idle hA h D hDn hDc hK hK9 ht hp o
  · rw [if_pos hp, if_pos hp]
    refine Do_err (t : Int) 4 o (by decide) h.re.lt (fun W hb => ?_) h.re.ow
    have := (Begin_b (st W hb) o).2 t ht
    rw [if_neg hp, if_neg hp] at this
    exact this
end
end Go.Proofs.YtefjhnhdagolhaaGreat.tree
namespace Go.Proofs.YtefjhnhdagolhaaGreat.tree
open Go.RowKit
open M (upd upd_same upd_other Ver ETh ESt RSt RTh wds statusAt valueAt marks tagged num YI)
section
variable {σ : Type} {R : SR σ} {P : M.Plain σ} {L : Lt}
theorem Goes.xgo {S : Nat → Prop} {w w' : World} {Y' : RSt} (hS : ∀ k, L.own k → S k) (h : Goes R P L S w Y' w') : XGo (fun S Y w => ∃ E, Both R P L S E Y w) S w Y' w' :=
  ⟨h.ex, ⟨h.fr.os, h.fr.tape, h.fr.output, h.fr.size, fun k hk hn => h.fr.block k hk (fun c => hn (hS k c))⟩⟩
theorem stOf_eq (P : M.Plain σ) (Y : RSt) : (rpAt P Y Y.order.length).st = stOf P Y := by rw [order_len, rpAt_all]; rfl
theorem xok {tell : σ → List Int} {fA : Nat} {rv : Value} (hA : ApOk R P L fA rv) {fT : Nat} {rt : Value} (hT : TeOk R L tell fT rt) (D : DL) (hDn : D.n = L.n) (hDc : D.cap = L.cap) :
    XOk P tell D 195 L.bE (fun S Y w => ∃ E, Both R P L S E Y w) 324 329 323 326 327 328 325 where
  mBe _ := by kernel_rfl
  mSt _ := by kernel_rfl
  mAn _ := by kernel_rfl
  mDo _ := by kernel_rfl
  mOr _ := by kernel_rfl
  mTe _ := by kernel_rfl
  mBo _ := by kernel_rfl
  cBe _ _ _ := by kernel_rfl
  cSt _ _ := by kernel_rfl
  cAn _ _ := by kernel_rfl
  cDo _ _ _ := by kernel_rfl
  cOr _ := by kernel_rfl
  cTe _ := by kernel_rfl
  cBo _ := by kernel_rfl
  lt S Y w h := by obtain ⟨E, h⟩ := h; exact h.re.lt
  stay S S' Y w w' h hk hS hlt := by obtain ⟨E, h⟩ := h; exact ⟨E, h.stay hk hS hlt⟩
  be S Y w x o h := by
    obtain ⟨E, h⟩ := h
    rw [hDn]
    unfold beE beY
    by_cases hx : inR L.n x
    · rw [if_pos hx, if_pos hx]
      obtain ⟨t, rfl, ht, e⟩ := nat_of hx
      rw [e]
      refine ((Begin_b h o).2 t ht).mono ?_
      rintro e w' ⟨rfl, hg⟩
      exact ⟨rfl, hg.xgo h.re.ow⟩
    · rw [if_neg hx, if_neg hx]
      refine ((Begin_b h o).1 x hx).mono ?_
      rintro e w' ⟨rfl, hg⟩
      exact ⟨rfl, hg.xgo h.re.ow⟩
  st S Y w x h hK := by
    obtain ⟨E, h⟩ := h
    have hN := hK.2
    have hF : Y.bs.flatten.length ≤ 100000000000 := Nat.le_trans (h.yi.all h.re.ok.n64 (B := 1000000000) (fun t ht => hK.1 t (by omega))) (by omega)
    rw [hDn, hDc]
    unfold stA stE stY
    by_cases hx : inR L.n x
    · rw [if_pos hx, if_pos hx, if_pos hx]
      obtain ⟨t, rfl, ht, e⟩ := nat_of hx
      rw [e]
      by_cases hp : (Y.th t).part = 0
      · rw [if_pos hp, if_pos hp, if_pos hp]
        refine ((Step_b hA h hN hF).2.1 t ht hp).mono ?_
        rintro e w' ⟨rfl, hg⟩
        exact ⟨rfl, hg.xgo h.re.ow⟩
      · rw [if_neg hp, if_neg hp, if_neg hp]
        refine ((Step_b hA h hN hF).2.2 t ht hp).mono ?_
        rintro e w' ⟨rfl, hg⟩
        exact ⟨rfl, hg.xgo h.re.ow⟩
    · rw [if_neg hx, if_neg hx, if_neg hx]
      refine ((Step_b hA h hN hF).1 x hx).mono ?_
      rintro e w' ⟨rfl, hg⟩
      exact ⟨rfl, hg.xgo h.re.ow⟩
  an S Y w x h := by
    obtain ⟨E, h⟩ := h
    rw [hDn]
    unfold anT
    by_cases hx : inR L.n x
    · rw [if_pos hx]
      obtain ⟨t, rfl, ht, e⟩ := nat_of hx
      rw [e, ← ansW_tri]
      exact (Answer_b h).2 t ht
    · rw [if_neg hx]; exact (Answer_b h).1 x hx
  dd S Y w x o K h hK hK9 := by
    obtain ⟨E, h⟩ := h
    rw [hDn, hDc]
    unfold doT doZ
    by_cases hx : inR L.n x
    · rw [if_pos hx, if_pos hx]
      obtain ⟨t, rfl, ht, e⟩ := nat_of hx
      rw [e, ← doW_tri]
      refine ((Do_b hA h D hDn hDc hK hK9 o).2 t ht).mono ?_
      rintro e w' ⟨rfl, hg⟩
      exact ⟨rfl, hg.xgo h.re.ow⟩
    · rw [if_neg hx, if_neg hx]
      refine ((Do_b hA h D hDn hDc hK hK9 o).1 x hx).mono ?_
      rintro e w' ⟨rfl, hg⟩
      exact ⟨rfl, hg.xgo h.re.ow⟩
  or S Y w h hK := by
    obtain ⟨E, h⟩ := h
    have := h.yi.all h.re.ok.n64 (B := 1000000000) (fun t ht => hK.1 t (by omega))
    exact Order_b h hK.2 (by omega)
  te S Y w h hK := by
    obtain ⟨E, h⟩ := h
    rw [stOf_eq]
    exact State_b hT hA.z h hK.2 (Nat.le_trans (h.yi.all h.re.ok.n64 (B := 1000000000) (fun t ht => hK.1 t (by omega))) (by omega))
  bo S Y w h := by
    obtain ⟨E, h⟩ := h
    rw [hDn, hDc]
    exact Bound_b h
end
end Go.Proofs.YtefjhnhdagolhaaGreat.tree
namespace Go.Proofs.YtefjhnhdagolhaaGreat.tree
open Go.RowKit
open M (upd upd_same upd_other Ver ETh ESt RSt RTh wds statusAt valueAt)
theorem zeros_fn {w : World} {b : Nat} {t : TypeId} {m : Nat} (h : Row w b t (zeros (.int .i64 0) m)) : Fn w b t m (fun _ => .int .i64 0) := by
  have e : zeros (.int .i64 0) m = (List.range m).map (fun _ => Value.int .i64 0) := by
    apply List.ext_getElem
    · simp [zeros]
    · intro i h1 h2; simp [zeros]
  unfold Fn
  rw [← e]
  exact h
theorem cur_fn {w : World} {g : Nat} {e : TypeId} {cur : Array Value} {m c : Nat} (h : w.heap[g]? = some (.cells cur e (0, 0))) (hs : cur.size = m * c) : Fn2 w g e m c (fun i j => (cur.toList[i * c + j]?).getD (.int .i64 0)) := by
  have q : cur.toList = (List.range (m * c)).map (fun k => (fun i j => (cur.toList[i * c + j]?).getD (Value.int .i64 0)) (k / c) (k % c)) := by
    apply List.ext_getElem
    · simp [hs]
    · intro i h1 h2
      have : i / c * c + i % c = i := Nat.div_add_mod' i c
      simp only [List.getElem_map, List.getElem_range, this]
      rw [List.getElem?_eq_getElem h1]
      rfl
  unfold Fn2 Fn Row
  rw [← q]
  simpa using h
theorem pool_fn {w : World} {b e rw n bE : Nat} {bW : Nat → Nat} (h : Row w b e ((poolAt (2 * n + 1) rw (2 * n + 1) bW).set 1 (.pointer (some ⟨bE, 0, none⟩)))) :
    Fn2 w b e (2 * n + 1) 2 (fun r j => if j = 0 then .slice (some ⟨bW r, 0, none⟩) rw rw else .pointer ((if r = 0 then some bE else none).map fun b => ⟨b, 0, none⟩)) := by
  have q : (poolAt (2 * n + 1) rw (2 * n + 1) bW).set 1 (.pointer (some ⟨bE, 0, none⟩)) = (List.range ((2 * n + 1) * 2)).map (fun k => (fun (r j : Nat) => if j = 0 then Value.slice (some ⟨bW r, 0, none⟩) rw rw else .pointer ((if r = 0 then some bE else none).map fun b => ⟨b, 0, none⟩)) (k / 2) (k % 2)) := by
    apply List.ext_getElem
    · simp [length_poolAt]; omega
    · intro i h1 h2
      have hi : i < (2 * n + 1) * 2 := by simpa using h2
      rw [List.getElem_set]
      simp only [List.getElem_map, List.getElem_range, poolAt]
      by_cases c1 : 1 = i
      · subst c1; simp
      · rw [if_neg c1]
        by_cases c2 : i % 2 = 0
        · rw [if_pos c2, if_pos c2, if_pos (by omega)]
        · rw [if_neg c2, if_neg c2, if_neg (by omega)]
          rfl
  unfold Fn2 Fn
  rw [← q]
  exact h
section
variable {σ : Type} {R : SR σ} {P : M.Plain σ}
theorem thNew_cells (L : Lt) (t : Nat) (f : Ver σ) : thCells L t ((M.E0 P f).th t) ([.pointer none] ++ [.pointer none]) ([.pointer none] ++ [.pointer none]) (.slice none 0 0) = thNew L.bS (t : Int) (L.cap : Int) (L.gD t) (rwn L.n) (L.gG t) (tw L.n) := by
  simp [thCells, thNew, M.E0, rwn, wds, M.tw, tw]
end
end Go.Proofs.YtefjhnhdagolhaaGreat.tree
