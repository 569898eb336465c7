import Derived.Test.YtefjhnhdagolhaaGreatQ40
import Derived.Test.YtefjhnhdagolhaaGreatQ44
namespace Go.Proofs.YtefjhnhdagolhaaGreat.int
open Go.RowKit
open M (upd upd_same upd_other Ver ETh ESt RSt RTh wds statusAt valueAt marks tagged num YI)
attribute [local go_sem ↓] Go.wp_at_zero Go.wp_at_succ
section
variable {σ : Type} {R : SR σ} {P : M.Plain σ} {L : Lt} {S : Nat → Prop} {E : ESt σ} {Y : RSt} {w : World} {t : Nat}
theorem numOf_num (bs : List (List Nat)) : numOf (num bs).reverse = bs.length := by
  rcases List.eq_nil_or_concat bs with rfl | ⟨l, p, rfl⟩
  · rfl
  · rw [List.concat_eq_append, M.num_append, List.reverse_append]
    simp [numOf]
theorem num_mem (bs : List (List Nat)) : ∀ x ∈ num bs, x.1 ≤ bs.length ∧ x.2 ∈ bs := by
  intro x hx
  unfold M.num at hx
  obtain ⟨i, hi, e⟩ := List.mem_mapIdx.1 hx
  subst e
  exact ⟨by dsimp only; omega, List.getElem_mem hi⟩
def stOf (P : M.Plain σ) (Y : RSt) : σ := (M.replay P (fun k i => ((Y.th k).ops).getD i ⟨0, 0, 0⟩) Y.bs).st
theorem Both.cur (h : Both R P L S E Y w) : ∃ f, E.rst E.prec = some (⟨stOf P Y, num Y.bs⟩, f) := by
  obtain ⟨pb, nf, -, G, -⟩ := h.inv
  exact G.curS
theorem Both.mem (h : Both R P L S E Y w) : ∀ b ∈ Y.bs, ∀ k ∈ b, k < L.n := by
  obtain ⟨pb, nf, -, G, -⟩ := h.inv
  exact G.mem
theorem Both.newest (h : Both R P L S E Y w) (hN : Y.bs.length ≤ 1000000000) {W : World} (hb : Below w.heap.size w W) :
    Calls Tryz.prog 202 #[.pointer (some ⟨L.bS, 0, none⟩)] W fun e w' => ∃ q0 bB, e = .returned (.agg #[.int .i64 q0, .pointer (some ⟨bB, 0, none⟩)]) ∧ R.rep (fun k => S k ∧ ¬ L.own k) W (stOf P Y) [.int .i64 q0] ∧ BRep (fun k => S k ∧ ¬ L.own k) W (num Y.bs).reverse bB ∧ Below W.heap.size W w' := by
  obtain ⟨f, hf⟩ := h.cur
  exact newest_w (h.re.stay (fun k hk => hb.block k (h.re.lt k hk)) (fun _ hk => hk) (fun k hk => Nat.lt_of_lt_of_le (h.re.lt k hk) hb.size)) hf h.bnd.pr (by rw [h.pst]; exact hN) (by rw [h.pst]; exact numOf_num _)
set_option maxRecDepth 20000 in
set_option maxHeartbeats 2000000 in
theorem Order_b (h : Both R P L S E Y w) (hN : Y.bs.length ≤ 1000000000) (hA : Y.bs.flatten.length ≤ 1000000000000) :
    Calls Tryz.prog 193 #[.pointer (some ⟨L.bE, 0, none⟩)] w fun e w' => ∃ v, e = .returned v ∧ w'.ownsRow w.heap.size 81 3 v Y.order.length (markcs Y.order) ∧ Below w.heap.size w w' := by
  have c0 : w.cell? ⟨L.bE, 0, none⟩ = some (.pointer (some ⟨L.bS, 0, none⟩)) := h.re.eng.cell_of rfl
  have s0 : w.cell? ⟨L.bS, 0, none⟩ = some (.int .i64 (L.n : Int)) := h.re.sh.cell_of rfl
  have HNW := hide (fun (W : World) (hb : Below w.heap.size w W) => h.newest hN hb)
  have HTA := hide (show (tagged (num Y.bs)).length ≤ 1000000000000 by have := congrArg List.length (M.tagged_snd Y.bs); rw [List.length_map] at this; omega)
  have HOR := hide (fun (W : World) (bB : Nat) (hc : W.cell? ⟨L.bS, 0, none⟩ = some (.int .i64 (L.n : Int))) (hbr : BRep (fun k => S k ∧ ¬ L.own k) W (num Y.bs).reverse bB) => order_w (w := W) L.bS bB L.n (num Y.bs) hc h.re.ok.n64 hbr (fun x hx k hk => h.mem x.2 (num_mem Y.bs x hx).2 k hk) (fun x hx => Nat.le_trans (num_mem Y.bs x hx).1 hN) (by rw [M.num_len]; exact hN) HTA.out)
  have hfl : ∀ q0 bB W, (Instr.field 225 (.agg #[.int .i64 q0, .pointer (some ⟨bB, 0, none⟩)]) 1).run Tryz.prog W = .ok (.pointer (some ⟨bB, 0, none⟩)) W := fun _ _ _ => by kernel_rfl
  have HLT := hide h.re.lt
  clear h hN hA
  go_enter Tryz.func193, Tryz.ntmps193
  go_wp2
  refine wp_region_held_drew (S := (fun w' => w'.cell? ⟨L.bE, 0, none⟩ = some (.pointer (some ⟨L.bS, 0, none⟩)) ∧ Below w.heap.size w w')) (by kernel_rfl) ?_ (fun hHeld => ?_)
  · exact ⟨c0, Below.drew (Below.refl _ _)⟩
  refine wpAnyH_take (i := 0) (oi := ⟨some 3, .move (.tmp 0), 183, "engine.go:75", #[], none⟩) (v := ?v296) rfl (by kernel_rfl) (by kernel_rfl) (by kernel_rfl) (fun _ _ _ h => h) (Or.inl ⟨by rfl, ?hy296⟩) (by assumption) ?rest296
  case hy296 => (intro w hSw; (try dsimp only at hSw); go_simp; (try with_reducible rfl))
  (try go_frame)
  refine wpAnyH_take (i := 1) (oi := ⟨some 4, .nilCheck (.tmp 3), 0, "engine.go:75", #[⟨0, .data⟩], none⟩) (v := ?v297) rfl (by kernel_rfl) (by kernel_rfl) (by kernel_rfl) (fun _ _ _ h => h) (Or.inl ⟨by rfl, ?hy297⟩) (by assumption) ?rest297
  case hy297 => (intro w hSw; (try dsimp only at hSw); go_simp; (try with_reducible rfl))
  (try go_frame)
  refine wpAnyH_take (i := 2) (oi := ⟨some 5, .fieldAddr 219 (.tmp 4) 0, 0, "engine.go:75", #[⟨1, .data⟩], none⟩) (v := ?v298) rfl (by kernel_rfl) (by kernel_rfl) (by kernel_rfl) (fun _ _ _ h => h) (Or.inl ⟨by rfl, ?hy298⟩) (by assumption) ?rest298
  case hy298 => (intro w hSw; (try dsimp only at hSw); go_simp; (try with_reducible rfl))
  (try go_frame)
  refine wpAnyH_take (i := 3) (oi := ⟨some 6, .load 215 (.tmp 5), 215, "engine.go:75", #[⟨2, .data⟩], none⟩) (v := ?v299) rfl (by kernel_rfl) (by kernel_rfl) (by kernel_rfl) (fun _ _ _ h => h) (Or.inl ⟨by rfl, ?hy299⟩) (by assumption) ?rest299
  case hy299 => (intro w hSw; (try dsimp only at hSw); go_simp; (try with_reducible rfl))
  (try go_frame)
  refine wpAnyH_take (i := 4) (oi := ⟨some 7, .move (.tmp 0), 183, "engine.go:75", #[], none⟩) (v := ?v300) rfl (by kernel_rfl) (by kernel_rfl) (by kernel_rfl) (fun _ _ _ h => h) (Or.inl ⟨by rfl, ?hy300⟩) (by assumption) ?rest300
  case hy300 => (intro w hSw; (try dsimp only at hSw); go_simp; (try with_reducible rfl))
  (try go_frame)
  refine wpAnyH_take (i := 5) (oi := ⟨some 8, .nilCheck (.tmp 7), 0, "engine.go:75", #[⟨4, .data⟩], none⟩) (v := ?v301) rfl (by kernel_rfl) (by kernel_rfl) (by kernel_rfl) (fun _ _ _ h => h) (Or.inl ⟨by rfl, ?hy301⟩) (by assumption) ?rest301
  case hy301 => (intro w hSw; (try dsimp only at hSw); go_simp; (try with_reducible rfl))
  (try go_frame)
  refine wpAnyH_take (i := 6) (oi := ⟨some 9, .fieldAddr 219 (.tmp 8) 0, 0, "engine.go:75", #[⟨5, .data⟩], none⟩) (v := ?v302) rfl (by kernel_rfl) (by kernel_rfl) (by kernel_rfl) (fun _ _ _ h => h) (Or.inl ⟨by rfl, ?hy302⟩) (by assumption) ?rest302
  case hy302 => (intro w hSw; (try dsimp only at hSw); go_simp; (try with_reducible rfl))
  (try go_frame)
  refine wpAnyH_take (i := 7) (oi := ⟨some 10, .load 215 (.tmp 9), 215, "engine.go:75", #[⟨6, .data⟩], none⟩) (v := ?v303) rfl (by kernel_rfl) (by kernel_rfl) (by kernel_rfl) (fun _ _ _ h => h) (Or.inl ⟨by rfl, ?hy303⟩) (by assumption) ?rest303
  case hy303 => (intro w hSw; (try dsimp only at hSw); go_simp; (try with_reducible rfl))
  (try go_frame)
  refine wpAnyH_ready (rs := [8]) (by kernel_rfl) (by simp) ?_
  refine AllReadyH.cons (o := ⟨some 11, .call ⟨.value (.func 202), #[.tmp 10], #[215]⟩, 225, "engine.go:75", #[⟨7, .data⟩], none⟩) (by rfl) (fun K hK => ?_) AllReadyH.nil
  go_simp
  refine (HNW.out _ hHeld.2).mono ?_
  rintro e w2 ⟨q0, bB, rfl, -, hbr2, hb2⟩
  have HBR := hide (BRep.stay (I' := fun k => S k ∧ ¬ L.own k) (w' := w2) (fun k hk hl => ⟨hk, hb2.block k hl⟩) (fun k hk => Nat.lt_of_lt_of_le (HLT.out k hk.1) hHeld.2.size) _ _ hbr2)
  clear hbr2
  go_wp2_with fail
  refine hK.out _ _ ?_ (fun hHeld => ?_)
  · exact ⟨cell_later hb2 hHeld.1, Below.next hHeld.2 hb2 hHeld.2.size⟩
  clear hK K
  (try go_frame)
  refine wpAnyH_take (i := 9) (oi := ⟨some 12, .field 225 (.tmp 11) 1, 223, "engine.go:75", #[⟨8, .data⟩], none⟩) (v := ?v304) rfl (by kernel_rfl) (by kernel_rfl) (by kernel_rfl) (fun _ _ _ h => h) (Or.inl ⟨by rfl, ?hy304⟩) (by assumption) ?rest304
  case hy304 => (intro w hSw; (try dsimp only at hSw); go_simp; (try with_reducible rfl))
  (try go_frame)
  refine wpAnyH_ready (rs := [10]) (by kernel_rfl) (by simp) ?_
  refine AllReadyH.cons (o := ⟨some 13, .call ⟨.value (.func 201), #[.tmp 6, .tmp 12], #[215, 223]⟩, 43, "engine.go:75", #[⟨3, .data⟩, ⟨9, .data⟩, ⟨8, .chain⟩], none⟩) (by rfl) (fun K hK => ?_) AllReadyH.nil
  go_simp
  refine (HOR.out _ _ (cell_later hHeld.2 s0) HBR.out).mono ?_
  rintro e w3 ⟨v, rfl, hO3, hb3⟩
  have HO3 := hide (owns_base hO3 hHeld.2.size)
  clear hO3
  go_wp2_with fail
  refine hK.out _ _ ?_ (fun hHeld => ?_)
  · exact ⟨cell_later hb3 hHeld.1, Below.next hHeld.2 hb3 hHeld.2.size⟩
  clear hK K
  (try go_frame)
  refine wpAnyH_take (i := 11) (oi := ⟨some 2, .assign (.tmp 13), 43, "engine.go:75", #[⟨10, .data⟩, ⟨10, .chain⟩, ⟨0, .phase⟩, ⟨1, .phase⟩, ⟨2, .phase⟩, ⟨3, .phase⟩, ⟨4, .phase⟩, ⟨5, .phase⟩, ⟨6, .phase⟩, ⟨7, .phase⟩, ⟨8, .phase⟩, ⟨9, .phase⟩, ⟨10, .phase⟩], none⟩) (v := ?v305) rfl (by kernel_rfl) (by kernel_rfl) (by kernel_rfl) (fun _ _ _ h => h) (Or.inl ⟨by rfl, ?hy305⟩) (by assumption) ?rest305
  case hy305 => (intro w hSw; (try dsimp only at hSw); go_simp; (try with_reducible rfl))
  (try go_frame)
  refine wpAnyH_done (by kernel_rfl) ?_ _
  (try go_wp2_with fail)
  go_ret
  exact ⟨_, rfl, HO3.out, hHeld.2⟩
structure TeOk (R : SR σ) (L : Lt) (tell : σ → List Int) (fT : Nat) (rv : Value) : Prop where
  m : ∀ W, (method 553 L.oT L.ov "Tell").run Tryz.prog W = .ok (fT, rv) W
  c : ∀ (s : Value) (W : World), (callFunc fT #[rv, s]).run Tryz.prog W = .ok (.enter fT #[rv, s]) W
  f : ∀ (I : Nat → Prop) (W : World) (s : σ) q0, R.rep I W s [.int .i64 q0] → (∀ k, I k → k < W.heap.size) → Calls Tryz.prog fT #[rv, .int .i64 q0] W fun e w' => ∃ v, e = .returned v ∧ w'.ownsRow W.heap.size 3 1 v (tell s).length (ints (tell s)) ∧ Below W.heap.size W w'
set_option maxRecDepth 20000 in
set_option maxHeartbeats 2000000 in
theorem State_b {tell : σ → List Int} {fT : Nat} {rv : Value} (hT : TeOk R L tell fT rv) (h : Both R P L S E Y w) (hN : Y.bs.length ≤ 1000000000) :
    Calls Tryz.prog 194 #[.pointer (some ⟨L.bE, 0, none⟩)] w fun e w' => ∃ v, e = .returned v ∧ w'.ownsRow w.heap.size 3 1 v (tell (stOf P Y)).length (ints (tell (stOf P Y))) ∧ Below w.heap.size w w' := by
  have c0 : w.cell? ⟨L.bE, 0, none⟩ = some (.pointer (some ⟨L.bS, 0, none⟩)) := h.re.eng.cell_of rfl
  have c1 : w.cell? ⟨L.bS, 1, none⟩ = some (.iface L.oT L.ov) := h.re.sh.cell_of rfl
  have HNW := hide (fun (W : World) (hb : Below w.heap.size w W) => h.newest hN hb)
  have hfl : ∀ q0 bB W, (Instr.field 225 (.agg #[.int .i64 q0, .pointer (some ⟨bB, 0, none⟩)]) 0).run Tryz.prog W = .ok (.int .i64 q0) W := fun _ _ _ => by kernel_rfl
  have hm := hT.m
  have hcf := hT.c
  have HT := hide hT
  have HLT := hide h.re.lt
  clear h hN hT
  go_enter Tryz.func194, Tryz.ntmps194
  go_wp2
  refine wp_region_held_drew (S := (fun w' => w'.cell? ⟨L.bE, 0, none⟩ = some (.pointer (some ⟨L.bS, 0, none⟩)) ∧ w'.cell? ⟨L.bS, 1, none⟩ = some (.iface L.oT L.ov) ∧ Below w.heap.size w w')) (by kernel_rfl) ?_ (fun hHeld => ?_)
  · exact ⟨c0, c1, Below.drew (Below.refl _ _)⟩
  refine wpAnyH_take (i := 0) (oi := ⟨some 3, .move (.tmp 0), 183, "engine.go:78", #[], none⟩) (v := ?v306) rfl (by kernel_rfl) (by kernel_rfl) (by kernel_rfl) (fun _ _ _ h => h) (Or.inl ⟨by rfl, ?hy306⟩) (by assumption) ?rest306
  case hy306 => (intro w hSw; (try dsimp only at hSw); go_simp; (try with_reducible rfl))
  (try go_frame)
  refine wpAnyH_take (i := 1) (oi := ⟨some 4, .nilCheck (.tmp 3), 0, "engine.go:78", #[⟨0, .data⟩], none⟩) (v := ?v307) rfl (by kernel_rfl) (by kernel_rfl) (by kernel_rfl) (fun _ _ _ h => h) (Or.inl ⟨by rfl, ?hy307⟩) (by assumption) ?rest307
  case hy307 => (intro w hSw; (try dsimp only at hSw); go_simp; (try with_reducible rfl))
  (try go_frame)
  refine wpAnyH_take (i := 2) (oi := ⟨some 5, .fieldAddr 219 (.tmp 4) 0, 0, "engine.go:78", #[⟨1, .data⟩], none⟩) (v := ?v308) rfl (by kernel_rfl) (by kernel_rfl) (by kernel_rfl) (fun _ _ _ h => h) (Or.inl ⟨by rfl, ?hy308⟩) (by assumption) ?rest308
  case hy308 => (intro w hSw; (try dsimp only at hSw); go_simp; (try with_reducible rfl))
  (try go_frame)
  refine wpAnyH_take (i := 3) (oi := ⟨some 6, .load 215 (.tmp 5), 215, "engine.go:78", #[⟨2, .data⟩], none⟩) (v := ?v309) rfl (by kernel_rfl) (by kernel_rfl) (by kernel_rfl) (fun _ _ _ h => h) (Or.inl ⟨by rfl, ?hy309⟩) (by assumption) ?rest309
  case hy309 => (intro w hSw; (try dsimp only at hSw); go_simp; (try with_reducible rfl))
  (try go_frame)
  refine wpAnyH_take (i := 4) (oi := ⟨some 7, .nilCheck (.tmp 6), 0, "engine.go:78", #[⟨3, .data⟩], none⟩) (v := ?v310) rfl (by kernel_rfl) (by kernel_rfl) (by kernel_rfl) (fun _ _ _ h => h) (Or.inl ⟨by rfl, ?hy310⟩) (by assumption) ?rest310
  case hy310 => (intro w hSw; (try dsimp only at hSw); go_simp; (try with_reducible rfl))
  (try go_frame)
  refine wpAnyH_take (i := 5) (oi := ⟨some 8, .fieldAddr 296 (.tmp 7) 1, 0, "engine.go:78", #[⟨4, .data⟩], none⟩) (v := ?v311) rfl (by kernel_rfl) (by kernel_rfl) (by kernel_rfl) (fun _ _ _ h => h) (Or.inl ⟨by rfl, ?hy311⟩) (by assumption) ?rest311
  case hy311 => (intro w hSw; (try dsimp only at hSw); go_simp; (try with_reducible rfl))
  (try go_frame)
  refine wpAnyH_take (i := 6) (oi := ⟨some 9, .load 182 (.tmp 8), 182, "engine.go:78", #[⟨5, .data⟩], none⟩) (v := ?v312) rfl (by kernel_rfl) (by kernel_rfl) (by kernel_rfl) (fun _ _ _ h => h) (Or.inl ⟨by rfl, ?hy312⟩) (by assumption) ?rest312
  case hy312 => (intro w hSw; (try dsimp only at hSw); go_simp; (try with_reducible rfl))
  (try go_frame)
  refine wpAnyH_take (i := 7) (oi := ⟨some 10, .move (.tmp 0), 183, "engine.go:78", #[], none⟩) (v := ?v313) rfl (by kernel_rfl) (by kernel_rfl) (by kernel_rfl) (fun _ _ _ h => h) (Or.inl ⟨by rfl, ?hy313⟩) (by assumption) ?rest313
  case hy313 => (intro w hSw; (try dsimp only at hSw); go_simp; (try with_reducible rfl))
  (try go_frame)
  refine wpAnyH_take (i := 8) (oi := ⟨some 11, .nilCheck (.tmp 10), 0, "engine.go:78", #[⟨7, .data⟩], none⟩) (v := ?v314) rfl (by kernel_rfl) (by kernel_rfl) (by kernel_rfl) (fun _ _ _ h => h) (Or.inl ⟨by rfl, ?hy314⟩) (by assumption) ?rest314
  case hy314 => (intro w hSw; (try dsimp only at hSw); go_simp; (try with_reducible rfl))
  (try go_frame)
  refine wpAnyH_take (i := 9) (oi := ⟨some 12, .fieldAddr 219 (.tmp 11) 0, 0, "engine.go:78", #[⟨8, .data⟩], none⟩) (v := ?v315) rfl (by kernel_rfl) (by kernel_rfl) (by kernel_rfl) (fun _ _ _ h => h) (Or.inl ⟨by rfl, ?hy315⟩) (by assumption) ?rest315
  case hy315 => (intro w hSw; (try dsimp only at hSw); go_simp; (try with_reducible rfl))
  (try go_frame)
  refine wpAnyH_take (i := 10) (oi := ⟨some 13, .load 215 (.tmp 12), 215, "engine.go:78", #[⟨9, .data⟩], none⟩) (v := ?v316) rfl (by kernel_rfl) (by kernel_rfl) (by kernel_rfl) (fun _ _ _ h => h) (Or.inl ⟨by rfl, ?hy316⟩) (by assumption) ?rest316
  case hy316 => (intro w hSw; (try dsimp only at hSw); go_simp; (try with_reducible rfl))
  (try go_frame)
  refine wpAnyH_take (i := 13) (oi := ⟨some 16, .nilCheck (.tmp 9), 182, "engine.go:78", #[⟨6, .data⟩], none⟩) (v := ?v317) rfl (by kernel_rfl) (by kernel_rfl) (by kernel_rfl) (fun _ _ _ h => h) (Or.inl ⟨by rfl, ?hy317⟩) (by assumption) ?rest317
  case hy317 => (intro w hSw; (try dsimp only at hSw); go_simp; (try with_reducible rfl))
  (try go_frame)
  refine wpAnyH_take (i := 14) (oi := ⟨some 17, .move (.tmp 9), 182, "engine.go:78", #[⟨6, .data⟩, ⟨13, .data⟩], none⟩) (v := ?v318) rfl (by kernel_rfl) (by kernel_rfl) (by kernel_rfl) (fun _ _ _ h => h) (Or.inl ⟨by rfl, ?hy318⟩) (by assumption) ?rest318
  case hy318 => (intro w hSw; (try dsimp only at hSw); go_simp; (try with_reducible rfl))
  (try go_frame)
  refine wpAnyH_ready (rs := [11]) (by kernel_rfl) (by simp) ?_
  refine AllReadyH.cons (o := ⟨some 14, .call ⟨.value (.func 202), #[.tmp 13], #[215]⟩, 225, "engine.go:78", #[⟨10, .data⟩], none⟩) (by rfl) (fun K hK => ?_) AllReadyH.nil
  go_simp
  refine (HNW.out _ hHeld.2.2).mono ?_
  rintro e w2 ⟨q0, bB, rfl, hrp2, -, hb2⟩
  have HRP := hide (R.stay (I' := fun k => S k ∧ ¬ L.own k) (w' := w2) (fun k hk hl => ⟨hk, hb2.block k hl⟩) hrp2)
  clear hrp2
  go_wp2_with fail
  refine hK.out _ _ ?_ (fun hHeld => ?_)
  · exact ⟨cell_later hb2 hHeld.1, cell_later hb2 hHeld.2.1, Below.next hHeld.2.2 hb2 hHeld.2.2.size⟩
  clear hK K
  (try go_frame)
  refine wpAnyH_take (i := 12) (oi := ⟨some 15, .field 225 (.tmp 14) 0, 3, "engine.go:78", #[⟨11, .data⟩], none⟩) (v := ?v319) rfl (by kernel_rfl) (by kernel_rfl) (by kernel_rfl) (fun _ _ _ h => h) (Or.inl ⟨by rfl, ?hy319⟩) (by assumption) ?rest319
  case hy319 => (intro w hSw; (try dsimp only at hSw); go_simp; (try with_reducible rfl))
  (try go_frame)
  refine wpAnyH_ready (rs := [15]) (by kernel_rfl) (by simp) ?_
  refine AllReadyH.cons (o := ⟨some 18, .call ⟨.invoke (.tmp 17) "Tell", #[.tmp 15], #[3]⟩, 22, "engine.go:78", #[⟨14, .data⟩, ⟨12, .data⟩, ⟨11, .chain⟩], none⟩) (by rfl) (fun K hK => ?_) AllReadyH.nil
  go_simp
  refine (HT.out.f _ _ (stOf P Y) q0 HRP.out (fun k hk => Nat.lt_of_lt_of_le (HLT.out k hk.1) hHeld.2.2.size)).mono ?_
  rintro e w3 ⟨v, rfl, ho3, hb3⟩
  have HO3 := hide (owns_base ho3 hHeld.2.2.size)
  clear ho3
  go_wp2_with fail
  refine hK.out _ _ ?_ (fun hHeld => ?_)
  · exact ⟨cell_later hb3 hHeld.1, cell_later hb3 hHeld.2.1, Below.next hHeld.2.2 hb3 hHeld.2.2.size⟩
  clear hK K
  (try go_frame)
  refine wpAnyH_take (i := 16) (oi := ⟨some 2, .assign (.tmp 18), 22, "engine.go:78", #[⟨15, .data⟩, ⟨15, .chain⟩, ⟨0, .phase⟩, ⟨1, .phase⟩, ⟨2, .phase⟩, ⟨3, .phase⟩, ⟨4, .phase⟩, ⟨5, .phase⟩, ⟨6, .phase⟩, ⟨7, .phase⟩, ⟨8, .phase⟩, ⟨9, .phase⟩, ⟨10, .phase⟩, ⟨11, .phase⟩, ⟨12, .phase⟩, ⟨13, .phase⟩, ⟨14, .phase⟩, ⟨15, .phase⟩], none⟩) (v := ?v320) rfl (by kernel_rfl) (by kernel_rfl) (by kernel_rfl) (fun _ _ _ h => h) (Or.inl ⟨by rfl, ?hy320⟩) (by assumption) ?rest320
  case hy320 => (intro w hSw; (try dsimp only at hSw); go_simp; (try with_reducible rfl))
  (try go_frame)
  refine wpAnyH_done (by kernel_rfl) ?_ _
  (try go_wp2_with fail)
  go_ret
  exact ⟨v, rfl, HO3.out, hHeld.2.2⟩
def bndI (n cap : Nat) : Int := 4 + 2 * ((cap : Int) + 3 + 2 * (((n : Int) + 15) / 16 + 2 * (n : Int) + 1) + ((n : Int) + 15) / 16 + 3 * (n : Int)) + 3
set_option maxRecDepth 20000 in
set_option maxHeartbeats 1000000 in
theorem Bound_b (h : Both R P L S E Y w) :
    Calls Tryz.prog 191 #[.pointer (some ⟨L.bE, 0, none⟩)] w fun e w' => e = .returned (.int .i64 (bndI L.n L.cap)) ∧ Below w.heap.size w w' := by
  have c0 : w.cell? ⟨L.bE, 0, none⟩ = some (.pointer (some ⟨L.bS, 0, none⟩)) := h.re.eng.cell_of rfl
  have c2 : w.cell? ⟨L.bE, 2, none⟩ = some (.int .i64 (L.cap : Int)) := h.re.eng.cell_of rfl
  have cs : w.cell? ⟨L.bS, 0, none⟩ = some (.int .i64 (L.n : Int)) := h.re.sh.cell_of rfl
  have hn1 := h.re.ok.n1
  have hn64 := h.re.ok.n64
  have hc64 := h.re.ok.c64
  clear h
  go_enter Tryz.func191, Tryz.ntmps191
  go_wp2
  generalize hW0 : World.alloc w _ = W0
  have hb0 : Below w.heap.size w W0 := by rw [← hW0]; exact below_alloc w _
  have d2 : W0.cell? ⟨L.bE, 2, none⟩ = some (.int .i64 (L.cap : Int)) := cell_later hb0 c2
  have dl : W0.cell? ⟨w.heap.size, 0, none⟩ = some (.int .i64 (L.n : Int)) := by rw [← hW0]; exact (Row.new w [_] 287).cell_of rfl
  have hw1 : IntKind.i64.wrap ((L.cap : Int) + 3) = (L.cap : Int) + 3 := wrapi _ (by omega) (by omega)
  have hw2 : IntKind.i64.wrap (3 * (L.n : Int)) = 3 * (L.n : Int) := wrapi _ (by omega) (by omega)
  clear hW0 c0 c2 cs
  refine wp_region_held_drew (S := (fun w' => w'.cell? ⟨L.bE, 2, none⟩ = some (.int .i64 (L.cap : Int)) ∧ w'.cell? ⟨w.heap.size, 0, none⟩ = some (.int .i64 (L.n : Int)) ∧ Below w.heap.size w w')) (by kernel_rfl) ?_ (fun hHeld => ?_)
  · exact ⟨d2, dl, hb0.drew⟩
  refine wpAnyH_take (i := 0) (oi := ⟨some 12, .move (.tmp 0), 183, "engine.go:83", #[], none⟩) (v := ?v321) rfl (by kernel_rfl) (by kernel_rfl) (by kernel_rfl) (fun _ _ _ h => h) (Or.inl ⟨by rfl, ?hy321⟩) (by assumption) ?rest321
  case hy321 => (intro w hSw; (try dsimp only at hSw); go_simp; (try with_reducible rfl))
  (try go_frame)
  refine wpAnyH_take (i := 1) (oi := ⟨some 13, .nilCheck (.tmp 12), 0, "engine.go:83", #[⟨0, .data⟩], none⟩) (v := ?v322) rfl (by kernel_rfl) (by kernel_rfl) (by kernel_rfl) (fun _ _ _ h => h) (Or.inl ⟨by rfl, ?hy322⟩) (by assumption) ?rest322
  case hy322 => (intro w hSw; (try dsimp only at hSw); go_simp; (try with_reducible rfl))
  (try go_frame)
  refine wpAnyH_take (i := 2) (oi := ⟨some 14, .fieldAddr 219 (.tmp 13) 2, 0, "engine.go:83", #[⟨1, .data⟩], none⟩) (v := ?v323) rfl (by kernel_rfl) (by kernel_rfl) (by kernel_rfl) (fun _ _ _ h => h) (Or.inl ⟨by rfl, ?hy323⟩) (by assumption) ?rest323
  case hy323 => (intro w hSw; (try dsimp only at hSw); go_simp; (try with_reducible rfl))
  (try go_frame)
  refine wpAnyH_take (i := 3) (oi := ⟨some 15, .load 3 (.tmp 14), 3, "engine.go:83", #[⟨2, .data⟩], none⟩) (v := ?v324) rfl (by kernel_rfl) (by kernel_rfl) (by kernel_rfl) (fun _ _ _ h => h) (Or.inl ⟨by rfl, ?hy324⟩) (by assumption) ?rest324
  case hy324 => (intro w hSw; (try dsimp only at hSw); go_simp; (try with_reducible rfl))
  (try go_frame)
  refine wpAnyH_take (i := 4) (oi := ⟨some 16, .binOp .add 3 (.tmp 15) (.const (.int .i64 3)) 3, 3, "engine.go:83", #[⟨3, .data⟩], none⟩) (v := ?v325) rfl (by kernel_rfl) (by kernel_rfl) (by kernel_rfl) (fun _ _ _ h => h) (Or.inl ⟨by rfl, ?hy325⟩) (by assumption) ?rest325
  case hy325 => (intro w hSw; (try dsimp only at hSw); go_simp; (try with_reducible rfl))
  (try go_frame)
  refine wpAnyH_take (i := 5) (oi := ⟨some 17, .load 287 (.tmp 3), 287, "engine.go:83", #[], none⟩) (v := ?v326) rfl (by kernel_rfl) (by kernel_rfl) (by kernel_rfl) (fun _ _ _ h => h) (Or.inl ⟨by rfl, ?hy326⟩) (by assumption) ?rest326
  case hy326 => (intro w hSw; (try dsimp only at hSw); go_simp; (try with_reducible rfl))
  (try go_frame)
  refine wpAnyH_take (i := 9) (oi := ⟨some 21, .load 287 (.tmp 3), 287, "engine.go:83", #[], none⟩) (v := ?v327) rfl (by kernel_rfl) (by kernel_rfl) (by kernel_rfl) (fun _ _ _ h => h) (Or.inl ⟨by rfl, ?hy327⟩) (by assumption) ?rest327
  case hy327 => (intro w hSw; (try dsimp only at hSw); go_simp; (try with_reducible rfl))
  (try go_frame)
  refine wpAnyH_take (i := 12) (oi := ⟨some 24, .fieldAddr 287 (.tmp 3) 0, 0, "engine.go:83", #[], none⟩) (v := ?v328) rfl (by kernel_rfl) (by kernel_rfl) (by kernel_rfl) (fun _ _ _ h => h) (Or.inl ⟨by rfl, ?hy328⟩) (by assumption) ?rest328
  case hy328 => (intro w hSw; (try dsimp only at hSw); go_simp; (try with_reducible rfl))
  (try go_frame)
  refine wpAnyH_take (i := 13) (oi := ⟨some 25, .load 3 (.tmp 24), 3, "engine.go:83", #[⟨12, .data⟩], none⟩) (v := ?v329) rfl (by kernel_rfl) (by kernel_rfl) (by kernel_rfl) (fun _ _ _ h => h) (Or.inl ⟨by rfl, ?hy329⟩) (by assumption) ?rest329
  case hy329 => (intro w hSw; (try dsimp only at hSw); go_simp; (try with_reducible rfl))
  (try go_frame)
  refine wpAnyH_take (i := 14) (oi := ⟨some 26, .binOp .mul 3 (.const (.int .i64 3)) (.tmp 25) 3, 3, "engine.go:83", #[⟨13, .data⟩], none⟩) (v := ?v330) rfl (by kernel_rfl) (by kernel_rfl) (by kernel_rfl) (fun _ _ _ h => h) (Or.inl ⟨by rfl, ?hy330⟩) (by assumption) ?rest330
  case hy330 => (intro w hSw; (try dsimp only at hSw); go_simp; (try with_reducible rfl))
  (try go_frame)
  refine wpAnyH_ready (rs := [6]) (by kernel_rfl) (by simp) ?_
  refine AllReadyH.cons (o := ⟨some 18, .call ⟨.value (.func 199), #[.tmp 17], #[287]⟩, 3, "engine.go:83", #[⟨5, .data⟩], none⟩) (by rfl) (fun K hK => ?_) AllReadyH.nil
  go_simp
  refine (parts_any (L.n : Int) _ (by omega) (by omega)).mono ?_
  rintro e w2 ⟨rfl, hb2⟩
  go_wp2_with fail
  refine hK.out _ _ ?_ (fun hHeld => ?_)
  · exact ⟨cell_later hb2 hHeld.1, cell_later hb2 hHeld.2.1, Below.next hHeld.2.2 hb2 hHeld.2.2.size⟩
  clear hK K
  (try go_frame)
  refine wpAnyH_take (i := 7) (oi := ⟨some 19, .binOp .mul 3 (.const (.int .i64 2)) (.tmp 18) 3, 3, "engine.go:83", #[⟨6, .data⟩], none⟩) (v := ?v331) rfl (by kernel_rfl) (by kernel_rfl) (by kernel_rfl) (fun _ _ _ h => h) (Or.inl ⟨by rfl, ?hy331⟩) (by assumption) ?rest331
  case hy331 => (intro w hSw; (try dsimp only at hSw); go_simp; (try with_reducible rfl))
  (try go_frame)
  refine wpAnyH_take (i := 8) (oi := ⟨some 20, .binOp .add 3 (.tmp 16) (.tmp 19) 3, 3, "engine.go:83", #[⟨4, .data⟩, ⟨7, .data⟩], none⟩) (v := ?v332) rfl (by kernel_rfl) (by kernel_rfl) (by kernel_rfl) (fun _ _ _ h => h) (Or.inl ⟨by rfl, ?hy332⟩) (by assumption) ?rest332
  case hy332 => (intro w hSw; (try dsimp only at hSw); go_simp; (try with_reducible rfl))
  (try go_frame)
  refine wpAnyH_ready (rs := [10]) (by kernel_rfl) (by simp) ?_
  refine AllReadyH.cons (o := ⟨some 22, .call ⟨.value (.func 156), #[.tmp 21], #[287]⟩, 3, "engine.go:83", #[⟨9, .data⟩, ⟨6, .chain⟩], none⟩) (by rfl) (fun K hK => ?_) AllReadyH.nil
  go_simp
  refine (toggleWords_any (L.n : Int) _ (by omega) (by omega)).mono ?_
  rintro e w3 ⟨rfl, hb3⟩
  go_wp2_with fail
  refine hK.out _ _ ?_ (fun hHeld => ?_)
  · exact ⟨cell_later hb3 hHeld.1, cell_later hb3 hHeld.2.1, Below.next hHeld.2.2 hb3 hHeld.2.2.size⟩
  clear hK K
  (try go_frame)
  refine wpAnyH_take (i := 11) (oi := ⟨some 23, .binOp .add 3 (.tmp 20) (.tmp 22) 3, 3, "engine.go:83", #[⟨8, .data⟩, ⟨10, .data⟩], none⟩) (v := ?v333) rfl (by kernel_rfl) (by kernel_rfl) (by kernel_rfl) (fun _ _ _ h => h) (Or.inl ⟨by rfl, ?hy333⟩) (by assumption) ?rest333
  case hy333 => (intro w hSw; (try dsimp only at hSw); go_simp; (try with_reducible rfl))
  (try go_frame)
  refine wpAnyH_take (i := 15) (oi := ⟨some 27, .binOp .add 3 (.tmp 23) (.tmp 26) 3, 3, "engine.go:83", #[⟨11, .data⟩, ⟨14, .data⟩], none⟩) (v := ?v334) rfl (by kernel_rfl) (by kernel_rfl) (by kernel_rfl) (fun _ _ _ h => h) (Or.inl ⟨by rfl, ?hy334⟩) (by assumption) ?rest334
  case hy334 => (intro w hSw; (try dsimp only at hSw); go_simp; (try with_reducible rfl))
  (try go_frame)
  refine wpAnyH_take (i := 16) (oi := ⟨some 4, .assign (.tmp 27), 3, "engine.go:83", #[⟨15, .data⟩, ⟨10, .chain⟩, ⟨0, .phase⟩, ⟨1, .phase⟩, ⟨2, .phase⟩, ⟨3, .phase⟩, ⟨4, .phase⟩, ⟨5, .phase⟩, ⟨6, .phase⟩, ⟨7, .phase⟩, ⟨8, .phase⟩, ⟨9, .phase⟩, ⟨10, .phase⟩, ⟨11, .phase⟩, ⟨12, .phase⟩, ⟨13, .phase⟩, ⟨14, .phase⟩, ⟨15, .phase⟩], none⟩) (v := ?v335) rfl (by kernel_rfl) (by kernel_rfl) (by kernel_rfl) (fun _ _ _ h => h) (Or.inl ⟨by rfl, ?hy335⟩) (by assumption) ?rest335
  case hy335 => (intro w hSw; (try dsimp only at hSw); go_simp; (try with_reducible rfl))
  (try go_frame)
  refine wpAnyH_done (by kernel_rfl) ?_ _
  (try go_wp2_with fail)
  go_ret
  exact ⟨rfl, hHeld.2.2⟩
end
end Go.Proofs.YtefjhnhdagolhaaGreat.int
