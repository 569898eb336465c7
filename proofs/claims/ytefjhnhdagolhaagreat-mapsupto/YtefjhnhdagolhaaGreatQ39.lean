import Derived.Test.YtefjhnhdagolhaaGreatQ38
import Derived.Deep.DeepCutAuto
namespace Go.Proofs.YtefjhnhdagolhaaGreat
open Go.RowKit
open M (upd upd_same upd_other RSt RTh cnt marks tagged num YI)
attribute [local go_sem ↓] Go.wp_at_zero Go.wp_at_succ
section
variable {σ : Type} {P : M.Plain σ} {tell : σ → List Int} {sz : σ → Nat} {HM : World → Value → σ → Prop} {D : DL} {X : (Nat → Prop) → RSt → World → Prop} {A : LL} {Y : RSt} {w : World} {fBe fSt fAn fDo fOr fTe fBo Z K : Nat} {U : Nat → Prop}
theorem setCells_other {b : Nat} : ∀ (vs : List Value) (o : Nat) (W : World) (k : Nat), k ≠ b → (W.setCells b o vs).heap[k]? = W.heap[k]?
  | [], _, _, _, _ => rfl
  | v :: vs, o, W, k, hk => by
    show ((W.setCell ⟨b, o, none⟩ v).setCells b (o + 1) vs).heap[k]? = _
    rw [setCells_other vs (o + 1) _ k hk, Below.heap_setCell _ _ _ k hk]
theorem setCells_size {b : Nat} : ∀ (vs : List Value) (o : Nat) (W : World), (W.setCells b o vs).heap.size = W.heap.size
  | [], _, _ => rfl
  | v :: vs, o, W => by
    show ((W.setCell ⟨b, o, none⟩ v).setCells b (o + 1) vs).heap.size = _
    rw [setCells_size vs (o + 1) _]
    simp [World.setCell]
theorem setCells_rest {b : Nat} : ∀ (vs : List Value) (o : Nat) (W : World), (W.setCells b o vs).os = W.os ∧ (W.setCells b o vs).tape = W.tape ∧ (W.setCells b o vs).output = W.output
  | [], _, _ => ⟨rfl, rfl, rfl⟩
  | v :: vs, o, W => by
    have := setCells_rest (b := b) vs (o + 1) (W.setCell ⟨b, o, none⟩ v)
    exact this
theorem keepD {w1 w2 : World} {b1 o1 b2 o2 b3 o3 o4 o5 o6 : Nat} {v1 v2 v3 v4 v5 v6 : Value} (h : w1.cell? ⟨b1, o1, none⟩ = some v1 ∧ w1.cell? ⟨b2, o2, none⟩ = some v2 ∧ w1.cell? ⟨b3, o3, none⟩ = some v3 ∧ w1.cell? ⟨b3, o4, none⟩ = some v4 ∧ w1.cell? ⟨b3, o5, none⟩ = some v5 ∧ w1.cell? ⟨b3, o6, none⟩ = some v6)
    (h1 : w2.heap[b1]? = w1.heap[b1]?) (h2 : w2.heap[b2]? = w1.heap[b2]?) (h3 : w2.heap[b3]? = w1.heap[b3]?) : w2.cell? ⟨b1, o1, none⟩ = some v1 ∧ w2.cell? ⟨b2, o2, none⟩ = some v2 ∧ w2.cell? ⟨b3, o3, none⟩ = some v3 ∧ w2.cell? ⟨b3, o4, none⟩ = some v4 ∧ w2.cell? ⟨b3, o5, none⟩ = some v5 ∧ w2.cell? ⟨b3, o6, none⟩ = some v6 :=
  ⟨ptr_block h.1 h1, ptr_block h.2.1 h2, ptr_block h.2.2.1 h3, ptr_block h.2.2.2.1 h3, ptr_block h.2.2.2.2.1 h3, ptr_block h.2.2.2.2.2 h3⟩
theorem XGo.boxA {S : Nat → Prop} {Y' : RSt} {Wa w5 : World} (xo : XOk P tell D A.tE A.bN X fBe fSt fAn fDo fOr fTe fBo) (hb : Below w.heap.size w Wa) (hS : ∀ k, S k → k < w.heap.size) (hz : w.heap.size < Wa.heap.size) (h : XGo X S Wa Y' w5) (vs : List Value) : XGo X S w Y' (w5.setCells w.heap.size 0 vs) := by
  have hs := h.fr.size
  refine ⟨xo.stay _ _ _ _ _ h.x (fun k hk => setCells_other vs 0 w5 k ?_) (fun k hk => ?_) (fun k hk => ?_), ?_⟩
  · rintro rfl
    rcases hk with c | c
    · have := hS _ c; omega
    · omega
  · rcases hk with c | c
    · exact .inl c
    · exact .inr ⟨by omega, by rw [setCells_size]; exact c.2⟩
  · rw [setCells_size]
    rcases hk with c | c
    · have := hS k c; omega
    · have := c.2; rw [setCells_size] at this; exact this
  · obtain ⟨q1, q2, q3⟩ := setCells_rest (b := w.heap.size) vs 0 w5
    refine ⟨q1.trans (h.fr.os.trans hb.os), q2.trans (h.fr.tape.trans hb.tape), q3.trans (h.fr.output.trans hb.output), by rw [setCells_size]; omega, fun k hk hn => ?_⟩
    rw [setCells_other vs 0 w5 k (by omega), h.fr.block k (by omega) hn]
    exact hb.block k hk
theorem XGo.boxB {S : Nat → Prop} {Y' : RSt} {w5 : World} (xo : XOk P tell D A.tE A.bN X fBe fSt fAn fDo fOr fTe fBo) (h : XGo X S w Y' w5) (ob : Obj) (vs : List Value) : XGo X S w Y' ((w5.alloc ob).setCells w5.heap.size 0 vs) := h.later xo (below_setCells (Nat.le_refl _) _ _ _ (below_alloc _ _))
theorem DGo.boxA {S : Nat → Prop} {Y' : RSt} {Wa w5 : World} (ds : DS P tell sz HM AuT D) (hw : DW P AuT D S Y w) (hb : Below w.heap.size w Wa) (hz : w.heap.size < Wa.heap.size) (h : DGo P AuT D S Wa Y' w5) (vs : List Value) : DGo P AuT D S w Y' (w5.setCells w.heap.size 0 vs) := by
  have hs := h.fr.size
  have hS := hw.doc.lt
  refine hw.left ds ⟨h.dw.doc.stay (fun k hk => setCells_other vs 0 w5 k ?_) (fun k hk => ?_) (fun k hk => ?_), ?_⟩ h.dw.yi
  · rintro rfl
    rcases hk with c | c
    · have := hS _ c; omega
    · omega
  · rcases hk with c | c
    · exact .inl c
    · exact .inr ⟨by omega, by rw [setCells_size]; exact c.2⟩
  · rw [setCells_size]
    rcases hk with c | c
    · have := hS k c; omega
    · have := c.2; rw [setCells_size] at this; exact this
  · obtain ⟨q1, q2, q3⟩ := setCells_rest (b := w.heap.size) vs 0 w5
    refine ⟨q1.trans (h.fr.os.trans hb.os), q2.trans (h.fr.tape.trans hb.tape), q3.trans (h.fr.output.trans hb.output), by rw [setCells_size]; omega, fun k hk hn => ?_⟩
    rw [setCells_other vs 0 w5 k (by omega), h.fr.block k (by omega) hn]
    exact hb.block k hk
theorem DGo.later {S : Nat → Prop} {Y' : RSt} {w5 w6 : World} (ds : DS P tell sz HM AuT D) (hw : DW P AuT D S Y w) (h : DGo P AuT D S w Y' w5) (hb : Below w5.heap.size w5 w6) : DGo P AuT D S w Y' w6 :=
  hw.left ds ((⟨h.dw.doc, h.fr⟩ : DLeft D S w Y' w5).next (DLeft.below h.dw.doc hb)) h.dw.yi
theorem DGo.boxB {S : Nat → Prop} {Y' : RSt} {w5 : World} (ds : DS P tell sz HM AuT D) (hw : DW P AuT D S Y w) (h : DGo P AuT D S w Y' w5) (ob : Obj) (vs : List Value) : DGo P AuT D S w Y' ((w5.alloc ob).setCells w5.heap.size 0 vs) := h.later ds hw (below_setCells (Nat.le_refl _) _ _ _ (below_alloc _ _))
theorem XGo.undrew {S : Nat → Prop} {Y' : RSt} {w5 : World} (_xo : XOk P tell D A.tE A.bN X fBe fSt fAn fDo fOr fTe fBo) (h : XGo X S w.drew Y' w5) : XGo X S w Y' w5 := ⟨h.x, ⟨h.fr.os, h.fr.tape, h.fr.output, h.fr.size, h.fr.block⟩⟩
theorem DGo.undrew {S : Nat → Prop} {Y' : RSt} {w5 : World} (_ds : DS P tell sz HM AuT D) (_hw : DW P AuT D S Y w) (h : DGo P AuT D S w.drew Y' w5) : DGo P AuT D S w Y' w5 := ⟨h.dw, ⟨h.fr.os, h.fr.tape, h.fr.output, h.fr.size, h.fr.block⟩⟩
set_option maxRecDepth 20000 in
set_option maxHeartbeats 8000000 in
theorem act_do (xo : XOk P tell D A.tE A.bN X fBe fSt fAn fDo fOr fTe fBo) (ds : DS P tell sz HM AuT D) (h : Law P D X A Z U Y w) (hK : Lim D K Y) (hK9 : K + 10000 ≤ 900000000) (x nn c a b : Int) :
    Calls Tryz.prog 18 #[.pointer (some ⟨A.bL, 0, none⟩), .agg #[.int .i64 4, .int .i64 x, .int .i64 nn, .int .i64 c, .int .i64 a, .int .i64 b]] w fun e w' => e = .returned (.bool true) ∧ ∃ Y', LGo P D X A Z U w Y' w' ∧ Lim D (K + 4000) Y' := by
  have hmx := xo.mDo
  have hcx := xo.cDo
  go_enter Tryz.func18, Tryz.ntmps18
  go_upto_region 1 with fail
  generalize hW : World.alloc w _ = W
  have hb : Below w.heap.size w W := by rw [← hW]; exact below_alloc w _
  have hr : Row W w.heap.size 38 [.int .i64 4, .int .i64 x, .int .i64 nn, .int .i64 c, .int .i64 a, .int .i64 b] := by rw [← hW]; exact Row.new' rfl
  have b0 := hr.cell_of (i := 0) rfl
  have b1 := hr.cell_of (i := 1) rfl
  have b3 := hr.cell_of (i := 3) rfl
  have b4 := hr.cell_of (i := 4) rfl
  have b5 := hr.cell_of (i := 5) rfl
  have hzw : w.heap.size < W.heap.size := hr.lt
  have hnU : ¬ U w.heap.size := fun c9 => by have := h.ul _ c9; omega
  obtain ⟨⟨SX, SD, T, lab, ms, is, es1, es2, hl, hu, z1, z2⟩, ul⟩ := h.at xo hb
  have hnX : ¬ SX w.heap.size := fun c9 => hnU (hu _ (.inl c9))
  have hnD : ¬ SD w.heap.size := fun c9 => hnU (hu _ (.inr (.inl c9)))
  have d0 : W.cell? ⟨A.bL, 0, none⟩ = some (.pointer (some ⟨A.bX, 0, none⟩)) := hl.row.cell_of (i := 0) rfl
  have dx : W.cell? ⟨A.bX, 0, none⟩ = some (.iface A.tE (.pointer (some ⟨A.bN, 0, none⟩))) := hl.obj.cell_of (i := 0) rfl
  obtain ⟨hn1, hn64, hc64⟩ := hl.d.n
  have HLIM := hide (Lim.doZ hl.d.yi hn64 hc64 hK x (⟨c, a, b⟩ : M.Op))
  have HL := hide hl
  have HX := hide xo
  have HDS := hide ds
  have HU := hide (And.intro hu (And.intro ul (And.intro z1 z2)))
  have HBX := hide (fun (Wa : World) (hB : Below W.heap.size W Wa) => xo.dd SX Y Wa x (⟨c, a, b⟩ : M.Op) K (xo.stay _ _ _ _ _ hl.x (fun k hk => hB.block k (hl.xl k hk)) (fun _ q => q) (fun k hk => Nat.lt_of_lt_of_le (hl.xl k hk) hB.size)) hK (by omega))
  have HB := hide hb
  have HR := hide hr
  have HK := hide hK
  unfold tri at HBX
  have HT := hide (show ∀ Wa, DW P AuT D SD Y Wa → Calls Tryz.prog 47 #[.pointer (some ⟨D.b, 0, none⟩), .int .i64 x, .agg #[.int .i64 c, .int .i64 a, .int .i64 b]] Wa fun e w' => e = .returned (tri (doT P D.n D.cap Y x ⟨c, a, b⟩)) ∧ DGo P AuT D SD Wa (doZ D.n D.cap Y x ⟨c, a, b⟩) w' from fun Wa hd => Do_x ds hd hK (by omega) x (⟨c, a, b⟩ : M.Op))
  unfold tri at HT
  generalize (doT P D.n D.cap Y x ⟨c, a, b⟩).1 = rs at *
  generalize (doT P D.n D.cap Y x ⟨c, a, b⟩).2.1 = rv at *
  generalize (doT P D.n D.cap Y x ⟨c, a, b⟩).2.2 = re at *
  generalize doZ D.n D.cap Y x ⟨c, a, b⟩ = Y' at *
  clear hW hr hb h xo ds hl hu ul z1 z2 hK
  go_upto_region 11 with fail
  go_cut [7, 8] (fun p7 e8 w' => ∃ b7 : Nat, p7 = .pointer (some ⟨b7, 0, none⟩) ∧ e8 = .int .i64 re ∧ Row w' b7 94 [.int .i64 rs, .int .i64 rv] ∧ W.heap.size ≤ b7 ∧ XGo X SX W Y' w')
  case first =>
    have hbLl : A.bL < W.heap.size := HL.out.row.lt
    have hbXl : A.bX < W.heap.size := HL.out.obj.lt
    have hnL : ¬ SX A.bL := fun c9 => (HL.out.dx _ c9).2.2.1 rfl
    have hnX2 : ¬ SX A.bX := fun c9 => (HL.out.dx _ c9).2.2.2 rfl
    have hnW : ¬ SX W.heap.size := fun c9 => by have := HL.out.xl _ c9; omega
    have HXL := hide HL.out.xl
    have RNA := hide (show ∀ w5, Fr SX (W.alloc (.cells #[.int .i64 0, .int .i64 0] 94)).drew w5 → Row w5 W.heap.size 94 [.int .i64 0, .int .i64 0] from fun w5 hf => (show Row (W.alloc (.cells #[.int .i64 0, .int .i64 0] 94)).drew W.heap.size 94 [.int .i64 0, .int .i64 0] from Row.new W [.int .i64 0, .int .i64 0] _).of_block (hf.block _ (by simp) hnW))
    refine wp_region_held_drew (S := (fun w' => w'.cell? ⟨A.bL, 0, none⟩ = some (.pointer (some ⟨A.bX, 0, none⟩)) ∧ w'.cell? ⟨A.bX, 0, none⟩ = some (.iface A.tE (.pointer (some ⟨A.bN, 0, none⟩))) ∧ w'.cell? ⟨w.heap.size, 1, none⟩ = some (.int .i64 x) ∧ w'.cell? ⟨w.heap.size, 3, none⟩ = some (.int .i64 c) ∧ w'.cell? ⟨w.heap.size, 4, none⟩ = some (.int .i64 a) ∧ w'.cell? ⟨w.heap.size, 5, none⟩ = some (.int .i64 b))) (by kernel_rfl) ?_ (fun hHeld => ?_)
    · exact ⟨d0, dx, b1, b3, b4, b5⟩
    refine tk1 0 ⟨some 62, .move (.tmp 0), 31, "world.go:245", #[], none⟩ _ ?_
    (try go_frame)
    refine tk1 1 ⟨some 63, .nilCheck (.tmp 62), 0, "world.go:245", #[⟨0, .data⟩], none⟩ _ ?_
    (try go_frame)
    refine tk1 2 ⟨some 64, .fieldAddr 90 (.tmp 63) 0, 0, "world.go:245", #[⟨1, .data⟩], none⟩ _ ?_
    (try go_frame)
    refine tk1 3 ⟨some 65, .load 66 (.tmp 64), 66, "world.go:245", #[⟨2, .data⟩], none⟩ _ ?_
    (try go_frame)
    refine tk1 4 ⟨some 66, .nilCheck (.tmp 65), 0, "world.go:245", #[⟨3, .data⟩], none⟩ _ ?_
    (try go_frame)
    refine tk1 5 ⟨some 67, .fieldAddr 74 (.tmp 66) 0, 0, "world.go:245", #[⟨4, .data⟩], none⟩ _ ?_
    (try go_frame)
    refine tk1 6 ⟨some 68, .load 72 (.tmp 67), 72, "world.go:245", #[⟨5, .data⟩], none⟩ _ ?_
    (try go_frame)
    refine tk1 7 ⟨some 69, .fieldAddr 38 (.tmp 3) 1, 0, "world.go:245", #[], none⟩ _ ?_
    (try go_frame)
    refine tk1 8 ⟨some 70, .load 3 (.tmp 69), 3, "world.go:245", #[⟨7, .data⟩], none⟩ _ ?_
    (try go_frame)
    refine tk1 9 ⟨some 71, .fieldAddr 38 (.tmp 3) 3, 0, "world.go:245", #[], none⟩ _ ?_
    (try go_frame)
    refine tk1 10 ⟨some 72, .load 36 (.tmp 71), 36, "world.go:245", #[⟨9, .data⟩], none⟩ _ ?_
    (try go_frame)
    refine wpAnyH_ready (rs := [11, 15]) (by kernel_rfl) (by simp) ?_
    refine AllReadyH.cons (o := ⟨some 73, .call ⟨.invoke (.tmp 68) "Do", #[.tmp 70, .tmp 72], #[3, 36]⟩, 95, "world.go:245", #[⟨6, .data⟩, ⟨8, .data⟩, ⟨10, .data⟩], none⟩) (by rfl) (fun K hK => ?_) (AllReadyH.cons (o := ⟨some 7, .alloc 94, 0, "world.go:245", #[], none⟩) (by rfl) (fun K hK => ?_) AllReadyH.nil)
    · go_simp
      refine (HBX.out _ (by repeat (first | exact Below.refl _ _ | refine Below.drew ?_ | refine Below.alloc ?_ (by first | (simp; done) | (simp; omega)) _))).mono ?_
      rintro e w5 ⟨rfl, hg5⟩
      have hf5 := hg5.fr
      have HG5 := hide hg5
      clear hg5
      go_wp2_with fail
      refine hK.out _ _ ?_ (fun hHeld => ?_)
      · exact keepD hHeld (hf5.block _ (by first | exact hbLl | (simp; omega)) hnL) (hf5.block _ (by first | exact hbXl | (simp; omega)) hnX2) (hf5.block _ (by first | exact hzw | (simp; omega)) hnX)
      clear hK K
      (try go_frame)
      refine tk1 12 ⟨some 61, .move (.tmp 73), 95, "world.go:245", #[⟨11, .data⟩], none⟩ _ ?_
      (try go_frame)
      refine tk1 13 ⟨some 74, .extract (.tmp 61) 0, 94, "world.go:245", #[⟨12, .data⟩], none⟩ _ ?_
      (try go_frame)
      refine tk1 14 ⟨some 75, .extract (.tmp 61) 1, 46, "world.go:245", #[⟨12, .data⟩, { on := 16, ground := Go.Ground.gcOnly Go.Departure.lateStores }], none⟩ _ ?_
      (try go_frame)
      refine wpAnyH_ready (rs := [15]) (by kernel_rfl) (by simp) ?_
      refine AllReadyH.cons (o := ⟨some 7, .alloc 94, 0, "world.go:245", #[], none⟩) (by rfl) (fun K hK => ?_) AllReadyH.nil
      go_simp
      refine hK.out _ _ ?_ (fun hHeld => ?_)
      · exact keepD hHeld ((below_alloc _ _).block _ (by first | exact hbLl | (have q := hf5.size; simp at q; omega))) ((below_alloc _ _).block _ (by first | exact hbXl | (have q := hf5.size; simp at q; omega))) ((below_alloc _ _).block _ (by first | exact hzw | (have q := hf5.size; simp at q; omega)))
      clear hK K
      (try go_frame)
      refine wpAnyH_ready (rs := [16]) (by kernel_rfl) (by simp) ?_
      refine AllReadyH.cons (o := ⟨none, .store 94 (.tmp 7) (.tmp 74), 0, "world.go:245", #[⟨15, .data⟩, ⟨13, .data⟩, ⟨11, .chain⟩, ⟨0, .phase⟩, ⟨1, .phase⟩, ⟨2, .phase⟩, ⟨3, .phase⟩, ⟨4, .phase⟩, ⟨5, .phase⟩, ⟨6, .phase⟩, ⟨7, .phase⟩, ⟨8, .phase⟩, ⟨9, .phase⟩, ⟨10, .phase⟩, ⟨11, .phase⟩, ⟨12, .phase⟩, ⟨13, .phase⟩, { on := 14, ground := Go.Ground.textOnly Go.Departure.lateStores }, ⟨15, .phase⟩], none⟩) (by rfl) (fun K hK => ?_) AllReadyH.nil
      rw [if_pos (by rfl)]
      refine wp_store_mid _ _ _ rfl _ 0 #[.int .i64 rs, .int .i64 rv] rfl rfl ?_ (by kernel_rfl) (by simp [Value.oneCell']) ?_
      · first | exact Row.there (Row.new _ [_, _] _) (by simp) | exact Row.there (RNA.out _ hf5) (by simp)
      refine hK.out _ _ ?_ (fun hHeld => ?_)
      · exact keepD hHeld (setCells_other _ _ _ _ (by first | omega | (have q := hf5.size; simp at q; omega))) (setCells_other _ _ _ _ (by first | omega | (have q := hf5.size; simp at q; omega))) (setCells_other _ _ _ _ (by first | omega | (have q := hf5.size; simp at q; omega)))
      clear hK K
      (try go_frame)
      refine tk1 17 ⟨some 8, .assign (.tmp 75), 46, "world.go:245", #[⟨14, .data⟩, ⟨16, .chain⟩, ⟨0, .phase⟩, ⟨1, .phase⟩, ⟨2, .phase⟩, ⟨3, .phase⟩, ⟨4, .phase⟩, ⟨5, .phase⟩, ⟨6, .phase⟩, ⟨7, .phase⟩, ⟨8, .phase⟩, ⟨9, .phase⟩, ⟨10, .phase⟩, ⟨11, .phase⟩, ⟨12, .phase⟩, ⟨13, .phase⟩, ⟨14, .phase⟩, ⟨15, .phase⟩, ⟨16, .phase⟩], none⟩ _ ?_
      (try go_frame)
      refine wpAnyH_done (by kernel_rfl) ?_ _
      (try go_wp2_with fail)
      go_meet
      case rel =>
        first
          | exact ⟨w5.heap.size, rfl, rfl, ((Row.new w5 [.int .i64 0, .int .i64 0] 94).set 0 _).set 1 _, hf5.size, XGo.boxB HX.out (XGo.undrew HX.out HG5.out) _ [.int .i64 rs, .int .i64 rv]⟩
          | exact ⟨W.heap.size, rfl, rfl, ((RNA.out _ hf5).set 0 _).set 1 _, Nat.le_refl _, XGo.boxA HX.out (Below.drew (below_alloc W _)) HXL.out (by simp) HG5.out [.int .i64 rs, .int .i64 rv]⟩
    · go_simp
      refine hK.out _ _ ?_ (fun hHeld => ?_)
      · exact keepD hHeld ((below_alloc _ _).block _ (by first | exact hbLl | (have q := hf5.size; simp at q; omega))) ((below_alloc _ _).block _ (by first | exact hbXl | (have q := hf5.size; simp at q; omega))) ((below_alloc _ _).block _ (by first | exact hzw | (have q := hf5.size; simp at q; omega)))
      clear hK K
      (try go_frame)
      refine wpAnyH_ready (rs := [11]) (by kernel_rfl) (by simp) ?_
      refine AllReadyH.cons (o := ⟨some 73, .call ⟨.invoke (.tmp 68) "Do", #[.tmp 70, .tmp 72], #[3, 36]⟩, 95, "world.go:245", #[⟨6, .data⟩, ⟨8, .data⟩, ⟨10, .data⟩], none⟩) (by rfl) (fun K hK => ?_) AllReadyH.nil
      go_simp
      refine (HBX.out _ (by repeat (first | exact Below.refl _ _ | refine Below.drew ?_ | refine Below.alloc ?_ (by first | (simp; done) | (simp; omega)) _))).mono ?_
      rintro e w5 ⟨rfl, hg5⟩
      have hf5 := hg5.fr
      have HG5 := hide hg5
      clear hg5
      go_wp2_with fail
      refine hK.out _ _ ?_ (fun hHeld => ?_)
      · exact keepD hHeld (hf5.block _ (by first | exact hbLl | (simp; omega)) hnL) (hf5.block _ (by first | exact hbXl | (simp; omega)) hnX2) (hf5.block _ (by first | exact hzw | (simp; omega)) hnX)
      clear hK K
      (try go_frame)
      refine tk1 12 ⟨some 61, .move (.tmp 73), 95, "world.go:245", #[⟨11, .data⟩], none⟩ _ ?_
      (try go_frame)
      refine tk1 13 ⟨some 74, .extract (.tmp 61) 0, 94, "world.go:245", #[⟨12, .data⟩], none⟩ _ ?_
      (try go_frame)
      refine tk1 14 ⟨some 75, .extract (.tmp 61) 1, 46, "world.go:245", #[⟨12, .data⟩, { on := 16, ground := Go.Ground.gcOnly Go.Departure.lateStores }], none⟩ _ ?_
      (try go_frame)
      refine wpAnyH_ready (rs := [16]) (by kernel_rfl) (by simp) ?_
      refine AllReadyH.cons (o := ⟨none, .store 94 (.tmp 7) (.tmp 74), 0, "world.go:245", #[⟨15, .data⟩, ⟨13, .data⟩, ⟨11, .chain⟩, ⟨0, .phase⟩, ⟨1, .phase⟩, ⟨2, .phase⟩, ⟨3, .phase⟩, ⟨4, .phase⟩, ⟨5, .phase⟩, ⟨6, .phase⟩, ⟨7, .phase⟩, ⟨8, .phase⟩, ⟨9, .phase⟩, ⟨10, .phase⟩, ⟨11, .phase⟩, ⟨12, .phase⟩, ⟨13, .phase⟩, { on := 14, ground := Go.Ground.textOnly Go.Departure.lateStores }, ⟨15, .phase⟩], none⟩) (by rfl) (fun K hK => ?_) AllReadyH.nil
      rw [if_pos (by rfl)]
      refine wp_store_mid _ _ _ rfl _ 0 #[.int .i64 rs, .int .i64 rv] rfl rfl ?_ (by kernel_rfl) (by simp [Value.oneCell']) ?_
      · first | exact Row.there (Row.new _ [_, _] _) (by simp) | exact Row.there (RNA.out _ hf5) (by simp)
      refine hK.out _ _ ?_ (fun hHeld => ?_)
      · exact keepD hHeld (setCells_other _ _ _ _ (by first | omega | (have q := hf5.size; simp at q; omega))) (setCells_other _ _ _ _ (by first | omega | (have q := hf5.size; simp at q; omega))) (setCells_other _ _ _ _ (by first | omega | (have q := hf5.size; simp at q; omega)))
      clear hK K
      (try go_frame)
      refine tk1 17 ⟨some 8, .assign (.tmp 75), 46, "world.go:245", #[⟨14, .data⟩, ⟨16, .chain⟩, ⟨0, .phase⟩, ⟨1, .phase⟩, ⟨2, .phase⟩, ⟨3, .phase⟩, ⟨4, .phase⟩, ⟨5, .phase⟩, ⟨6, .phase⟩, ⟨7, .phase⟩, ⟨8, .phase⟩, ⟨9, .phase⟩, ⟨10, .phase⟩, ⟨11, .phase⟩, ⟨12, .phase⟩, ⟨13, .phase⟩, ⟨14, .phase⟩, ⟨15, .phase⟩, ⟨16, .phase⟩], none⟩ _ ?_
      (try go_frame)
      refine wpAnyH_done (by kernel_rfl) ?_ _
      (try go_wp2_with fail)
      go_meet
      case rel =>
        first
          | exact ⟨w5.heap.size, rfl, rfl, ((Row.new w5 [.int .i64 0, .int .i64 0] 94).set 0 _).set 1 _, hf5.size, XGo.boxB HX.out (XGo.undrew HX.out HG5.out) _ [.int .i64 rs, .int .i64 rv]⟩
          | exact ⟨W.heap.size, rfl, rfl, ((RNA.out _ hf5).set 0 _).set 1 _, Nat.le_refl _, XGo.boxA HX.out (Below.drew (below_alloc W _)) HXL.out (by simp) HG5.out [.int .i64 rs, .int .i64 rv]⟩
  case rest =>
    rename World => W5
    obtain ⟨b7, rfl, rfl, hr7, h7, hgx⟩ := hcut
    have hlx := HL.out.xgo HX.out hgx
    have rb : Row W5 w.heap.size 38 _ := HR.out.of_block (hgx.fr.block _ HR.out.lt hnX)
    have e1 := rb.cell_of (i := 1) rfl
    have e3 := rb.cell_of (i := 3) rfl
    have e4 := rb.cell_of (i := 4) rfl
    have e5 := rb.cell_of (i := 5) rfl
    have s1 : W5.cell? ⟨A.bL, 1, none⟩ = some (.pointer (some ⟨D.b, 0, none⟩)) := hlx.row.cell_of rfl
    have HLX := hide hlx
    have HRB := hide rb
    have HR7 := hide hr7
    have HGX := hide hgx
    have h7l : b7 < W5.heap.size := hr7.lt
    have hn7 : ¬ SD b7 := fun c9 => by have := HL.out.d.doc.lt b7 c9; omega
    clear hlx rb hr7 hgx d0 dx b0 b1 b3 b4 b5 hmx hcx
    go_upto_region 12 with fail
    go_cut [9, 10] (fun p9 e10 w' => ∃ b9 : Nat, p9 = .pointer (some ⟨b9, 0, none⟩) ∧ e10 = .int .i64 re ∧ Row w' b9 94 [.int .i64 rs, .int .i64 rv] ∧ Row w' b7 94 [.int .i64 rs, .int .i64 rv] ∧ DGo P AuT D SD W5 Y' w')
    case first =>
      have hbLl : A.bL < W5.heap.size := HLX.out.row.lt
      have hbDl : D.b < W5.heap.size := by obtain ⟨_, _, _, _, _, q⟩ := HLX.out.d.doc; exact q.obj.lt
      have hzw5 : w.heap.size < W5.heap.size := HRB.out.lt
      have hnL : ¬ SD A.bL := fun c9 => (HL.out.dd _ c9).2.1 rfl
      have hnW : ¬ SD W5.heap.size := fun c9 => by have := HLX.out.d.doc.lt _ c9; omega
      have HDW := hide HLX.out.d
      have RNA := hide (show ∀ w5, Fr SD (W5.alloc (.cells #[.int .i64 0, .int .i64 0] 94)).drew w5 → Row w5 W5.heap.size 94 [.int .i64 0, .int .i64 0] from fun w5 hf => (show Row (W5.alloc (.cells #[.int .i64 0, .int .i64 0] 94)).drew W5.heap.size 94 [.int .i64 0, .int .i64 0] from Row.new W5 [.int .i64 0, .int .i64 0] _).of_block (hf.block _ (by simp) hnW))
      have HBD := hide (fun (Wa : World) (hB : Below W5.heap.size W5 Wa) => HT.out Wa (HDW.out.stay2 (fun k hk => hB.block k (HDW.out.doc.lt k hk)) hB.size))
      have s0 : W5.cell? ⟨A.bL, 0, none⟩ = some (.pointer (some ⟨A.bX, 0, none⟩)) := HLX.out.row.cell_of rfl
      refine wp_region_held_drew (S := (fun w' => w'.cell? ⟨A.bL, 0, none⟩ = some (.pointer (some ⟨A.bX, 0, none⟩)) ∧ w'.cell? ⟨A.bL, 1, none⟩ = some (.pointer (some ⟨D.b, 0, none⟩)) ∧ w'.cell? ⟨w.heap.size, 1, none⟩ = some (.int .i64 x) ∧ w'.cell? ⟨w.heap.size, 3, none⟩ = some (.int .i64 c) ∧ w'.cell? ⟨w.heap.size, 4, none⟩ = some (.int .i64 a) ∧ w'.cell? ⟨w.heap.size, 5, none⟩ = some (.int .i64 b))) (by kernel_rfl) ?_ (fun hHeld => ?_)
      · exact ⟨s0, s1, e1, e3, e4, e5⟩
      refine tk1 0 ⟨some 77, .move (.tmp 0), 31, "world.go:246", #[], none⟩ _ ?_
      (try go_frame)
      refine tk1 1 ⟨some 78, .nilCheck (.tmp 77), 0, "world.go:246", #[⟨0, .data⟩], none⟩ _ ?_
      (try go_frame)
      refine tk1 2 ⟨some 79, .fieldAddr 90 (.tmp 78) 1, 0, "world.go:246", #[⟨1, .data⟩], none⟩ _ ?_
      (try go_frame)
      refine tk1 3 ⟨some 80, .load 82 (.tmp 79), 82, "world.go:246", #[⟨2, .data⟩], none⟩ _ ?_
      (try go_frame)
      refine tk1 4 ⟨some 81, .fieldAddr 38 (.tmp 3) 1, 0, "world.go:246", #[], none⟩ _ ?_
      (try go_frame)
      refine tk1 5 ⟨some 82, .load 3 (.tmp 81), 3, "world.go:246", #[⟨4, .data⟩], none⟩ _ ?_
      (try go_frame)
      refine tk1 6 ⟨some 83, .fieldAddr 38 (.tmp 3) 3, 0, "world.go:246", #[], none⟩ _ ?_
      (try go_frame)
      refine tk1 7 ⟨some 84, .load 36 (.tmp 83), 36, "world.go:246", #[⟨6, .data⟩], none⟩ _ ?_
      (try go_frame)
      refine wpAnyH_ready (rs := [8, 12]) (by kernel_rfl) (by simp) ?_
      refine AllReadyH.cons (o := ⟨some 85, .call ⟨.value (.func 47), #[.tmp 80, .tmp 82, .tmp 84], #[82, 3, 36]⟩, 95, "world.go:246", #[⟨3, .data⟩, ⟨5, .data⟩, ⟨7, .data⟩], none⟩) (by rfl) (fun K hK => ?_) (AllReadyH.cons (o := ⟨some 9, .alloc 94, 0, "world.go:246", #[], none⟩) (by rfl) (fun K hK => ?_) AllReadyH.nil)
      · go_simp
        refine (HBD.out _ (by repeat (first | exact Below.refl _ _ | refine Below.drew ?_ | refine Below.alloc ?_ (by first | (simp; done) | (simp; omega)) _))).mono ?_
        rintro e w5 ⟨rfl, hg5⟩
        have hf5 := hg5.fr
        have HG5 := hide hg5
        clear hg5
        go_wp2_with fail
        refine hK.out _ _ ?_ (fun hHeld => ?_)
        · exact keepD hHeld (hf5.block _ (by first | exact hbLl | (simp; omega)) hnL) (hf5.block _ (by first | exact hbLl | (simp; omega)) hnL) (hf5.block _ (by first | exact hzw5 | (simp; omega)) hnD)
        clear hK K
        (try go_frame)
        refine tk1 9 ⟨some 76, .move (.tmp 85), 95, "world.go:246", #[⟨8, .data⟩], none⟩ _ ?_
        (try go_frame)
        refine tk1 10 ⟨some 86, .extract (.tmp 76) 0, 94, "world.go:246", #[⟨9, .data⟩], none⟩ _ ?_
        (try go_frame)
        refine tk1 11 ⟨some 87, .extract (.tmp 76) 1, 46, "world.go:246", #[⟨9, .data⟩, { on := 13, ground := Go.Ground.gcOnly Go.Departure.lateStores }], none⟩ _ ?_
        (try go_frame)
        refine wpAnyH_ready (rs := [12]) (by kernel_rfl) (by simp) ?_
        refine AllReadyH.cons (o := ⟨some 9, .alloc 94, 0, "world.go:246", #[], none⟩) (by rfl) (fun K hK => ?_) AllReadyH.nil
        go_simp
        refine hK.out _ _ ?_ (fun hHeld => ?_)
        · exact keepD hHeld ((below_alloc _ _).block _ (by first | exact hbLl | (have q := hf5.size; simp at q; omega))) ((below_alloc _ _).block _ (by first | exact hbLl | (have q := hf5.size; simp at q; omega))) ((below_alloc _ _).block _ (by first | exact hzw5 | (have q := hf5.size; simp at q; omega)))
        clear hK K
        (try go_frame)
        refine wpAnyH_ready (rs := [13]) (by kernel_rfl) (by simp) ?_
        refine AllReadyH.cons (o := ⟨none, .store 94 (.tmp 9) (.tmp 86), 0, "world.go:246", #[⟨12, .data⟩, ⟨10, .data⟩, ⟨8, .chain⟩, ⟨0, .phase⟩, ⟨1, .phase⟩, ⟨2, .phase⟩, ⟨3, .phase⟩, ⟨4, .phase⟩, ⟨5, .phase⟩, ⟨6, .phase⟩, ⟨7, .phase⟩, ⟨8, .phase⟩, ⟨9, .phase⟩, ⟨10, .phase⟩, { on := 11, ground := Go.Ground.textOnly Go.Departure.lateStores }, ⟨12, .phase⟩], none⟩) (by rfl) (fun K hK => ?_) AllReadyH.nil
        rw [if_pos (by rfl)]
        refine wp_store_mid _ _ _ rfl _ 0 #[.int .i64 rs, .int .i64 rv] rfl rfl ?_ (by kernel_rfl) (by simp [Value.oneCell']) ?_
        · first | exact Row.there (Row.new _ [_, _] _) (by simp) | exact Row.there (RNA.out _ hf5) (by simp)
        refine hK.out _ _ ?_ (fun hHeld => ?_)
        · exact keepD hHeld (setCells_other _ _ _ _ (by first | omega | (have q := hf5.size; simp at q; omega))) (setCells_other _ _ _ _ (by first | omega | (have q := hf5.size; simp at q; omega))) (setCells_other _ _ _ _ (by first | omega | (have q := hf5.size; simp at q; omega)))
        clear hK K
        (try go_frame)
        refine tk1 14 ⟨some 10, .assign (.tmp 87), 46, "world.go:246", #[⟨11, .data⟩, ⟨13, .chain⟩, ⟨0, .phase⟩, ⟨1, .phase⟩, ⟨2, .phase⟩, ⟨3, .phase⟩, ⟨4, .phase⟩, ⟨5, .phase⟩, ⟨6, .phase⟩, ⟨7, .phase⟩, ⟨8, .phase⟩, ⟨9, .phase⟩, ⟨10, .phase⟩, ⟨11, .phase⟩, ⟨12, .phase⟩, ⟨13, .phase⟩], none⟩ _ ?_
        (try go_frame)
        refine wpAnyH_done (by kernel_rfl) ?_ _
        (try go_wp2_with fail)
        go_meet
        case rel =>
          first
            | exact ⟨w5.heap.size, rfl, rfl, ((Row.new w5 [.int .i64 0, .int .i64 0] 94).set 0 _).set 1 _, (HR7.out.of_block (hf5.block _ h7l hn7)).of_block ((setCells_other [.int .i64 rs, .int .i64 rv] 0 _ _ (by have q := hf5.size; simp at q; omega)).trans ((below_alloc _ _).block _ (by have q := hf5.size; simp at q; omega))), DGo.boxB HDS.out HDW.out (DGo.undrew HDS.out HDW.out HG5.out) _ [.int .i64 rs, .int .i64 rv]⟩
            | exact ⟨W5.heap.size, rfl, rfl, ((RNA.out _ hf5).set 0 _).set 1 _, ((HR7.out.alloc _).of_block (hf5.block _ (by simp; omega) hn7)).of_block (setCells_other [.int .i64 rs, .int .i64 rv] 0 _ _ (by omega)), DGo.boxA HDS.out HDW.out (Below.drew (below_alloc W5 _)) (by simp) HG5.out [.int .i64 rs, .int .i64 rv]⟩
      · go_simp
        refine hK.out _ _ ?_ (fun hHeld => ?_)
        · exact keepD hHeld ((below_alloc _ _).block _ (by first | exact hbLl | (have q := hf5.size; simp at q; omega))) ((below_alloc _ _).block _ (by first | exact hbLl | (have q := hf5.size; simp at q; omega))) ((below_alloc _ _).block _ (by first | exact hzw5 | (have q := hf5.size; simp at q; omega)))
        clear hK K
        (try go_frame)
        refine wpAnyH_ready (rs := [8]) (by kernel_rfl) (by simp) ?_
        refine AllReadyH.cons (o := ⟨some 85, .call ⟨.value (.func 47), #[.tmp 80, .tmp 82, .tmp 84], #[82, 3, 36]⟩, 95, "world.go:246", #[⟨3, .data⟩, ⟨5, .data⟩, ⟨7, .data⟩], none⟩) (by rfl) (fun K hK => ?_) AllReadyH.nil
        go_simp
        refine (HBD.out _ (by repeat (first | exact Below.refl _ _ | refine Below.drew ?_ | refine Below.alloc ?_ (by first | (simp; done) | (simp; omega)) _))).mono ?_
        rintro e w5 ⟨rfl, hg5⟩
        have hf5 := hg5.fr
        have HG5 := hide hg5
        clear hg5
        go_wp2_with fail
        refine hK.out _ _ ?_ (fun hHeld => ?_)
        · exact keepD hHeld (hf5.block _ (by first | exact hbLl | (simp; omega)) hnL) (hf5.block _ (by first | exact hbLl | (simp; omega)) hnL) (hf5.block _ (by first | exact hzw5 | (simp; omega)) hnD)
        clear hK K
        (try go_frame)
        refine tk1 9 ⟨some 76, .move (.tmp 85), 95, "world.go:246", #[⟨8, .data⟩], none⟩ _ ?_
        (try go_frame)
        refine tk1 10 ⟨some 86, .extract (.tmp 76) 0, 94, "world.go:246", #[⟨9, .data⟩], none⟩ _ ?_
        (try go_frame)
        refine tk1 11 ⟨some 87, .extract (.tmp 76) 1, 46, "world.go:246", #[⟨9, .data⟩, { on := 13, ground := Go.Ground.gcOnly Go.Departure.lateStores }], none⟩ _ ?_
        (try go_frame)
        refine wpAnyH_ready (rs := [13]) (by kernel_rfl) (by simp) ?_
        refine AllReadyH.cons (o := ⟨none, .store 94 (.tmp 9) (.tmp 86), 0, "world.go:246", #[⟨12, .data⟩, ⟨10, .data⟩, ⟨8, .chain⟩, ⟨0, .phase⟩, ⟨1, .phase⟩, ⟨2, .phase⟩, ⟨3, .phase⟩, ⟨4, .phase⟩, ⟨5, .phase⟩, ⟨6, .phase⟩, ⟨7, .phase⟩, ⟨8, .phase⟩, ⟨9, .phase⟩, ⟨10, .phase⟩, { on := 11, ground := Go.Ground.textOnly Go.Departure.lateStores }, ⟨12, .phase⟩], none⟩) (by rfl) (fun K hK => ?_) AllReadyH.nil
        rw [if_pos (by rfl)]
        refine wp_store_mid _ _ _ rfl _ 0 #[.int .i64 rs, .int .i64 rv] rfl rfl ?_ (by kernel_rfl) (by simp [Value.oneCell']) ?_
        · first | exact Row.there (Row.new _ [_, _] _) (by simp) | exact Row.there (RNA.out _ hf5) (by simp)
        refine hK.out _ _ ?_ (fun hHeld => ?_)
        · exact keepD hHeld (setCells_other _ _ _ _ (by first | omega | (have q := hf5.size; simp at q; omega))) (setCells_other _ _ _ _ (by first | omega | (have q := hf5.size; simp at q; omega))) (setCells_other _ _ _ _ (by first | omega | (have q := hf5.size; simp at q; omega)))
        clear hK K
        (try go_frame)
        refine tk1 14 ⟨some 10, .assign (.tmp 87), 46, "world.go:246", #[⟨11, .data⟩, ⟨13, .chain⟩, ⟨0, .phase⟩, ⟨1, .phase⟩, ⟨2, .phase⟩, ⟨3, .phase⟩, ⟨4, .phase⟩, ⟨5, .phase⟩, ⟨6, .phase⟩, ⟨7, .phase⟩, ⟨8, .phase⟩, ⟨9, .phase⟩, ⟨10, .phase⟩, ⟨11, .phase⟩, ⟨12, .phase⟩, ⟨13, .phase⟩], none⟩ _ ?_
        (try go_frame)
        refine wpAnyH_done (by kernel_rfl) ?_ _
        (try go_wp2_with fail)
        go_meet
        case rel =>
          first
            | exact ⟨w5.heap.size, rfl, rfl, ((Row.new w5 [.int .i64 0, .int .i64 0] 94).set 0 _).set 1 _, (HR7.out.of_block (hf5.block _ h7l hn7)).of_block ((setCells_other [.int .i64 rs, .int .i64 rv] 0 _ _ (by have q := hf5.size; simp at q; omega)).trans ((below_alloc _ _).block _ (by have q := hf5.size; simp at q; omega))), DGo.boxB HDS.out HDW.out (DGo.undrew HDS.out HDW.out HG5.out) _ [.int .i64 rs, .int .i64 rv]⟩
            | exact ⟨W5.heap.size, rfl, rfl, ((RNA.out _ hf5).set 0 _).set 1 _, ((HR7.out.alloc _).of_block (hf5.block _ (by simp; omega) hn7)).of_block (setCells_other [.int .i64 rs, .int .i64 rv] 0 _ _ (by omega)), DGo.boxA HDS.out HDW.out (Below.drew (below_alloc W5 _)) (by simp) HG5.out [.int .i64 rs, .int .i64 rv]⟩
    case rest =>
      obtain ⟨b9, rfl, rfl, hr9, hr7, hd⟩ := hcut
      have y0 := hr7.cell_of (i := 0) rfl
      have y1 := hr7.cell_of (i := 1) rfl
      have z0 := hr9.cell_of (i := 0) rfl
      have z1 := hr9.cell_of (i := 1) rfl
      have HF := hide ((HL.out.both HX.out HU.out.1 HU.out.2.1 HU.out.2.2.1 HU.out.2.2.2 HGX.out hd).made HB.out)
      clear hr9 hr7 hd e1 e3 e4 e5 s1
      go_wp2_with fail
      go_ret
      exact ⟨ret_bool (by simp), _, HF.out, HLIM.out⟩
end
end Go.Proofs.YtefjhnhdagolhaaGreat
