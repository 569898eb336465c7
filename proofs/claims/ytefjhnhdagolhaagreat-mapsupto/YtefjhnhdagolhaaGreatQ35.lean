import Derived.Test.YtefjhnhdagolhaaGreatQ34
import Derived.Deep.DeepCutAuto
namespace Go.Proofs.YtefjhnhdagolhaaGreat
open Go.RowKit
open M (upd upd_same upd_other RSt RTh cnt marks tagged num YI)
attribute [local go_sem ↓] Go.wp_at_zero Go.wp_at_succ
section
variable {σ : Type} {P : M.Plain σ} {tell : σ → List Int} {sz : σ → Nat} {HM : World → Value → σ → Prop} {D : DL} {X : (Nat → Prop) → RSt → World → Prop} {A : LL} {Y : RSt} {w : World} {fBe fSt fAn fDo fOr fTe fBo Z K : Nat} {U : Nat → Prop}
theorem setCells_other {b : Nat} : ∀ (vs : List Value) (o : Nat) (W : World) (k : Nat), k ≠ b → (W.setCells b o vs).heap[k]? = W.heap[k]?
  | [], _, _, _, _ => rfl
  | v :: vs, o, W, k, hk => by
    show ((W.setCell ⟨b, o, none⟩ v).setCells b (o + 1) vs).heap[k]? = _
    rw [setCells_other vs (o + 1) _ k hk, Below.heap_setCell _ _ _ k hk]
theorem setCells_size {b : Nat} : ∀ (vs : List Value) (o : Nat) (W : World), (W.setCells b o vs).heap.size = W.heap.size
  | [], _, _ => rfl
  | v :: vs, o, W => by
    show ((W.setCell ⟨b, o, none⟩ v).setCells b (o + 1) vs).heap.size = _
    rw [setCells_size vs (o + 1) _]
    simp [World.setCell]
theorem setCells_rest {b : Nat} : ∀ (vs : List Value) (o : Nat) (W : World), (W.setCells b o vs).os = W.os ∧ (W.setCells b o vs).tape = W.tape ∧ (W.setCells b o vs).output = W.output
  | [], _, _ => ⟨rfl, rfl, rfl⟩
  | v :: vs, o, W => by
    have := setCells_rest (b := b) vs (o + 1) (W.setCell ⟨b, o, none⟩ v)
    exact this
theorem keepD {w1 w2 : World} {b1 o1 b2 o2 b3 o3 o4 o5 o6 : Nat} {v1 v2 v3 v4 v5 v6 : Value} (h : w1.cell? ⟨b1, o1, none⟩ = some v1 ∧ w1.cell? ⟨b2, o2, none⟩ = some v2 ∧ w1.cell? ⟨b3, o3, none⟩ = some v3 ∧ w1.cell? ⟨b3, o4, none⟩ = some v4 ∧ w1.cell? ⟨b3, o5, none⟩ = some v5 ∧ w1.cell? ⟨b3, o6, none⟩ = some v6)
    (h1 : w2.heap[b1]? = w1.heap[b1]?) (h2 : w2.heap[b2]? = w1.heap[b2]?) (h3 : w2.heap[b3]? = w1.heap[b3]?) : w2.cell? ⟨b1, o1, none⟩ = some v1 ∧ w2.cell? ⟨b2, o2, none⟩ = some v2 ∧ w2.cell? ⟨b3, o3, none⟩ = some v3 ∧ w2.cell? ⟨b3, o4, none⟩ = some v4 ∧ w2.cell? ⟨b3, o5, none⟩ = some v5 ∧ w2.cell? ⟨b3, o6, none⟩ = some v6 :=
  ⟨ptr_block h.1 h1, ptr_block h.2.1 h2, ptr_block h.2.2.1 h3, ptr_block h.2.2.2.1 h3, ptr_block h.2.2.2.2.1 h3, ptr_block h.2.2.2.2.2 h3⟩
theorem XGo.boxA {S : Nat → Prop} {Y' : RSt} {Wa w5 : World} (xo : XOk P tell D A.tE A.bN X fBe fSt fAn fDo fOr fTe fBo) (hb : Below w.heap.size w Wa) (hS : ∀ k, S k → k < w.heap.size) (hz : w.heap.size < Wa.heap.size) (h : XGo X S Wa Y' w5) (vs : List Value) : XGo X S w Y' (w5.setCells w.heap.size 0 vs) := by
  have hs := h.fr.size
  refine ⟨xo.stay _ _ _ _ _ h.x (fun k hk => setCells_other vs 0 w5 k ?_) (fun k hk => ?_) (fun k hk => ?_), ?_⟩
  · rintro rfl
    rcases hk with c | c
    · have := hS _ c; omega
    · omega
  · rcases hk with c | c
    · exact .inl c
    · exact .inr ⟨by omega, by rw [setCells_size]; exact c.2⟩
  · rw [setCells_size]
    rcases hk with c | c
    · have := hS k c; omega
    · have := c.2; rw [setCells_size] at this; exact this
  · obtain ⟨q1, q2, q3⟩ := setCells_rest (b := w.heap.size) vs 0 w5
    refine ⟨q1.trans (h.fr.os.trans hb.os), q2.trans (h.fr.tape.trans hb.tape), q3.trans (h.fr.output.trans hb.output), by rw [setCells_size]; omega, fun k hk hn => ?_⟩
    rw [setCells_other vs 0 w5 k (by omega), h.fr.block k (by omega) hn]
    exact hb.block k hk
theorem XGo.boxB {S : Nat → Prop} {Y' : RSt} {w5 : World} (xo : XOk P tell D A.tE A.bN X fBe fSt fAn fDo fOr fTe fBo) (h : XGo X S w Y' w5) (ob : Obj) (vs : List Value) : XGo X S w Y' ((w5.alloc ob).setCells w5.heap.size 0 vs) := h.later xo (below_setCells (Nat.le_refl _) _ _ _ (below_alloc _ _))
theorem DGo.boxA {S : Nat → Prop} {Y' : RSt} {Wa w5 : World} (ds : DS P tell sz HM AuT D) (hw : DW P AuT D S Y w) (hb : Below w.heap.size w Wa) (hz : w.heap.size < Wa.heap.size) (h : DGo P AuT D S Wa Y' w5) (vs : List Value) : DGo P AuT D S w Y' (w5.setCells w.heap.size 0 vs) := by
  have hs := h.fr.size
  have hS := hw.doc.lt
  refine hw.left ds ⟨h.dw.doc.stay (fun k hk => setCells_other vs 0 w5 k ?_) (fun k hk => ?_) (fun k hk => ?_), ?_⟩ h.dw.yi
  · rintro rfl
    rcases hk with c | c
    · have := hS _ c; omega
    · omega
  · rcases hk with c | c
    · exact .inl c
    · exact .inr ⟨by omega, by rw [setCells_size]; exact c.2⟩
  · rw [setCells_size]
    rcases hk with c | c
    · have := hS k c; omega
    · have := c.2; rw [setCells_size] at this; exact this
  · obtain ⟨q1, q2, q3⟩ := setCells_rest (b := w.heap.size) vs 0 w5
    refine ⟨q1.trans (h.fr.os.trans hb.os), q2.trans (h.fr.tape.trans hb.tape), q3.trans (h.fr.output.trans hb.output), by rw [setCells_size]; omega, fun k hk hn => ?_⟩
    rw [setCells_other vs 0 w5 k (by omega), h.fr.block k (by omega) hn]
    exact hb.block k hk
theorem DGo.later {S : Nat → Prop} {Y' : RSt} {w5 w6 : World} (ds : DS P tell sz HM AuT D) (hw : DW P AuT D S Y w) (h : DGo P AuT D S w Y' w5) (hb : Below w5.heap.size w5 w6) : DGo P AuT D S w Y' w6 :=
  hw.left ds ((⟨h.dw.doc, h.fr⟩ : DLeft D S w Y' w5).next (DLeft.below h.dw.doc hb)) h.dw.yi
theorem DGo.boxB {S : Nat → Prop} {Y' : RSt} {w5 : World} (ds : DS P tell sz HM AuT D) (hw : DW P AuT D S Y w) (h : DGo P AuT D S w Y' w5) (ob : Obj) (vs : List Value) : DGo P AuT D S w Y' ((w5.alloc ob).setCells w5.heap.size 0 vs) := h.later ds hw (below_setCells (Nat.le_refl _) _ _ _ (below_alloc _ _))
theorem XGo.undrew {S : Nat → Prop} {Y' : RSt} {w5 : World} (_xo : XOk P tell D A.tE A.bN X fBe fSt fAn fDo fOr fTe fBo) (h : XGo X S w.drew Y' w5) : XGo X S w Y' w5 := ⟨h.x, ⟨h.fr.os, h.fr.tape, h.fr.output, h.fr.size, h.fr.block⟩⟩
theorem DGo.undrew {S : Nat → Prop} {Y' : RSt} {w5 : World} (_ds : DS P tell sz HM AuT D) (_hw : DW P AuT D S Y w) (h : DGo P AuT D S w.drew Y' w5) : DGo P AuT D S w Y' w5 := ⟨h.dw, ⟨h.fr.os, h.fr.tape, h.fr.output, h.fr.size, h.fr.block⟩⟩
set_option maxRecDepth 20000 in
set_option maxHeartbeats 8000000 in
theorem act_do (xo : XOk P tell D A.tE A.bN X fBe fSt fAn fDo fOr fTe fBo) (ds : DS P tell sz HM AuT D) (h : Law P D X A Z U Y w) (hK : Lim D K Y) (hK9 : K + 10000 ≤ 900000000) (x nn c a b : Int) :
    Calls Tryz.prog 18 #[.pointer (some ⟨A.bL, 0, none⟩), .agg #[.int .i64 4, .int .i64 x, .int .i64 nn, .int .i64 c, .int .i64 a, .int .i64 b]] w fun e w' => e = .returned (.bool true) ∧ ∃ Y', LGo P D X A Z U w Y' w' ∧ Lim D (K + 4000) Y' := by
  have hmx := xo.mDo
  have hcx := xo.cDo
  go_enter Tryz.func18, Tryz.ntmps18
  go_upto_region 1 with fail
  generalize hW : World.alloc w _ = W
  have hb : Below w.heap.size w W := by rw [← hW]; exact below_alloc w _
  have hr : Row W w.heap.size 38 [.int .i64 4, .int .i64 x, .int .i64 nn, .int .i64 c, .int .i64 a, .int .i64 b] := by rw [← hW]; exact Row.new' rfl
  have b0 := hr.cell_of (i := 0) rfl
  have b1 := hr.cell_of (i := 1) rfl
  have b3 := hr.cell_of (i := 3) rfl
  have b4 := hr.cell_of (i := 4) rfl
  have b5 := hr.cell_of (i := 5) rfl
  have hzw : w.heap.size < W.heap.size := hr.lt
  have hnU : ¬ U w.heap.size := fun c9 => by have := h.ul _ c9; omega
  obtain ⟨⟨SX, SD, T, lab, ms, is, es1, es2, hl, hu, z1, z2⟩, ul⟩ := h.at xo hb
  have hnX : ¬ SX w.heap.size := fun c9 => hnU (hu _ (.inl c9))
  have hnD : ¬ SD w.heap.size := fun c9 => hnU (hu _ (.inr (.inl c9)))
  have d0 : W.cell? ⟨A.bL, 0, none⟩ = some (.pointer (some ⟨A.bX, 0, none⟩)) := hl.row.cell_of (i := 0) rfl
  have dx : W.cell? ⟨A.bX, 0, none⟩ = some (.iface A.tE (.pointer (some ⟨A.bN, 0, none⟩))) := hl.obj.cell_of (i := 0) rfl
  obtain ⟨hn1, hn64, hc64⟩ := hl.d.n
  have HLIM := hide (Lim.doZ hl.d.yi hn64 hc64 hK x (⟨c, a, b⟩ : M.Op))
  have HL := hide hl
  have HX := hide xo
  have HDS := hide ds
  have HU := hide (And.intro hu (And.intro ul (And.intro z1 z2)))
  have HBX := hide (fun (Wa : World) (hB : Below W.heap.size W Wa) => xo.dd SX Y Wa x (⟨c, a, b⟩ : M.Op) K (xo.stay _ _ _ _ _ hl.x (fun k hk => hB.block k (hl.xl k hk)) (fun _ q => q) (fun k hk => Nat.lt_of_lt_of_le (hl.xl k hk) hB.size)) hK (by omega))
  have HB := hide hb
  have HR := hide hr
  have HK := hide hK
  unfold tri at HBX
  have HT := hide (show ∀ Wa, DW P AuT D SD Y Wa → Calls Tryz.prog 47 #[.pointer (some ⟨D.b, 0, none⟩), .int .i64 x, .agg #[.int .i64 c, .int .i64 a, .int .i64 b]] Wa fun e w' => e = .returned (tri (doT P D.n D.cap Y x ⟨c, a, b⟩)) ∧ DGo P AuT D SD Wa (doZ D.n D.cap Y x ⟨c, a, b⟩) w' from fun Wa hd => Do_x ds hd hK (by omega) x (⟨c, a, b⟩ : M.Op))
  unfold tri at HT
  generalize (doT P D.n D.cap Y x ⟨c, a, b⟩).1 = rs at *
  generalize (doT P D.n D.cap Y x ⟨c, a, b⟩).2.1 = rv at *
  generalize (doT P D.n D.cap Y x ⟨c, a, b⟩).2.2 = re at *
  generalize doZ D.n D.cap Y x ⟨c, a, b⟩ = Y' at *
  clear hW hr hb h xo ds hl hu ul z1 z2 hK
  go_upto_region 11 with fail
  go_cut [7, 8] (fun p7 e8 w' => ∃ b7 : Nat, p7 = .pointer (some ⟨b7, 0, none⟩) ∧ e8 = .int .i64 re ∧ Row w' b7 94 [.int .i64 rs, .int .i64 rv] ∧ W.heap.size ≤ b7 ∧ XGo X SX W Y' w')
  case first =>
    have hbLl : A.bL < W.heap.size := HL.out.row.lt
    have hbXl : A.bX < W.heap.size := HL.out.obj.lt
    have hnL : ¬ SX A.bL := fun c9 => (HL.out.dx _ c9).2.2.1 rfl
    have hnX2 : ¬ SX A.bX := fun c9 => (HL.out.dx _ c9).2.2.2 rfl
    have hnW : ¬ SX W.heap.size := fun c9 => by have := HL.out.xl _ c9; omega
    have HXL := hide HL.out.xl
    have RNA := hide (show ∀ w5, Fr SX (W.alloc (.cells #[.int .i64 0, .int .i64 0] 94)).drew w5 → Row w5 W.heap.size 94 [.int .i64 0, .int .i64 0] from fun w5 hf => (show Row (W.alloc (.cells #[.int .i64 0, .int .i64 0] 94)).drew W.heap.size 94 [.int .i64 0, .int .i64 0] from Row.new W [.int .i64 0, .int .i64 0] _).of_block (hf.block _ (by simp) hnW))
    refine rg0 (S := (fun w' => w'.cell? ⟨A.bL, 0, none⟩ = some (.pointer (some ⟨A.bX, 0, none⟩)) ∧ w'.cell? ⟨A.bX, 0, none⟩ = some (.iface A.tE (.pointer (some ⟨A.bN, 0, none⟩))) ∧ w'.cell? ⟨w.heap.size, 1, none⟩ = some (.int .i64 x) ∧ w'.cell? ⟨w.heap.size, 3, none⟩ = some (.int .i64 c) ∧ w'.cell? ⟨w.heap.size, 4, none⟩ = some (.int .i64 a) ∧ w'.cell? ⟨w.heap.size, 5, none⟩ = some (.int .i64 b))) 18 rfl (by kernel_rfl) ?_ (fun hHeld => ?_)
    · exact ⟨d0, dx, b1, b3, b4, b5⟩
    iterate 11 (refine tk 17 (by rfl) (by kernel_rfl) (by exact fun _ _ _ h => h) (.inl ⟨by rfl, fun w hS => by (try dsimp only at hS); go_simp; (try with_reducible rfl)⟩) (by assumption) ?_; try go_frame)
    refine wpAnyH_ready (rs := [11, 15]) (by kernel_rfl) (by simp) (rc (by rfl) (fun K hK => ?_) (rc (by rfl) (fun K hK => ?_) AllReadyH.nil))
    · go_simp
      refine (HBX.out _ (by repeat (first | exact Below.refl _ _ | refine Below.drew ?_ | refine Below.alloc ?_ (by first | (simp; done) | (simp; omega)) _))).mono ?_
      rintro e w5 ⟨rfl, hg5⟩
      have hf5 := hg5.fr
      have HG5 := hide hg5
      clear hg5
      go_wp2_with fail
      refine hK.out _ _ ?_ (fun hHeld => ?_)
      · exact keepD hHeld (hf5.block _ (by first | exact hbLl | (simp; omega)) hnL) (hf5.block _ (by first | exact hbXl | (simp; omega)) hnX2) (hf5.block _ (by first | exact hzw | (simp; omega)) hnX)
      clear hK K
      (try go_frame)
      iterate 3 (refine tk 17 (by rfl) (by kernel_rfl) (by exact fun _ _ _ h => h) (.inl ⟨by rfl, fun w hS => by (try dsimp only at hS); go_simp; (try with_reducible rfl)⟩) (by assumption) ?_; try go_frame)
      refine rd1 15 (by rfl) (by kernel_rfl) (fun K hK => ?_)
      go_simp
      refine hK.out _ _ ?_ (fun hHeld => ?_)
      · exact keepD hHeld ((below_alloc _ _).block _ (by first | exact hbLl | (have q := hf5.size; simp at q; omega))) ((below_alloc _ _).block _ (by first | exact hbXl | (have q := hf5.size; simp at q; omega))) ((below_alloc _ _).block _ (by first | exact hzw | (have q := hf5.size; simp at q; omega)))
      clear hK K
      (try go_frame)
      refine rd1 16 (by rfl) (by kernel_rfl) (fun K hK => ?_)
      rw [if_pos (by rfl)]
      refine wp_store_mid _ _ _ rfl _ 0 #[.int .i64 rs, .int .i64 rv] rfl rfl ?_ (by kernel_rfl) (by simp [Value.oneCell']) ?_
      · first | exact Row.there (Row.new _ [_, _] _) (by simp) | exact Row.there (RNA.out _ hf5) (by simp)
      refine hK.out _ _ ?_ (fun hHeld => ?_)
      · exact keepD hHeld (setCells_other _ _ _ _ (by first | omega | (have q := hf5.size; simp at q; omega))) (setCells_other _ _ _ _ (by first | omega | (have q := hf5.size; simp at q; omega))) (setCells_other _ _ _ _ (by first | omega | (have q := hf5.size; simp at q; omega)))
      clear hK K
      (try go_frame)
      iterate 1 (refine tk 17 (by rfl) (by kernel_rfl) (by exact fun _ _ _ h => h) (.inl ⟨by rfl, fun w hS => by (try dsimp only at hS); go_simp; (try with_reducible rfl)⟩) (by assumption) ?_; try go_frame)
      refine wpAnyH_done (by kernel_rfl) ?_ _
      (try go_wp2_with fail)
      go_meet
      case rel =>
        first
          | exact ⟨w5.heap.size, rfl, rfl, ((Row.new w5 [.int .i64 0, .int .i64 0] 94).set 0 _).set 1 _, hf5.size, XGo.boxB HX.out (XGo.undrew HX.out HG5.out) _ [.int .i64 rs, .int .i64 rv]⟩
          | exact ⟨W.heap.size, rfl, rfl, ((RNA.out _ hf5).set 0 _).set 1 _, Nat.le_refl _, XGo.boxA HX.out (Below.drew (below_alloc W _)) HXL.out (by simp) HG5.out [.int .i64 rs, .int .i64 rv]⟩
    · go_simp
      refine hK.out _ _ ?_ (fun hHeld => ?_)
      · exact keepD hHeld ((below_alloc _ _).block _ (by first | exact hbLl | (have q := hf5.size; simp at q; omega))) ((below_alloc _ _).block _ (by first | exact hbXl | (have q := hf5.size; simp at q; omega))) ((below_alloc _ _).block _ (by first | exact hzw | (have q := hf5.size; simp at q; omega)))
      clear hK K
      (try go_frame)
      refine rd1 11 (by rfl) (by kernel_rfl) (fun K hK => ?_)
      go_simp
      refine (HBX.out _ (by repeat (first | exact Below.refl _ _ | refine Below.drew ?_ | refine Below.alloc ?_ (by first | (simp; done) | (simp; omega)) _))).mono ?_
      rintro e w5 ⟨rfl, hg5⟩
      have hf5 := hg5.fr
      have HG5 := hide hg5
      clear hg5
      go_wp2_with fail
      refine hK.out _ _ ?_ (fun hHeld => ?_)
      · exact keepD hHeld (hf5.block _ (by first | exact hbLl | (simp; omega)) hnL) (hf5.block _ (by first | exact hbXl | (simp; omega)) hnX2) (hf5.block _ (by first | exact hzw | (simp; omega)) hnX)
      clear hK K
      (try go_frame)
      iterate 3 (refine tk 16 (by rfl) (by kernel_rfl) (by exact fun _ _ _ h => h) (.inl ⟨by rfl, fun w hS => by (try dsimp only at hS); go_simp; (try with_reducible rfl)⟩) (by assumption) ?_; try go_frame)
      refine rd1 16 (by rfl) (by kernel_rfl) (fun K hK => ?_)
      rw [if_pos (by rfl)]
      refine wp_store_mid _ _ _ rfl _ 0 #[.int .i64 rs, .int .i64 rv] rfl rfl ?_ (by kernel_rfl) (by simp [Value.oneCell']) ?_
      · first | exact Row.there (Row.new _ [_, _] _) (by simp) | exact Row.there (RNA.out _ hf5) (by simp)
      refine hK.out _ _ ?_ (fun hHeld => ?_)
      · exact keepD hHeld (setCells_other _ _ _ _ (by first | omega | (have q := hf5.size; simp at q; omega))) (setCells_other _ _ _ _ (by first | omega | (have q := hf5.size; simp at q; omega))) (setCells_other _ _ _ _ (by first | omega | (have q := hf5.size; simp at q; omega)))
      clear hK K
      (try go_frame)
      iterate 1 (refine tk 17 (by rfl) (by kernel_rfl) (by exact fun _ _ _ h => h) (.inl ⟨by rfl, fun w hS => by (try dsimp only at hS); go_simp; (try with_reducible rfl)⟩) (by assumption) ?_; try go_frame)
      refine wpAnyH_done (by kernel_rfl) ?_ _
      (try go_wp2_with fail)
      go_meet
      case rel =>
        first
          | exact ⟨w5.heap.size, rfl, rfl, ((Row.new w5 [.int .i64 0, .int .i64 0] 94).set 0 _).set 1 _, hf5.size, XGo.boxB HX.out (XGo.undrew HX.out HG5.out) _ [.int .i64 rs, .int .i64 rv]⟩
          | exact ⟨W.heap.size, rfl, rfl, ((RNA.out _ hf5).set 0 _).set 1 _, Nat.le_refl _, XGo.boxA HX.out (Below.drew (below_alloc W _)) HXL.out (by simp) HG5.out [.int .i64 rs, .int .i64 rv]⟩
  case rest =>
    rename World => W5
    obtain ⟨b7, rfl, rfl, hr7, h7, hgx⟩ := hcut
    have hlx := HL.out.xgo HX.out hgx
    have rb : Row W5 w.heap.size 38 _ := HR.out.of_block (hgx.fr.block _ HR.out.lt hnX)
    have e1 := rb.cell_of (i := 1) rfl
    have e3 := rb.cell_of (i := 3) rfl
    have e4 := rb.cell_of (i := 4) rfl
    have e5 := rb.cell_of (i := 5) rfl
    have s1 : W5.cell? ⟨A.bL, 1, none⟩ = some (.pointer (some ⟨D.b, 0, none⟩)) := hlx.row.cell_of rfl
    have HLX := hide hlx
    have HRB := hide rb
    have HR7 := hide hr7
    have HGX := hide hgx
    have h7l : b7 < W5.heap.size := hr7.lt
    have hn7 : ¬ SD b7 := fun c9 => by have := HL.out.d.doc.lt b7 c9; omega
    clear hlx rb hr7 hgx d0 dx b0 b1 b3 b4 b5 hmx hcx
    go_upto_region 12 with fail
    go_cut [9, 10] (fun p9 e10 w' => ∃ b9 : Nat, p9 = .pointer (some ⟨b9, 0, none⟩) ∧ e10 = .int .i64 re ∧ Row w' b9 94 [.int .i64 rs, .int .i64 rv] ∧ Row w' b7 94 [.int .i64 rs, .int .i64 rv] ∧ DGo P AuT D SD W5 Y' w')
    case first =>
      have hbLl : A.bL < W5.heap.size := HLX.out.row.lt
      have hbDl : D.b < W5.heap.size := by obtain ⟨_, _, _, _, _, q⟩ := HLX.out.d.doc; exact q.obj.lt
      have hzw5 : w.heap.size < W5.heap.size := HRB.out.lt
      have hnL : ¬ SD A.bL := fun c9 => (HL.out.dd _ c9).2.1 rfl
      have hnW : ¬ SD W5.heap.size := fun c9 => by have := HLX.out.d.doc.lt _ c9; omega
      have HDW := hide HLX.out.d
      have RNA := hide (show ∀ w5, Fr SD (W5.alloc (.cells #[.int .i64 0, .int .i64 0] 94)).drew w5 → Row w5 W5.heap.size 94 [.int .i64 0, .int .i64 0] from fun w5 hf => (show Row (W5.alloc (.cells #[.int .i64 0, .int .i64 0] 94)).drew W5.heap.size 94 [.int .i64 0, .int .i64 0] from Row.new W5 [.int .i64 0, .int .i64 0] _).of_block (hf.block _ (by simp) hnW))
      have HBD := hide (fun (Wa : World) (hB : Below W5.heap.size W5 Wa) => HT.out Wa (HDW.out.stay2 (fun k hk => hB.block k (HDW.out.doc.lt k hk)) hB.size))
      have s0 : W5.cell? ⟨A.bL, 0, none⟩ = some (.pointer (some ⟨A.bX, 0, none⟩)) := HLX.out.row.cell_of rfl
      refine rg0 (S := (fun w' => w'.cell? ⟨A.bL, 0, none⟩ = some (.pointer (some ⟨A.bX, 0, none⟩)) ∧ w'.cell? ⟨A.bL, 1, none⟩ = some (.pointer (some ⟨D.b, 0, none⟩)) ∧ w'.cell? ⟨w.heap.size, 1, none⟩ = some (.int .i64 x) ∧ w'.cell? ⟨w.heap.size, 3, none⟩ = some (.int .i64 c) ∧ w'.cell? ⟨w.heap.size, 4, none⟩ = some (.int .i64 a) ∧ w'.cell? ⟨w.heap.size, 5, none⟩ = some (.int .i64 b))) 15 rfl (by kernel_rfl) ?_ (fun hHeld => ?_)
      · exact ⟨s0, s1, e1, e3, e4, e5⟩
      iterate 8 (refine tk 14 (by rfl) (by kernel_rfl) (by exact fun _ _ _ h => h) (.inl ⟨by rfl, fun w hS => by (try dsimp only at hS); go_simp; (try with_reducible rfl)⟩) (by assumption) ?_; try go_frame)
      refine wpAnyH_ready (rs := [8, 12]) (by kernel_rfl) (by simp) (rc (by rfl) (fun K hK => ?_) (rc (by rfl) (fun K hK => ?_) AllReadyH.nil))
      · go_simp
        refine (HBD.out _ (by repeat (first | exact Below.refl _ _ | refine Below.drew ?_ | refine Below.alloc ?_ (by first | (simp; done) | (simp; omega)) _))).mono ?_
        rintro e w5 ⟨rfl, hg5⟩
        have hf5 := hg5.fr
        have HG5 := hide hg5
        clear hg5
        go_wp2_with fail
        refine hK.out _ _ ?_ (fun hHeld => ?_)
        · exact keepD hHeld (hf5.block _ (by first | exact hbLl | (simp; omega)) hnL) (hf5.block _ (by first | exact hbLl | (simp; omega)) hnL) (hf5.block _ (by first | exact hzw5 | (simp; omega)) hnD)
        clear hK K
        (try go_frame)
        iterate 3 (refine tk 14 (by rfl) (by kernel_rfl) (by exact fun _ _ _ h => h) (.inl ⟨by rfl, fun w hS => by (try dsimp only at hS); go_simp; (try with_reducible rfl)⟩) (by assumption) ?_; try go_frame)
        refine rd1 12 (by rfl) (by kernel_rfl) (fun K hK => ?_)
        go_simp
        refine hK.out _ _ ?_ (fun hHeld => ?_)
        · exact keepD hHeld ((below_alloc _ _).block _ (by first | exact hbLl | (have q := hf5.size; simp at q; omega))) ((below_alloc _ _).block _ (by first | exact hbLl | (have q := hf5.size; simp at q; omega))) ((below_alloc _ _).block _ (by first | exact hzw5 | (have q := hf5.size; simp at q; omega)))
        clear hK K
        (try go_frame)
        refine rd1 13 (by rfl) (by kernel_rfl) (fun K hK => ?_)
        rw [if_pos (by rfl)]
        refine wp_store_mid _ _ _ rfl _ 0 #[.int .i64 rs, .int .i64 rv] rfl rfl ?_ (by kernel_rfl) (by simp [Value.oneCell']) ?_
        · first | exact Row.there (Row.new _ [_, _] _) (by simp) | exact Row.there (RNA.out _ hf5) (by simp)
        refine hK.out _ _ ?_ (fun hHeld => ?_)
        · exact keepD hHeld (setCells_other _ _ _ _ (by first | omega | (have q := hf5.size; simp at q; omega))) (setCells_other _ _ _ _ (by first | omega | (have q := hf5.size; simp at q; omega))) (setCells_other _ _ _ _ (by first | omega | (have q := hf5.size; simp at q; omega)))
        clear hK K
        (try go_frame)
        iterate 1 (refine tk 14 (by rfl) (by kernel_rfl) (by exact fun _ _ _ h => h) (.inl ⟨by rfl, fun w hS => by (try dsimp only at hS); go_simp; (try with_reducible rfl)⟩) (by assumption) ?_; try go_frame)
        refine wpAnyH_done (by kernel_rfl) ?_ _
        (try go_wp2_with fail)
        go_meet
        case rel =>
          first
            | exact ⟨w5.heap.size, rfl, rfl, ((Row.new w5 [.int .i64 0, .int .i64 0] 94).set 0 _).set 1 _, (HR7.out.of_block (hf5.block _ h7l hn7)).of_block ((setCells_other [.int .i64 rs, .int .i64 rv] 0 _ _ (by have q := hf5.size; simp at q; omega)).trans ((below_alloc _ _).block _ (by have q := hf5.size; simp at q; omega))), DGo.boxB HDS.out HDW.out (DGo.undrew HDS.out HDW.out HG5.out) _ [.int .i64 rs, .int .i64 rv]⟩
            | exact ⟨W5.heap.size, rfl, rfl, ((RNA.out _ hf5).set 0 _).set 1 _, ((HR7.out.alloc _).of_block (hf5.block _ (by simp; omega) hn7)).of_block (setCells_other [.int .i64 rs, .int .i64 rv] 0 _ _ (by omega)), DGo.boxA HDS.out HDW.out (Below.drew (below_alloc W5 _)) (by simp) HG5.out [.int .i64 rs, .int .i64 rv]⟩
      · go_simp
        refine hK.out _ _ ?_ (fun hHeld => ?_)
        · exact keepD hHeld ((below_alloc _ _).block _ (by first | exact hbLl | (have q := hf5.size; simp at q; omega))) ((below_alloc _ _).block _ (by first | exact hbLl | (have q := hf5.size; simp at q; omega))) ((below_alloc _ _).block _ (by first | exact hzw5 | (have q := hf5.size; simp at q; omega)))
        clear hK K
        (try go_frame)
        refine rd1 8 (by rfl) (by kernel_rfl) (fun K hK => ?_)
        go_simp
        refine (HBD.out _ (by repeat (first | exact Below.refl _ _ | refine Below.drew ?_ | refine Below.alloc ?_ (by first | (simp; done) | (simp; omega)) _))).mono ?_
        rintro e w5 ⟨rfl, hg5⟩
        have hf5 := hg5.fr
        have HG5 := hide hg5
        clear hg5
        go_wp2_with fail
        refine hK.out _ _ ?_ (fun hHeld => ?_)
        · exact keepD hHeld (hf5.block _ (by first | exact hbLl | (simp; omega)) hnL) (hf5.block _ (by first | exact hbLl | (simp; omega)) hnL) (hf5.block _ (by first | exact hzw5 | (simp; omega)) hnD)
        clear hK K
        (try go_frame)
        iterate 3 (refine tk 13 (by rfl) (by kernel_rfl) (by exact fun _ _ _ h => h) (.inl ⟨by rfl, fun w hS => by (try dsimp only at hS); go_simp; (try with_reducible rfl)⟩) (by assumption) ?_; try go_frame)
        refine rd1 13 (by rfl) (by kernel_rfl) (fun K hK => ?_)
        rw [if_pos (by rfl)]
        refine wp_store_mid _ _ _ rfl _ 0 #[.int .i64 rs, .int .i64 rv] rfl rfl ?_ (by kernel_rfl) (by simp [Value.oneCell']) ?_
        · first | exact Row.there (Row.new _ [_, _] _) (by simp) | exact Row.there (RNA.out _ hf5) (by simp)
        refine hK.out _ _ ?_ (fun hHeld => ?_)
        · exact keepD hHeld (setCells_other _ _ _ _ (by first | omega | (have q := hf5.size; simp at q; omega))) (setCells_other _ _ _ _ (by first | omega | (have q := hf5.size; simp at q; omega))) (setCells_other _ _ _ _ (by first | omega | (have q := hf5.size; simp at q; omega)))
        clear hK K
        (try go_frame)
        iterate 1 (refine tk 14 (by rfl) (by kernel_rfl) (by exact fun _ _ _ h => h) (.inl ⟨by rfl, fun w hS => by (try dsimp only at hS); go_simp; (try with_reducible rfl)⟩) (by assumption) ?_; try go_frame)
        refine wpAnyH_done (by kernel_rfl) ?_ _
        (try go_wp2_with fail)
        go_meet
        case rel =>
          first
            | exact ⟨w5.heap.size, rfl, rfl, ((Row.new w5 [.int .i64 0, .int .i64 0] 94).set 0 _).set 1 _, (HR7.out.of_block (hf5.block _ h7l hn7)).of_block ((setCells_other [.int .i64 rs, .int .i64 rv] 0 _ _ (by have q := hf5.size; simp at q; omega)).trans ((below_alloc _ _).block _ (by have q := hf5.size; simp at q; omega))), DGo.boxB HDS.out HDW.out (DGo.undrew HDS.out HDW.out HG5.out) _ [.int .i64 rs, .int .i64 rv]⟩
            | exact ⟨W5.heap.size, rfl, rfl, ((RNA.out _ hf5).set 0 _).set 1 _, ((HR7.out.alloc _).of_block (hf5.block _ (by simp; omega) hn7)).of_block (setCells_other [.int .i64 rs, .int .i64 rv] 0 _ _ (by omega)), DGo.boxA HDS.out HDW.out (Below.drew (below_alloc W5 _)) (by simp) HG5.out [.int .i64 rs, .int .i64 rv]⟩
    case rest =>
      obtain ⟨b9, rfl, rfl, hr9, hr7, hd⟩ := hcut
      have y0 := hr7.cell_of (i := 0) rfl
      have y1 := hr7.cell_of (i := 1) rfl
      have z0 := hr9.cell_of (i := 0) rfl
      have z1 := hr9.cell_of (i := 1) rfl
      have HF := hide ((HL.out.both HX.out HU.out.1 HU.out.2.1 HU.out.2.2.1 HU.out.2.2.2 HGX.out hd).made HB.out)
      clear hr9 hr7 hd e1 e3 e4 e5 s1
      go_wp2_with fail
      go_ret
      exact ⟨ret_bool (by simp), _, HF.out, HLIM.out⟩
end
end Go.Proofs.YtefjhnhdagolhaaGreat
namespace Go.Proofs.YtefjhnhdagolhaaGreat
open Go.RowKit
open M (upd upd_same upd_other RSt RTh cnt marks tagged num YI)
attribute [local go_sem ↓] Go.wp_at_zero Go.wp_at_succ
def I64 (x : Int) : Prop := -9223372036854775808 ≤ x ∧ x ≤ 9223372036854775807
structure ActV where
  k : Int
  t : Int
  n : Int
  c : Int
  a : Int
  b : Int
def ActV.val (x : ActV) : Value := .agg #[.int .i64 x.k, .int .i64 x.t, .int .i64 x.n, .int .i64 x.c, .int .i64 x.a, .int .i64 x.b]
section
variable {σ : Type} {P : M.Plain σ} {tell : σ → List Int} {sz : σ → Nat} {HM : World → Value → σ → Prop} {D : DL} {X : (Nat → Prop) → RSt → World → Prop} {A : LL} {Y : RSt} {w : World} {fBe fSt fAn fDo fOr fTe fBo Z K : Nat} {U : Nat → Prop}
def TellFits (P : M.Plain σ) (tell : σ → List Int) (D : DL) : Prop := ∀ Y, YI P D.n D.cap Y → Lim D 1000000000 Y → (tell (rpAt P Y Y.order.length).st).length ≤ 1000000000000
theorem act_any (xo : XOk P tell D A.tE A.bN X fBe fSt fAn fDo fOr fTe fBo) (ds : DS P tell sz HM AuT D) (tf : TellFits P tell D) (h : Law P D X A Z U Y w) (hK : Lim D K Y) (hK9 : K + 10000 ≤ 900000000) (hZ : Z ≤ 100000000000) (x : ActV) (ht : I64 x.t) (hn : I64 x.n) :
    Calls Tryz.prog 18 #[.pointer (some ⟨A.bL, 0, none⟩), x.val] w fun e w' => e = .returned (.bool true) ∧ ∃ Y', LGo P D X A (Z + 4) U w Y' w' ∧ Lim D (K + 4000) Y' := by
  have hT : (tell (rpAt P Y Y.order.length).st).length ≤ 1000000000000 := by
    obtain ⟨SX, SD, T, lab, ms, is, es1, es2, hl, -⟩ := h.ex
    exact tf Y hl.d.yi (hK.mono (by omega))
  have same : ∀ {e : Ending} {w' : World}, (e = .returned (.bool true) ∧ LGo P D X A Z U w Y w') → e = .returned (.bool true) ∧ ∃ Y', LGo P D X A (Z + 4) U w Y' w' ∧ Lim D (K + 4000) Y' := fun q => ⟨q.1, _, q.2.more (by omega), hK.mono (by omega)⟩
  have same4 : ∀ {e : Ending} {w' : World}, (e = .returned (.bool true) ∧ LGo P D X A (Z + 4) U w Y w') → e = .returned (.bool true) ∧ ∃ Y', LGo P D X A (Z + 4) U w Y' w' ∧ Lim D (K + 4000) Y' := fun q => ⟨q.1, _, q.2, hK.mono (by omega)⟩
  have more : ∀ {e : Ending} {w' : World}, (e = .returned (.bool true) ∧ ∃ Y', LGo P D X A Z U w Y' w' ∧ Lim D (K + 4000) Y') → e = .returned (.bool true) ∧ ∃ Y', LGo P D X A (Z + 4) U w Y' w' ∧ Lim D (K + 4000) Y' := fun q => by
    obtain ⟨q1, Y', q2, q3⟩ := q
    exact ⟨q1, Y', q2.more (by omega), q3⟩
  obtain ⟨k, t, n, c, a, b⟩ := x
  unfold ActV.val
  by_cases k0 : k < 1 ∨ 8 < k
  · exact (act_none xo h t n c a b k k0).mono fun _ _ => same
  · have hk : k = 1 ∨ k = 2 ∨ k = 3 ∨ k = 4 ∨ k = 5 ∨ k = 6 ∨ k = 7 ∨ k = 8 := by omega
    rcases hk with rfl | rfl | rfl | rfl | rfl | rfl | rfl | rfl
    · exact (act_begin xo ds h hK hK9 t n c a b).mono fun _ _ => more
    · exact (act_steps xo ds h hK hK9 t n c a b ht.1 ht.2 hn.1 hn.2).mono fun _ _ => more
    · exact (act_turns xo ds h hK hK9 t n c a b ht.1 ht.2 hn.1 hn.2).mono fun _ _ => more
    · exact (act_do xo ds h hK hK9 t n c a b).mono fun _ _ => more
    · exact (act_answer xo ds h hK hK9 t n c a b).mono fun _ _ => same
    · exact (act_order xo ds h hK hK9 t n c a b hZ).mono fun _ _ => same4
    · exact (act_state xo ds h hK hK9 t n c a b hZ hT).mono fun _ _ => same4
    · exact (act_bound xo h t n c a b).mono fun _ _ => same
theorem lawLooks (h : Law P D X A Z U Y w) (hZ : Z ≤ 100000000000) :
    Calls Tryz.prog 19 #[.pointer (some ⟨A.bL, 0, none⟩)] w fun e w' => e = .returned (.bool true) ∧ Below w.heap.size w w' := by
  obtain ⟨SX, SD, T, lab, ms, is, es1, es2, hl, -, z1, z2⟩ := h.ex
  exact looks_any A.bL _ _ ms is es1 es2 1099511627776 (Nat.le_refl _) w hl.row hl.m.entries hl.i.entries (by omega) (by omega) (fun s k hs => ⟨by have := (hl.m.rds _ hs).1; dsimp only at this; omega, (hl.m.rds _ hs).2.1⟩) (fun s k hs => ⟨by have := (hl.i.rds _ hs).1; dsimp only at this; omega, (hl.i.rds _ hs).2.1⟩)
set_option maxRecDepth 20000 in
set_option maxHeartbeats 2000000 in
theorem lawLast2 (xo : XOk P tell D A.tE A.bN X fBe fSt fAn fDo fOr fTe fBo) (ds : DS P tell sz HM AuT D) (tf : TellFits P tell D) (h : Law P D X A Z U Y w) (hK : Lim D 1000000000 Y) (hZ : Z ≤ 90000000000) :
    Calls Tryz.prog 20 #[.pointer (some ⟨A.bL, 0, none⟩)] w fun e w' => e = .returned (.bool true) ∧ LGo P D X A (Z + 8) U w Y w' := by
  obtain ⟨SX, SD, T, lab, ms, is, es1, es2, hl, -⟩ := h.ex
  obtain ⟨hn1, hn64, -⟩ := hl.d.n
  have hT := tf Y hl.d.yi hK
  have c1 : w.cell? ⟨A.bL, 1, none⟩ = some (.pointer (some ⟨D.b, 0, none⟩)) := hl.row.cell_of rfl
  have c7 : w.cell? ⟨D.b, 7, none⟩ = some (.slice (some ⟨D.g, 0, none⟩) D.n D.gc) := by obtain ⟨_, _, _, _, _, q⟩ := hl.d.doc; exact q.ocell rfl
  have HC := hide (And.intro c1 c7)
  have HA := hide (fun (W : World) (hb : Below w.heap.size w W) (x : Int) => lawAnswer xo ds (h.at xo hb) hK x)
  have HO := hide (fun (W : World) (hb : Below w.heap.size w W) => lawOrder2 xo ds (h.at xo hb) hK (by omega))
  have HS := hide (fun (W : World) (U' : Nat → Prop) (hw : Law P D X A (Z + 4) U' Y W) => lawState2 xo ds hw hK (by omega) hT)
  have HX := hide xo
  clear hl h c1 c7 xo ds tf hK hT
  go_enter Tryz.func20, Tryz.ntmps20
  go_wp2
  go_loopw [3] (fun i w' => ∃ k : Nat, k ≤ D.n + 2 ∧ i = .int .i64 ((k : Int) - 1) ∧ Below w.heap.size w w') (fun i _ => D.n + 2 - (intOf i + 1).toNat)
  case atStart => exact ⟨0, Nat.zero_le _, rfl, Below.refl _ _⟩
  case round =>
    obtain ⟨k, hk, rfl, hB⟩ := hrel
    have c1 := cell_later hB HC.out.1
    have c7 := cell_later hB HC.out.2
    by_cases hlt : k < D.n + 2
    · have hlt' : (k : Int) - 1 ≤ (D.n : Int) := by omega
      have HAk := hide (HA.out _ hB ((k : Int) - 1))
      have HB := hide hB
      clear hB
      go_wp2_with fail
      refine HAk.out.mono ?_
      rintro e w1 ⟨rfl, hb1⟩
      have HB1 := hide (Below.next HB.out hb1 HB.out.size)
      clear hb1 c1 c7
      go_wp2
      go_roundw
      case rel => exact ⟨k + 1, by omega, by go_num, HB1.out⟩
      case measure => simp [intOf]; omega
    · have hlt' : ¬ (k : Int) - 1 ≤ (D.n : Int) := by omega
      have HOk := hide (HO.out _ hB)
      have HB := hide hB
      clear hB
      go_wp2_with fail
      refine HOk.out.mono ?_
      rintro e w1 ⟨rfl, g1⟩
      go_wp2_with fail
      refine (HS.out _ _ g1.law).mono ?_
      rintro e w2 ⟨rfl, g2⟩
      have g12 := g1.next g2
      go_wp2_with fail
      refine (lawBound2 HX.out g12.law).mono ?_
      rintro e w3 ⟨rfl, b3⟩
      have l3 := g12.law.at HX.out b3
      go_wp2_with fail
      refine (lawLooks l3 (by omega)).mono ?_
      rintro e w4 ⟨rfl, b4⟩
      have b34 := Below.next b3 b4 b3.size
      have HF := hide ((g12.next (g12.law.below HX.out b34)).made HB.out)
      clear g1 g2 g12 b3 l3 b4 b34
      go_wp2_with fail
      go_ret
      exact ⟨rfl, HF.out⟩
end
end Go.Proofs.YtefjhnhdagolhaaGreat
