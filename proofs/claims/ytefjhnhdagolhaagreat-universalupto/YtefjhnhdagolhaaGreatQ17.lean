import Derived.Test.YtefjhnhdagolhaaGreatQ16
import Derived.Test.YtefjhnhdagolhaaGreatQ13
namespace Go.Proofs.YtefjhnhdagolhaaGreat
open Go.RowKit
open M (upd upd_same upd_other RSt RTh Dd PI)
attribute [local go_sem ↓] Go.wp_at_zero Go.wp_at_succ
section
variable {σ : Type} {P : M.Plain σ} {tell : σ → List Int} {D : DL} {X : (Nat → Prop) → RSt → World → Prop} {A : PL} {S : Nat → Prop} {w0 : QW} {w w1 : World} {vd vu vs : Value} {Y Y' : RSt} {ds : List Dd} {us ss : List Int} {c : Nat} {fBe fSt fAn fDo fOr fTe fBo K t : Nat} {u : Nat → Option Nat}
def PG (P : M.Plain σ) (X : (Nat → Prop) → RSt → World → Prop) (D : DL) (A : PL) (w0 : QW) (K : Nat) (w : World) : Prop := ∃ Y ds u c, PS P X D A w0 K Y ds u c w
def PAft (P : M.Plain σ) (X : (Nat → Prop) → RSt → World → Prop) (D : DL) (A : PL) (w0 : QW) (K t n r : Nat) (w : World) : Prop := ∃ Y ds u c, PS P X D A w0 K Y ds u c w ∧ ((Y.th t).part = 0 ∨ (Y.th t).rank D.n D.cap + n ≤ r)
theorem PS.under (h : PS P X D A w0 K Y ds u c w) (ht : t < D.n) : ∃ gu cu x, w.cell? ⟨A.bP, 9, none⟩ = some (.slice (some ⟨gu, 0, none⟩) D.n cu) ∧ w.cell? ⟨gu, t, none⟩ = some (.int .i64 x) ∧ ((Y.th t).part = 0 → x = -1) ∧ ((Y.th t).part ≠ 0 → 0 ≤ x) := by
  obtain ⟨S, vd, vu, vs, hm, hp, -⟩ := h
  obtain ⟨gu, cu, rfl, cut⟩ := owns_get hm.ou (ints_get (range_map_get (f := uv u) ht))
  have hul : (uvs D.n u).length = D.n := by simp [uvs]
  refine ⟨gu, cu, uv u t, ?_, cut, fun q => ?_, fun q => ?_⟩
  · have : w.cell? ⟨A.bP, 9, none⟩ = some (.slice (some ⟨gu, 0, none⟩) (uvs D.n u).length cu) := hm.row.cell_of rfl
    rwa [hul] at this
  · unfold uv; rw [(hp.un t ht).2 q]
  · unfold uv
    cases e : u t with
    | none => exact (q ((hp.un t ht).1 e)).elim
    | some i => simp
theorem stY_rank (hn : 0 < D.n) (h : PS P X D A w0 K Y ds u c w) (ht : t < D.n) : ((stY D.n D.cap Y (t : Int)).th t).rank D.n D.cap ≤ (Y.th t).rank D.n D.cap - 1 := by
  obtain ⟨S, vd, vu, vs, hm, hp, -⟩ := h
  unfold stY
  rw [if_pos ⟨by omega, by omega⟩, Int.toNat_natCast]
  by_cases q : (Y.th t).part = 0
  · rw [if_pos q]
    unfold M.RTh.rank
    rw [if_pos q]; omega
  · rw [if_neg q]
    have := M.rank_step hn (hp.yi.ok.th t ht) q
    omega
set_option maxRecDepth 20000 in
set_option maxHeartbeats 2000000 in
theorem psteps_w (xo : XOk P tell D A.tE A.bN X fBe fSt fAn fDo fOr fTe fBo) (h : PS P X D A w0 K Y ds u c w) (h64 : D.n ≤ 64) (hcap : D.cap ≤ 64) (ht : t < D.n) (n : Nat) (hK : K + n ≤ 900000000) :
    Calls Tryz.prog 38 #[.pointer (some ⟨A.bP, 0, none⟩), .int .i64 (t : Int), .int .i64 (n : Int)] w fun e w' => e = .returned (.bool true) ∧ PAft P X D A w0 (K + n) t n ((Y.th t).rank D.n D.cap) w' := by
  have hn0 : 0 < D.n := by omega
  have HX := hide xo
  have HP := hide h
  have ht0 : (0 : Int) ≤ (t : Int) := by omega
  have ht1 : (t : Int) < (D.n : Int) := by omega
  obtain ⟨r0, hr0⟩ : ∃ r0, r0 = (Y.th t).rank D.n D.cap := ⟨_, rfl⟩
  have HR := hide hr0
  clear xo h hr0
  go_enter Tryz.func38, Tryz.ntmps38
  go_wp2
  go_loopw [7] (fun i w' => ∃ k : Nat, k ≤ n ∧ i = .int .i64 (k : Int) ∧ ∃ Y1 ds1 u1 c1, PS P X D A w0 (K + k) Y1 ds1 u1 c1 w' ∧ (Y1.th t).rank D.n D.cap + k ≤ r0) (fun i _ => n - (intOf i).toNat)
  case atStart => exact ⟨0, Nat.zero_le _, rfl, Y, ds, u, c, HP.out, by rw [HR.out]; exact Nat.le_refl _⟩
  case round =>
    obtain ⟨k, hk, rfl, Y1, ds1, u1, c1, hp1, hr1⟩ := hrel
    by_cases hlt : k < n
    · have hlt' : (k : Int) < (n : Int) := by omega
      have HS := hide (pstep_w HX.out hp1 h64 hcap ht (by omega))
      have hrk := stY_rank hn0 hp1 ht
      have HP1 := hide hp1
      clear hp1
      go_wp2_with fail
      refine HS.out.mono ?_
      rintro e w2 ⟨rfl, ds2, u2, hp2⟩
      obtain ⟨gu, cu, x, e9, cut, x0, x1⟩ := hp2.under ht
      have HP2 := hide hp2
      clear hp2
      by_cases hp0 : ((stY D.n D.cap Y1 (t : Int)).th t).part = 0
      · have hx : x = -1 := x0 hp0
        subst hx
        clear x0 x1
        go_wp2
        go_ret
        exact ⟨rfl, _, _, _, _, HP2.out.mono (by omega), .inl hp0⟩
      · have hx : ¬ x < 0 := by have := x1 hp0; omega
        have hrp' : 0 < ((stY D.n D.cap Y1 (t : Int)).th t).rank D.n D.cap := by
          obtain ⟨S, vd, vu, vs, -, hp, -⟩ := HP2.out
          exact M.rank_pos (hp.yi.ok.th t ht) hp0
        clear x0 x1
        go_wp2
        go_roundw
        case rel => exact ⟨k + 1, by omega, by go_num, _, _, _, _, HP2.out.mono (by omega), by omega⟩
        case measure => simp [intOf]; omega
    · have hlt' : ¬ (k : Int) < (n : Int) := by omega
      have HP1 := hide hp1
      clear hp1
      go_wp2
      go_ret
      exact ⟨rfl, _, _, _, _, HP1.out.mono (by omega), .inr (by have := HR.out; omega)⟩
theorem PAft.pg {n r : Nat} (h : PAft P X D A w0 K t n r w) : PG P X D A w0 K w := by obtain ⟨Y, ds, u, c, h, -⟩ := h; exact ⟨Y, ds, u, c, h⟩
theorem PG.mono (h : PG P X D A w0 K w) {K' : Nat} (hk : K ≤ K') : PG P X D A w0 K' w := by obtain ⟨Y, ds, u, c, h⟩ := h; exact ⟨Y, ds, u, c, h.mono hk⟩
theorem PG.below (xo : XOk P tell D A.tE A.bN X fBe fSt fAn fDo fOr fTe fBo) (h : PG P X D A w0 K w) (hb : Below w.heap.size w w1) : PG P X D A w0 K w1 := by obtain ⟨Y, ds, u, c, h⟩ := h; exact ⟨Y, ds, u, c, h.below xo hb⟩
theorem PG.row (h : PG P X D A w0 K w) : ∃ vd vu vs c, Row w A.bP 69 (plcs D A vd vu vs c) := by obtain ⟨Y, ds, u, c, S, vd, vu, vs, hm, -⟩ := h; exact ⟨_, _, _, _, hm.row⟩
theorem PG.guard (xo : XOk P tell D A.tE A.bN X fBe fSt fAn fDo fOr fTe fBo) (h : PG P X D A w0 K w) {W : World} (hB : Below w.heap.size w W) {b : Nat} (hb : w.heap.size ≤ b) (hbl : b < W.heap.size) : ∃ w1 : QW, PG P X D A w1 K W ∧ ∀ K' W', PG P X D A w1 K' W' → PG P X D A w0 K' W' ∧ W'.heap[b]? = W.heap[b]? := by
  obtain ⟨Y, ds, u, c, S, vd, vu, vs, hm, hp⟩ := h
  have hm' := hm.below xo hB
  have hz := hB.size
  refine ⟨⟨W, fun k => k < W.heap.size ∧ ¬ (S k ∨ k = A.bP ∨ k = A.bX ∨ vd.ownBlock = some k ∨ vu.ownBlock = some k ∨ vs.ownBlock = some k)⟩, ⟨Y, ds, u, c, S, vd, vu, vs, ⟨hm'.row, hm'.obj, hm'.x, hm'.xl, hm'.od, hm'.ou, hm'.os, hm'.sx, hm'.nu, ?_, fun k q => q.1, Fr.refl _ _⟩, hp⟩, fun K' W' h' => ?_⟩
  · exact ⟨fun q => q.2 (.inr (.inl rfl)), fun q => q.2 (.inr (.inr (.inl rfl))), fun k hS q => q.2 (.inl hS), fun k e q => q.2 (.inr (.inr (.inr e)))⟩
  · obtain ⟨Y', ds', u', c', S', vd', vu', vs', hm1, hp1⟩ := h'
    have hU : ∀ k, (S k ∨ k = A.bP ∨ k = A.bX ∨ vd.ownBlock = some k ∨ vu.ownBlock = some k ∨ vs.ownBlock = some k) → ¬ w0.q k ∧ k < w.heap.size := by
      rintro k (q | rfl | rfl | q)
      · exact ⟨hm.lo.2.2.1 k q, hm.xl k q⟩
      · exact ⟨hm.lo.1, hm.row.lt⟩
      · exact ⟨hm.lo.2.1, hm.obj.lt⟩
      · refine ⟨hm.lo.2.2.2 k q, ?_⟩
        rcases q with q | q | q
        · exact (hm.od.lt k q).2
        · exact (hm.ou.lt k q).2
        · exact (hm.os.lt k q).2
    have hq : ∀ k, w0.q k → k < W.heap.size ∧ ¬ (S k ∨ k = A.bP ∨ k = A.bX ∨ vd.ownBlock = some k ∨ vu.ownBlock = some k ∨ vs.ownBlock = some k) := fun k q => ⟨by have := hm.ql k q; have := hm.bl.size; omega, fun c => (hU k c).1 q⟩
    refine ⟨⟨Y', ds', u', c', S', vd', vu', vs', ⟨hm1.row, hm1.obj, hm1.x, hm1.xl, hm1.od, hm1.ou, hm1.os, hm1.sx, hm1.nu, ?_, hm.ql, ?_⟩, hp1⟩, ?_⟩
    · exact ⟨fun q => hm1.lo.1 (hq _ q), fun q => hm1.lo.2.1 (hq _ q), fun k hS q => hm1.lo.2.2.1 k hS (hq k q), fun k e q => hm1.lo.2.2.2 k e (hq k q)⟩
    · refine hm'.bl.trans ⟨hm1.bl.os, hm1.bl.tape, hm1.bl.output, hm1.bl.size, fun k hk hn => hm1.bl.block k hk (fun c => hn (fun q => c (hq k q)))⟩
    · exact hm1.bl.block b hbl (fun c => c ⟨hbl, fun q => by have := (hU b q).2; omega⟩)
theorem pick_nat (x : Int) (n : Nat) (hn : 0 < n) (h64 : n ≤ 64) (it : I64 x) : ∃ t : Nat, t < n ∧ ∀ W : World, Calls Tryz.prog 45 #[.int .i64 x, .int .i64 (n : Int)] W fun e w' => e = .returned (.int .i64 (t : Int)) ∧ w' = W := by
  obtain ⟨p0, p1⟩ := pk_range x (n : Int) (by omega)
  obtain ⟨t, ht⟩ : ∃ t : Nat, pk x (n : Int) = (t : Int) := ⟨(pk x (n : Int)).toNat, by omega⟩
  refine ⟨t, by omega, fun W => ?_⟩
  have := pick_any x (n : Int) W (by omega) (by omega) it.1 it.2
  rwa [ht] at this
set_option maxRecDepth 20000 in
set_option maxHeartbeats 4000000 in
theorem pact_begin (xo : XOk P tell D A.tE A.bN X fBe fSt fAn fDo fOr fTe fBo) (h : PG P X D A w0 K w) (h2 : 2 ≤ D.n) (h64 : D.n ≤ 64) (xt xn xc xa xb : Int) (it : I64 xt) (hK : K + 4000 ≤ 900000000) :
    Calls Tryz.prog 70 #[.pointer (some ⟨A.bP, 0, none⟩), .agg #[.int .i64 1, .int .i64 xt, .int .i64 xn, .int .i64 xc, .int .i64 xa, .int .i64 xb]] w fun e w' => e = .returned (.bool true) ∧ PG P X D A w0 (K + 4000) w' := by
  obtain ⟨t, ht, hpk⟩ := pick_nat xt D.n (by omega) h64 it
  have HPK := hide hpk
  clear hpk
  go_enter Tryz.func70, Tryz.ntmps70
  go_upto_region 1 with fail
  generalize hW : World.alloc w _ = W
  have hb : Below w.heap.size w W := by rw [← hW]; exact below_alloc w _
  have hr : Row W w.heap.size 38 [.int .i64 1, .int .i64 xt, .int .i64 xn, .int .i64 xc, .int .i64 xa, .int .i64 xb] := by rw [← hW]; exact Row.new' rfl
  have b0 := hr.cell_of (i := 0) rfl
  have b1 := hr.cell_of (i := 1) rfl
  have b3 := hr.cell_of (i := 3) rfl
  have b4 := hr.cell_of (i := 4) rfl
  have b5 := hr.cell_of (i := 5) rfl
  have hp := h.below xo hb
  obtain ⟨vd, vu, vs, c, hrow⟩ := hp.row
  have c2 : W.cell? ⟨A.bP, 2, none⟩ = some (.int .i64 (D.n : Int)) := hrow.cell_of rfl
  obtain ⟨Y, ds, u, c', hps⟩ := hp.below xo (Below.drew (Below.refl _ _))
  have HBE := hide (begins_w xo hps h64 ht ⟨xc, xa, xb⟩ (by omega))
  clear hW hr hb h hp hrow hps xo
  refine rg0 (S := (fun w' => w'.cell? ⟨w.heap.size, 1, none⟩ = some (.int .i64 xt) ∧ w'.cell? ⟨A.bP, 2, none⟩ = some (.int .i64 (D.n : Int)))) 9 rfl (by kernel_rfl) ?_ (fun hHeld => ?_)
  · exact ⟨b1, c2⟩
  iterate 7 (refine tk 8 (by rfl) (by kernel_rfl) (by exact fun _ _ _ h => h) (.inl ⟨by rfl, fun w hS => by (try dsimp only at hS); go_simp; (try with_reducible rfl)⟩) (by assumption) ?_; try go_frame)
  refine rd1 7 (by rfl) (by kernel_rfl) (fun K hK => ?_)
  go_simp
  refine (HPK.out _).mono ?_
  rintro e w' ⟨rfl, rfl⟩
  go_wp2_with fail
  refine hK.out _ _ ?_ (fun hHeld => ?_)
  · exact hHeld
  clear hK K
  (try go_frame)
  iterate 1 (refine tk 8 (by rfl) (by kernel_rfl) (by exact fun _ _ _ h => h) (.inl ⟨by rfl, fun w hS => by (try dsimp only at hS); go_simp; (try with_reducible rfl)⟩) (by assumption) ?_; try go_frame)
  refine wpAnyH_done (by kernel_rfl) ?_ _
  clear hHeld
  go_wp2_with fail
  refine HBE.out.mono ?_
  rintro e w2 ⟨rfl, ds2, u2, hp2⟩
  have HP2 := hide hp2
  clear hp2
  go_wp2_with fail
  go_ret
  exact ⟨rfl, _, _, _, _, HP2.out.mono (by omega)⟩
set_option maxRecDepth 20000 in
set_option maxHeartbeats 4000000 in
theorem pact_steps (xo : XOk P tell D A.tE A.bN X fBe fSt fAn fDo fOr fTe fBo) (h : PG P X D A w0 K w) (h2 : 2 ≤ D.n) (h64 : D.n ≤ 64) (hcap : D.cap ≤ 64) (xt xn xc xa xb : Int) (it : I64 xt) (iN : I64 xn) (hK : K + 4000 ≤ 900000000) :
    Calls Tryz.prog 70 #[.pointer (some ⟨A.bP, 0, none⟩), .agg #[.int .i64 2, .int .i64 xt, .int .i64 xn, .int .i64 xc, .int .i64 xa, .int .i64 xb]] w fun e w' => e = .returned (.bool true) ∧ PG P X D A w0 (K + 4000) w' := by
  obtain ⟨t, ht, hpk⟩ := pick_nat xt D.n (by omega) h64 it
  obtain ⟨p0, p1⟩ := pk_range xn 400 (by decide)
  obtain ⟨q, hq⟩ : ∃ q : Nat, pk xn 400 = (q : Int) := ⟨(pk xn 400).toNat, by omega⟩
  have hpn : ∀ W : World, Calls Tryz.prog 45 #[.int .i64 xn, .int .i64 400] W fun e w' => e = .returned (.int .i64 (q : Int)) ∧ w' = W := fun W => by rw [← hq]; exact pick_any xn 400 W (by decide) (by decide) iN.1 iN.2
  have hq4 : q ≤ 399 := by omega
  have hwq : IntKind.i64.wrap (1 + (q : Int)) = ((1 + q : Nat) : Int) := by rw [wrapi _ (by omega) (by omega)]; push_cast; rfl
  have HPK := hide hpk
  have HPN := hide hpn
  clear hpk hpn hq p0 p1
  go_enter Tryz.func70, Tryz.ntmps70
  go_upto_region 1 with fail
  generalize hW : World.alloc w _ = W
  have hb : Below w.heap.size w W := by rw [← hW]; exact below_alloc w _
  have hr : Row W w.heap.size 38 [.int .i64 2, .int .i64 xt, .int .i64 xn, .int .i64 xc, .int .i64 xa, .int .i64 xb] := by rw [← hW]; exact Row.new' rfl
  have b0 := hr.cell_of (i := 0) rfl
  have b1 := hr.cell_of (i := 1) rfl
  have b2 := hr.cell_of (i := 2) rfl
  have hp := h.below xo hb
  obtain ⟨vd, vu, vs, c, hrow⟩ := hp.row
  have c2 : W.cell? ⟨A.bP, 2, none⟩ = some (.int .i64 (D.n : Int)) := hrow.cell_of rfl
  obtain ⟨Y, ds, u, c', hps⟩ := hp.below xo (Below.drew (Below.refl _ _))
  have HST := hide (psteps_w xo hps h64 hcap ht (1 + q) (by omega))
  clear hW hr hb h hp hrow hps xo
  refine rg0 (S := (fun w' => w'.cell? ⟨w.heap.size, 1, none⟩ = some (.int .i64 xt) ∧ w'.cell? ⟨A.bP, 2, none⟩ = some (.int .i64 (D.n : Int)))) 9 rfl (by kernel_rfl) ?_ (fun hHeld => ?_)
  · exact ⟨b1, c2⟩
  iterate 7 (refine tk 8 (by rfl) (by kernel_rfl) (by exact fun _ _ _ h => h) (.inl ⟨by rfl, fun w hS => by (try dsimp only at hS); go_simp; (try with_reducible rfl)⟩) (by assumption) ?_; try go_frame)
  refine rd1 7 (by rfl) (by kernel_rfl) (fun K hK => ?_)
  go_simp
  refine (HPK.out _).mono ?_
  rintro e w' ⟨rfl, rfl⟩
  go_wp2_with fail
  refine hK.out _ _ ?_ (fun hHeld => ?_)
  · exact hHeld
  clear hK K
  (try go_frame)
  iterate 1 (refine tk 8 (by rfl) (by kernel_rfl) (by exact fun _ _ _ h => h) (.inl ⟨by rfl, fun w hS => by (try dsimp only at hS); go_simp; (try with_reducible rfl)⟩) (by assumption) ?_; try go_frame)
  refine wpAnyH_done (by kernel_rfl) ?_ _
  clear hHeld
  go_wp2_with fail
  refine (HPN.out _).mono ?_
  rintro e w' ⟨rfl, rfl⟩
  go_wp2_with fail
  refine HST.out.mono ?_
  rintro e w2 ⟨rfl, hp2⟩
  have HP2 := hide hp2
  clear hp2
  go_wp2_with fail
  go_ret
  exact ⟨rfl, HP2.out.pg.mono (by omega)⟩
set_option maxRecDepth 20000 in
set_option maxHeartbeats 4000000 in
theorem pact_none (xo : XOk P tell D A.tE A.bN X fBe fSt fAn fDo fOr fTe fBo) (h : PG P X D A w0 K w) (h2 : 2 ≤ D.n) (h64 : D.n ≤ 64) (xk xt xn xc xa xb : Int) (k1 : ¬ xk = 1) (k2 : ¬ xk = 2) (k3 : ¬ xk = 3) (it : I64 xt) :
    Calls Tryz.prog 70 #[.pointer (some ⟨A.bP, 0, none⟩), .agg #[.int .i64 xk, .int .i64 xt, .int .i64 xn, .int .i64 xc, .int .i64 xa, .int .i64 xb]] w fun e w' => e = .returned (.bool true) ∧ PG P X D A w0 (K + 4000) w' := by
  obtain ⟨t, ht, hpk⟩ := pick_nat xt D.n (by omega) h64 it
  have HPK := hide hpk
  clear hpk
  go_enter Tryz.func70, Tryz.ntmps70
  go_upto_region 1 with fail
  generalize hW : World.alloc w _ = W
  have hb : Below w.heap.size w W := by rw [← hW]; exact below_alloc w _
  have hr : Row W w.heap.size 38 [.int .i64 xk, .int .i64 xt, .int .i64 xn, .int .i64 xc, .int .i64 xa, .int .i64 xb] := by rw [← hW]; exact Row.new' rfl
  have b0 := hr.cell_of (i := 0) rfl
  have b1 := hr.cell_of (i := 1) rfl
  have hp := h.below xo hb
  obtain ⟨vd, vu, vs, c, hrow⟩ := hp.row
  have c2 : W.cell? ⟨A.bP, 2, none⟩ = some (.int .i64 (D.n : Int)) := hrow.cell_of rfl
  have HP := hide (hp.below xo (Below.drew (Below.refl _ _)))
  clear hW hr hb h hp hrow xo
  refine rg0 (S := (fun w' => w'.cell? ⟨w.heap.size, 1, none⟩ = some (.int .i64 xt) ∧ w'.cell? ⟨A.bP, 2, none⟩ = some (.int .i64 (D.n : Int)))) 9 rfl (by kernel_rfl) ?_ (fun hHeld => ?_)
  · exact ⟨b1, c2⟩
  iterate 7 (refine tk 8 (by rfl) (by kernel_rfl) (by exact fun _ _ _ h => h) (.inl ⟨by rfl, fun w hS => by (try dsimp only at hS); go_simp; (try with_reducible rfl)⟩) (by assumption) ?_; try go_frame)
  refine rd1 7 (by rfl) (by kernel_rfl) (fun K hK => ?_)
  go_simp
  refine (HPK.out _).mono ?_
  rintro e w' ⟨rfl, rfl⟩
  go_wp2_with fail
  refine hK.out _ _ ?_ (fun hHeld => ?_)
  · exact hHeld
  clear hK K
  (try go_frame)
  iterate 1 (refine tk 8 (by rfl) (by kernel_rfl) (by exact fun _ _ _ h => h) (.inl ⟨by rfl, fun w hS => by (try dsimp only at hS); go_simp; (try with_reducible rfl)⟩) (by assumption) ?_; try go_frame)
  refine wpAnyH_done (by kernel_rfl) ?_ _
  clear hHeld
  go_wp2
  go_ret
  exact ⟨rfl, HP.out.mono (by omega)⟩
set_option maxRecDepth 20000 in
set_option maxHeartbeats 4000000 in
theorem pact_turns (xo : XOk P tell D A.tE A.bN X fBe fSt fAn fDo fOr fTe fBo) (h : PG P X D A w0 K w) (h2 : 2 ≤ D.n) (h64 : D.n ≤ 64) (hcap : D.cap ≤ 64) (xt xn xc xa xb : Int) (it : I64 xt) (iN : I64 xn) (hK : K + 4000 ≤ 900000000) :
    Calls Tryz.prog 70 #[.pointer (some ⟨A.bP, 0, none⟩), .agg #[.int .i64 3, .int .i64 xt, .int .i64 xn, .int .i64 xc, .int .i64 xa, .int .i64 xb]] w fun e w' => e = .returned (.bool true) ∧ PG P X D A w0 (K + 4000) w' := by
  obtain ⟨t, ht, hpk⟩ := pick_nat xt D.n (by omega) h64 it
  obtain ⟨p0, p1⟩ := pk_range xn 60 (by decide)
  obtain ⟨q, hq⟩ : ∃ q : Nat, pk xn 60 = (q : Int) := ⟨(pk xn 60).toNat, by omega⟩
  have hpn : ∀ W : World, Calls Tryz.prog 45 #[.int .i64 xn, .int .i64 60] W fun e w' => e = .returned (.int .i64 (q : Int)) ∧ w' = W := fun W => by rw [← hq]; exact pick_any xn 60 W (by decide) (by decide) iN.1 iN.2
  have hq4 : q ≤ 59 := by omega
  have hwq : IntKind.i64.wrap (1 + (q : Int)) = 1 + (q : Int) := wrapi _ (by omega) (by omega)
  obtain ⟨MN, hMN⟩ : ∃ MN, MN = (1 + q) * D.n := ⟨_, rfl⟩
  have hM4 : MN ≤ 3840 := by rw [hMN]; exact Nat.le_trans (Nat.mul_le_mul (show 1 + q ≤ 60 by omega) h64) (by decide)
  have hMi : (1 + (q : Int)) * (D.n : Int) = (MN : Int) := by rw [hMN]; push_cast; rfl
  have hwm : IntKind.i64.wrap ((1 + (q : Int)) * (D.n : Int)) = (MN : Int) := by rw [hMi]; exact wrapi _ (by omega) (by omega)
  have hD0 : ¬ (D.n : Int) = 0 := by omega
  have hDm : ¬ (D.n : Int) = -1 := by omega
  have HPK := hide hpk
  have HPN := hide hpn
  clear hpk hpn hq p0 p1 hMN hMi
  go_enter Tryz.func70, Tryz.ntmps70
  go_upto_region 1 with fail
  generalize hW : World.alloc w _ = W
  have hb : Below w.heap.size w W := by rw [← hW]; exact below_alloc w _
  have hr : Row W w.heap.size 38 [.int .i64 3, .int .i64 xt, .int .i64 xn, .int .i64 xc, .int .i64 xa, .int .i64 xb] := by rw [← hW]; exact Row.new' rfl
  have b0 := hr.cell_of (i := 0) rfl
  have b1 := hr.cell_of (i := 1) rfl
  have hp := h.below xo hb
  obtain ⟨vd, vu, vs, c, hrow⟩ := hp.row
  have c2 : W.cell? ⟨A.bP, 2, none⟩ = some (.int .i64 (D.n : Int)) := hrow.cell_of rfl
  obtain ⟨w9, hp9, hback⟩ := h.guard xo (Below.drew hb) (Nat.le_refl _) hr.lt
  have HP := hide hp9
  have HBK := hide hback
  have HR := hide hr
  have HX := hide xo
  clear hW hr hb h hp hrow xo hp9 hback
  refine rg0 (S := (fun w' => w'.cell? ⟨w.heap.size, 1, none⟩ = some (.int .i64 xt) ∧ w'.cell? ⟨A.bP, 2, none⟩ = some (.int .i64 (D.n : Int)))) 9 rfl (by kernel_rfl) ?_ (fun hHeld => ?_)
  · exact ⟨b1, c2⟩
  iterate 7 (refine tk 8 (by rfl) (by kernel_rfl) (by exact fun _ _ _ h => h) (.inl ⟨by rfl, fun w hS => by (try dsimp only at hS); go_simp; (try with_reducible rfl)⟩) (by assumption) ?_; try go_frame)
  refine rd1 7 (by rfl) (by kernel_rfl) (fun K hK => ?_)
  go_simp
  refine (HPK.out _).mono ?_
  rintro e w' ⟨rfl, rfl⟩
  go_wp2_with fail
  refine hK.out _ _ ?_ (fun hHeld => ?_)
  · exact hHeld
  clear hK K
  (try go_frame)
  iterate 1 (refine tk 8 (by rfl) (by kernel_rfl) (by exact fun _ _ _ h => h) (.inl ⟨by rfl, fun w hS => by (try dsimp only at hS); go_simp; (try with_reducible rfl)⟩) (by assumption) ?_; try go_frame)
  refine wpAnyH_done (by kernel_rfl) ?_ _
  clear hHeld
  go_wp2_with fail
  clear b0 b1 c2
  go_loopw [6] (fun i w' => ∃ j : Nat, j ≤ MN ∧ i = .int .i64 (j : Int) ∧ PG P X D A w9 (K + j) w') (fun i _ => MN - (intOf i).toNat)
  case atStart => exact ⟨0, Nat.zero_le _, rfl, HP.out⟩
  case round =>
    obtain ⟨j, hj, rfl, hpj⟩ := hrel
    have hR := HR.out.of_block (HBK.out _ _ hpj).2
    have b2 := hR.cell_of (i := 2) rfl
    obtain ⟨vd, vu, vs, c, hrow⟩ := hpj.row
    have c2 : wr.cell? ⟨A.bP, 2, none⟩ = some (.int .i64 (D.n : Int)) := hrow.cell_of rfl
    have HPJ := hide hpj
    clear hR hrow hpj
    by_cases hlt : j < MN
    · have hlt' : (j : Int) < (MN : Int) := by omega
      obtain ⟨r, hr⟩ : ∃ r : Nat, r = (t + j) % D.n := ⟨_, rfl⟩
      have hrn : r < D.n := by rw [hr]; exact Nat.mod_lt _ (by omega)
      have hrm : ((t : Int) + (j : Int)).tmod (D.n : Int) = (r : Int) := by rw [hr, Int.tmod_eq_emod_of_nonneg (by omega)]; push_cast; rfl
      have hw3 : IntKind.i64.wrap ((t : Int) + (j : Int)) = (t : Int) + (j : Int) := wrapi _ (by omega) (by omega)
      have hw4 : IntKind.i64.wrap (r : Int) = (r : Int) := wrapi _ (by omega) (by omega)
      obtain ⟨Y, ds, u, c', hps⟩ := HPJ.out.below HX.out (Below.drew (Below.refl _ _))
      have HST := hide (pstep_w HX.out hps h64 hcap hrn (by omega))
      clear hr hps
      go_wp2_with fail
      go_region_with (go_at_call 45; refine (HPN.out _).mono ?_; rintro e w' ⟨rfl, rfl⟩)
      all_goals
        go_wp2_with fail
        refine HST.out.mono ?_
        rintro e w2 ⟨rfl, ds2, u2, hp2⟩
        have HP2 := hide hp2
        clear hp2
        go_wp2
        go_roundw
        case rel => exact ⟨j + 1, by omega, by go_num, _, _, _, _, HP2.out⟩
        case measure => simp [intOf]; omega
    · have hlt' : ¬ (j : Int) < (MN : Int) := by omega
      have HPE := hide (HPJ.out.below HX.out (Below.drew (Below.refl _ _)))
      go_wp2_with fail
      go_region_with (go_at_call 45; refine (HPN.out _).mono ?_; rintro e w' ⟨rfl, rfl⟩)
      all_goals
        go_wp2
        go_ret
        exact ⟨rfl, (HBK.out _ _ HPE.out).1.mono (by omega)⟩
theorem pact_w (xo : XOk P tell D A.tE A.bN X fBe fSt fAn fDo fOr fTe fBo) (h : PG P X D A w0 K w) (h2 : 2 ≤ D.n) (h64 : D.n ≤ 64) (hcap : D.cap ≤ 64) (x : ActV) (it : I64 x.t) (iN : I64 x.n) (hK : K + 4000 ≤ 900000000) :
    Calls Tryz.prog 70 #[.pointer (some ⟨A.bP, 0, none⟩), x.val] w fun e w' => e = .returned (.bool true) ∧ PG P X D A w0 (K + 4000) w' := by
  obtain ⟨xk, xt, xn, xc, xa, xb⟩ := x
  by_cases k1 : xk = 1
  · subst k1; exact pact_begin xo h h2 h64 xt xn xc xa xb it hK
  · by_cases k2 : xk = 2
    · subst k2; exact pact_steps xo h h2 h64 hcap xt xn xc xa xb it iN hK
    · by_cases k3 : xk = 3
      · subst k3; exact pact_turns xo h h2 h64 hcap xt xn xc xa xb it iN hK
      · exact pact_none xo h h2 h64 xk xt xn xc xa xb k1 k2 k3 it
end
end Go.Proofs.YtefjhnhdagolhaaGreat
