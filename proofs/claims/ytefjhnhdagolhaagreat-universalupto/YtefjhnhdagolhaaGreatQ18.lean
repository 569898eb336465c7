import Derived.Test.YtefjhnhdagolhaaGreatQ17
import Derived.Test.YtefjhnhdagolhaaGreatQ13
import Derived.Deep.AppendLies
namespace Go.Proofs.YtefjhnhdagolhaaGreat
open Go.RowKit
open M (upd upd_same upd_other RSt RTh Dd PI)
attribute [local go_sem ↓] Go.wp_at_zero Go.wp_at_succ
section
variable {σ : Type} {P : M.Plain σ} {tell : σ → List Int} {D : DL} {X : (Nat → Prop) → RSt → World → Prop} {A : PL} {S : Nat → Prop} {w0 : QW} {w w1 : World} {vd vu vs : Value} {Y Y' : RSt} {ds : List Dd} {us ss : List Int} {c : Nat} {fBe fSt fAn fDo fOr fTe fBo K t : Nat} {u : Nat → Option Nat}
def XNew (P : M.Plain σ) (tell : σ → List Int) (n cap : Nat) (w : World) (b : Nat) (w' : World) : Prop :=
  ∃ (tE : TypeId) (bN : Nat) (S : Nat → Prop) (X : (Nat → Prop) → RSt → World → Prop) (fBe fSt fAn fDo fOr fTe fBo : Nat), (∀ D : DL, D.n = n → D.cap = cap → XOk P tell D tE bN X fBe fSt fAn fDo fOr fTe fBo) ∧ X S M.Y0 w' ∧ Row w' b 74 [.iface tE (.pointer (some ⟨bN, 0, none⟩))] ∧ (∀ k, S k → w.heap.size ≤ k ∧ k < w'.heap.size ∧ k ≠ b) ∧ w.heap.size ≤ b ∧ Below w.heap.size w w'
theorem PM.rebase (h : PM X D A w0 S vd vu vs Y ds us ss c w) (w9 : QW) (hq : ∀ k, w9.q k → w0.q k ∧ k < w9.w.heap.size) (hf : Fr (fun k => ¬ w9.q k) w9.w w0.w) : PM X D A w9 S vd vu vs Y ds us ss c w :=
  ⟨h.row, h.obj, h.x, h.xl, h.od, h.ou, h.os, h.sx, h.nu, ⟨fun q => h.lo.1 (hq _ q).1, fun q => h.lo.2.1 (hq _ q).1, fun k hS q => h.lo.2.2.1 k hS (hq k q).1, fun k e q => h.lo.2.2.2 k e (hq k q).1⟩, fun k q => (hq k q).2,
    hf.trans ⟨h.bl.os, h.bl.tape, h.bl.output, h.bl.size, fun k hk hn => h.bl.block k hk (fun c => hn (fun q => c (hq k q).1))⟩⟩
theorem PG.rebase (h : PG P X D A w0 K w) (w9 : QW) (hq : ∀ k, w9.q k → w0.q k ∧ k < w9.w.heap.size) (hf : Fr (fun k => ¬ w9.q k) w9.w w0.w) : PG P X D A w9 K w := by
  obtain ⟨Y, ds, u, c, S, vd, vu, vs, hm, hp⟩ := h
  exact ⟨Y, ds, u, c, S, vd, vu, vs, hm.rebase w9 hq hf, hp⟩
theorem PM.pushU (xo : XOk P tell D A.tE A.bN X fBe fSt fAn fDo fOr fTe fBo) (h : PM X D A w0 S vd vu vs Y ds us ss c w) {W w7 : World} (hb : Below w.heap.size w W) (hg : W.grownBy w7 vu.ownBlock) {g gc : Nat} {x : Int} (ho : w7.ownsRow 0 3 1 (.slice (some ⟨g, 0, none⟩) (us.length + 1) gc) (us.length + 1) (ints us ++ [.int .i64 x])) (hat : vu.ownBlock = some g ∨ g = W.heap.size) :
    PM X D A w0 S vd (.slice (some ⟨g, 0, none⟩) (us.length + 1) gc) vs Y ds (us ++ [x]) ss c (w7.setCell ⟨A.bP, 9, none⟩ (.slice (some ⟨g, 0, none⟩) (us.length + 1) gc)) := by
  have hz := hb.size
  have hr := h.row.lt
  have hx := h.obj.lt
  obtain ⟨n1, n2, n3, n4, n5, n6, n7, n8⟩ := h.ne
  have hk : ∀ k, k < w.heap.size → vu.ownBlock ≠ some k → w7.heap[k]? = w.heap[k]? := fun k hk hn => (hg.block k (by omega) (fun e => hn e.symm)).trans (hb.block k hk)
  have hgn : ∀ k, k < w.heap.size → vu.ownBlock ≠ some k → k ≠ g := fun k hk hn e => by
    rcases hat with q | q
    · exact hn (by rw [e]; exact q)
    · omega
  have hgl : ¬ w0.q g := by
    rcases hat with q | q
    · exact h.lo.2.2.2 g (.inr (.inl q))
    · exact fun c => by have := h.ql g c; have := h.bl.size; omega
  have hgP : g ≠ A.bP := fun e => hgn A.bP hr n3 e.symm
  have hz7 := hg.size
  have hzS : (w7.setCell ⟨A.bP, 9, none⟩ (.slice (some ⟨g, 0, none⟩) (us.length + 1) gc)).heap.size = w7.heap.size := by simp [World.setCell]
  have hob : (Value.slice (some ⟨g, 0, none⟩) (us.length + 1) gc).ownBlock = some g := rfl
  have hne : ∀ k, S k → k ≠ A.bP := fun k hS => (h.sx k hS).1
  exact {
    row := (h.row.of_block (hk _ hr n3)).set 9 _
    obj := (h.obj.of_block (hk _ hx n6)).setOther (Ne.symm n1) _
    x := xo.stay _ _ _ _ _ h.x (fun k hS => (set_block (hne k hS)).trans (hk k (h.xl k hS) (h.sx k hS).2.2.2.1)) (fun _ q => q) (fun k hS => by rw [hzS]; have := h.xl k hS; omega)
    xl := fun k hS => by rw [hzS]; have := h.xl k hS; omega
    od := owns_block h.od fun k e => (set_block (fun q => n2 (by rw [← q]; exact e))).trans (hk k (h.od.lt k e).2 (fun q => (n8 k e).1 q))
    ou := by
      rw [List.length_append]
      have e : ints (us ++ [x]) = ints us ++ [.int .i64 x] := by simp [ints]
      rw [e]
      exact owns_block ho fun k e => set_block (by rw [hob] at e; injection e with e; rw [← e]; exact hgP)
    os := owns_block h.os fun k e => (set_block (fun q => n4 (by rw [← q]; exact e))).trans (hk k (h.os.lt k e).2 (fun q => h.nu k q e))
    sx := fun k hS => ⟨(h.sx k hS).1, (h.sx k hS).2.1, (h.sx k hS).2.2.1, fun e => by rw [hob] at e; injection e with e; exact hgn k (h.xl k hS) (h.sx k hS).2.2.2.1 e.symm, (h.sx k hS).2.2.2.2⟩
    nu := fun k e q => by
      rw [hob] at e
      injection e with e
      exact hgn k (h.os.lt k q).2 (fun c => h.nu k c q) e.symm
    lo := ⟨h.lo.1, h.lo.2.1, h.lo.2.2.1, fun k e => by
      rcases e with e | e | e
      · exact h.lo.2.2.2 k (.inl e)
      · rw [hob] at e; injection e with e; rw [← e]; exact hgl
      · exact h.lo.2.2.2 k (.inr (.inr e))⟩
    ql := h.ql
    bl := below_low (low_of_fr (h.bl.trans (Fr.of_below hb)) (U := fun k => vu.ownBlock = some k) ⟨hg.os, hg.tape, hg.output, hg.size, fun k hk hn => hg.block k hk (fun e => hn e.symm)⟩ (fun q e => h.lo.2.2.2 q (.inr (.inl e)))) h.lo.1 _ _ }
theorem PM.pushS (xo : XOk P tell D A.tE A.bN X fBe fSt fAn fDo fOr fTe fBo) (h : PM X D A w0 S vd vu vs Y ds us ss c w) {W w7 : World} (hb : Below w.heap.size w W) (hg : W.grownBy w7 vs.ownBlock) {g gc : Nat} {x : Int} (ho : w7.ownsRow 0 3 1 (.slice (some ⟨g, 0, none⟩) (ss.length + 1) gc) (ss.length + 1) (ints ss ++ [.int .i64 x])) (hat : vs.ownBlock = some g ∨ g = W.heap.size) :
    PM X D A w0 S vd vu (.slice (some ⟨g, 0, none⟩) (ss.length + 1) gc) Y ds us (ss ++ [x]) c (w7.setCell ⟨A.bP, 10, none⟩ (.slice (some ⟨g, 0, none⟩) (ss.length + 1) gc)) := by
  have hz := hb.size
  have hr := h.row.lt
  have hx := h.obj.lt
  obtain ⟨n1, n2, n3, n4, n5, n6, n7, n8⟩ := h.ne
  have hk : ∀ k, k < w.heap.size → vs.ownBlock ≠ some k → w7.heap[k]? = w.heap[k]? := fun k hk hn => (hg.block k (by omega) (fun e => hn e.symm)).trans (hb.block k hk)
  have hgn : ∀ k, k < w.heap.size → vs.ownBlock ≠ some k → k ≠ g := fun k hk hn e => by
    rcases hat with q | q
    · exact hn (by rw [e]; exact q)
    · omega
  have hgl : ¬ w0.q g := by
    rcases hat with q | q
    · exact h.lo.2.2.2 g (.inr (.inr q))
    · exact fun c => by have := h.ql g c; have := h.bl.size; omega
  have hgP : g ≠ A.bP := fun e => hgn A.bP hr n4 e.symm
  have hz7 := hg.size
  have hzS : (w7.setCell ⟨A.bP, 10, none⟩ (.slice (some ⟨g, 0, none⟩) (ss.length + 1) gc)).heap.size = w7.heap.size := by simp [World.setCell]
  have hob : (Value.slice (some ⟨g, 0, none⟩) (ss.length + 1) gc).ownBlock = some g := rfl
  have hne : ∀ k, S k → k ≠ A.bP := fun k hS => (h.sx k hS).1
  exact {
    row := (h.row.of_block (hk _ hr n4)).set 10 _
    obj := (h.obj.of_block (hk _ hx n7)).setOther (Ne.symm n1) _
    x := xo.stay _ _ _ _ _ h.x (fun k hS => (set_block (hne k hS)).trans (hk k (h.xl k hS) (h.sx k hS).2.2.2.2)) (fun _ q => q) (fun k hS => by rw [hzS]; have := h.xl k hS; omega)
    xl := fun k hS => by rw [hzS]; have := h.xl k hS; omega
    od := owns_block h.od fun k e => (set_block (fun q => n2 (by rw [← q]; exact e))).trans (hk k (h.od.lt k e).2 (fun q => (n8 k e).2 q))
    ou := owns_block h.ou fun k e => (set_block (fun q => n3 (by rw [← q]; exact e))).trans (hk k (h.ou.lt k e).2 (fun q => h.nu k e q))
    os := by
      rw [List.length_append]
      have e : ints (ss ++ [x]) = ints ss ++ [.int .i64 x] := by simp [ints]
      rw [e]
      exact owns_block ho fun k e => set_block (by rw [hob] at e; injection e with e; rw [← e]; exact hgP)
    sx := fun k hS => ⟨(h.sx k hS).1, (h.sx k hS).2.1, (h.sx k hS).2.2.1, (h.sx k hS).2.2.2.1, fun e => by rw [hob] at e; injection e with e; exact hgn k (h.xl k hS) (h.sx k hS).2.2.2.2 e.symm⟩
    nu := fun k e q => by
      rw [hob] at q
      injection q with q
      exact hgn k (h.ou.lt k e).2 (fun c => h.nu k e c) q.symm
    lo := ⟨h.lo.1, h.lo.2.1, h.lo.2.2.1, fun k e => by
      rcases e with e | e | e
      · exact h.lo.2.2.2 k (.inl e)
      · exact h.lo.2.2.2 k (.inr (.inl e))
      · rw [hob] at e; injection e with e; rw [← e]; exact hgl⟩
    ql := h.ql
    bl := below_low (low_of_fr (h.bl.trans (Fr.of_below hb)) (U := fun k => vs.ownBlock = some k) ⟨hg.os, hg.tape, hg.output, hg.size, fun k hk hn => hg.block k hk (fun e => hn e.symm)⟩ (fun q e => h.lo.2.2.2 q (.inr (.inr e)))) h.lo.1 _ _ }
theorem range_const (n : Nat) (x : Int) : (List.range n).map (fun _ => x) = List.replicate n x := by
  rw [List.map_const', List.length_range]
def PMade (P : M.Plain σ) (tell : σ → List Int) (kd st co : Int) (n cap : Nat) (vn vo : Value) (w : World) (e : Ending) (w' : World) : Prop :=
  ∃ (D : DL) (A : PL) (X : (Nat → Prop) → RSt → World → Prop) (fBe fSt fAn fDo fOr fTe fBo : Nat), e = .returned (.pointer (some ⟨A.bP, 0, none⟩)) ∧ A.kd = kd ∧ A.st = st ∧ A.co = co ∧ A.vn = vn ∧ A.vo = vo ∧ D.n = n ∧ D.cap = cap ∧ XOk P tell D A.tE A.bN X fBe fSt fAn fDo fOr fTe fBo ∧ PS P X D A ⟨w, fun k => k < w.heap.size⟩ 0 M.Y0 [] (fun _ => none) 0 w'
set_option maxRecDepth 20000 in
set_option maxHeartbeats 4000000 in
theorem player_w (kd st co : Int) (n cap : Nat) (a1 a2 : Option Addr) (l1 c1 l2 c2 : Nat) (hn : 2 ≤ n) (h64 : n ≤ 64) (w : World)
    (hNew : ∀ W, Below w.heap.size w W → Calls Tryz.prog 42 #[.agg #[.int .i64 kd, .int .i64 (n : Int), .int .i64 (cap : Int), .int .i64 st, .int .i64 co, .slice a1 l1 c1, .slice a2 l2 c2]] W fun e w' => ∃ b, e = .returned (.tuple #[.pointer (some ⟨b, 0, none⟩), .int .i64 0]) ∧ XNew P tell n cap W b w') :
    Calls Tryz.prog 68 #[.agg #[.int .i64 kd, .int .i64 (n : Int), .int .i64 (cap : Int), .int .i64 st, .int .i64 co, .slice a1 l1 c1, .slice a2 l2 c2]] w (PMade P tell kd st co n cap (.slice a1 l1 c1) (.slice a2 l2 c2) w) := by
  obtain ⟨ti, hti, htz⟩ := Option.map_eq_some_iff.1 info_int
  simp only [Prod.mk.injEq] at htz
  obtain ⟨htz1, htz2, htz3⟩ := htz
  have HTI := hide hti
  have HT1 := hide htz1
  have HT2 := hide htz2
  have HT3 := hide htz3
  clear hti htz1 htz2 htz3
  have HN := hide hNew
  clear hNew
  go_enter Tryz.func68, Tryz.ntmps68
  go_wp2_with fail
  generalize hW : World.alloc w _ = W
  have hb : Below w.heap.size w W := by rw [← hW]; exact below_alloc w _
  have hr : Row W w.heap.size 26 [.int .i64 kd, .int .i64 (n : Int), .int .i64 (cap : Int), .int .i64 st, .int .i64 co, .slice a1 l1 c1, .slice a2 l2 c2] := by rw [← hW]; exact Row.new' rfl
  have HB := hide hb
  have HR := hide hr
  clear hW hb hr
  refine (HN.out W HB.out).mono ?_
  rintro e w1 ⟨b, rfl, tE, bN, S, X, fBe, fSt, fAn, fDo, fOr, fTe, fBo, hxo, hx, hrb, hS, hwb, hb1⟩
  have hr1 := HR.out.old hb1
  obtain ⟨-, q0, q1, q2, q3, q4, q5, q6⟩ := cells7 hr1
  have HXX := hide (And.intro hxo (And.intro hx (And.intro hrb (And.intro hS hwb))))
  have HB1 := hide hb1
  clear hxo hx hrb hS hwb hb1 hr1
  go_wp2_with fail
  generalize hW4 : World.alloc w1 _ = W4
  have hb4 : Below w1.heap.size w1 W4 := by rw [← hW4]; exact below_alloc w1 _
  have hrP : Row W4 w1.heap.size 69 [.pointer (some ⟨b, 0, none⟩), .int .i64 kd, .int .i64 (n : Int), .int .i64 (cap : Int), .int .i64 st, .int .i64 co, .slice a1 l1 c1, .slice a2 l2 c2, .slice none 0 0, .slice none 0 0, .slice none 0 0, .int .i64 0] := by rw [← hW4]; exact Row.new' rfl
  obtain ⟨hxo, hx, hrb, hS, hwb⟩ := HXX.out
  obtain ⟨D, hDn, hDc⟩ : ∃ D : DL, D.n = n ∧ D.cap = cap := ⟨⟨0, n, cap, 0, 0, fun _ => 0, fun _ => 0, 0, 0, 0, .bool false, .bool false, [], []⟩, rfl, rfl⟩
  obtain ⟨A, a0, a1', a2', a3, a4, a5, a6, a7, a8⟩ : ∃ A : PL, A.bP = w1.heap.size ∧ A.bX = b ∧ A.tE = tE ∧ A.bN = bN ∧ A.kd = kd ∧ A.st = st ∧ A.co = co ∧ A.vn = .slice a1 l1 c1 ∧ A.vo = .slice a2 l2 c2 := ⟨⟨w1.heap.size, b, tE, bN, kd, st, co, .slice a1 l1 c1, .slice a2 l2 c2⟩, rfl, rfl, rfl, rfl, rfl, rfl, rfl, rfl, rfl⟩
  have xo : XOk P tell D A.tE A.bN X fBe fSt fAn fDo fOr fTe fBo := by rw [a2', a3]; exact hxo D hDn hDc
  have hz1 := HB.out.size
  have hz2 := HB1.out.size
  have hz4 := hb4.size
  have hrW := HR.out.lt
  have hxl : ∀ k, S k → k < w1.heap.size := fun k q => (hS k q).2.1
  have hM : PM X D A ⟨W, fun k => k < W.heap.size⟩ S (.slice none 0 0) (.slice none 0 0) (.slice none 0 0) M.Y0 [] [] [] 0 W4 := by
    refine ⟨?_, ?_, xo.stay _ _ _ _ _ hx (fun k q => hb4.block k (hxl k q)) (fun _ q => q) (fun k q => by have := hxl k q; omega), fun k q => by have := hxl k q; omega, World.ownsRow_nil _ _ _ _, World.ownsRow_nil _ _ _ _, World.ownsRow_nil _ _ _ _, fun k q => ⟨by have := hxl k q; omega, by rw [a1']; exact (hS k q).2.2, fun c => (by cases c), fun c => (by cases c), fun c => (by cases c)⟩, fun k c => (by cases c), ⟨by show ¬ _ < _; omega, by show ¬ _ < _; omega, fun k q => by have := (hS k q).1; show ¬ _ < _; omega, fun k q => by rcases q with c | c | c <;> cases c⟩, fun k q => q, Fr.of_below (Below.next HB1.out hb4 HB1.out.size)⟩
    · unfold plcs; rw [a0, a1', a4, a5, a6, a7, a8, hDn, hDc]; exact hrP
    · rw [a1', a2', a3]; exact hrb.old hb4
  have HM := hide hM
  have HX := hide xo
  have HR4 := hide ((HR.out.old HB1.out))
  have HA := hide (And.intro a4 (And.intro a5 (And.intro a6 (And.intro a7 (And.intro a8 (And.intro hDn hDc))))))
  have HBP := hide a0
  clear hW4 hb4 hrP hxo hx hrb hS hwb hxl hM xo a0 a1' a2' a3 a4 a5 a6 a7 a8 hDn hDc q0 q1 q2 q3 q4 q5 q6 HXX
  rw [← HBP.out]
  go_wp2_with fail
  go_loopw [6] (fun i w' => ∃ k : Nat, k ≤ n ∧ i = .int .i64 (k : Int) ∧ ∃ vu vs, PM X D A ⟨W, fun k => k < W.heap.size⟩ S (.slice none 0 0) vu vs M.Y0 [] (List.replicate k (-1)) (List.replicate k 0) 0 w') (fun i _ => n - (intOf i).toNat)
  case atStart => exact ⟨0, Nat.zero_le _, rfl, _, _, HM.out⟩
  case round =>
    obtain ⟨k, hk, rfl, vu, vs, hm⟩ := hrel
    have hc1 : wr.cell? ⟨w.heap.size, 1, none⟩ = some (.int .i64 (n : Int)) := (HR.out.of_block (hm.bl.block _ HR.out.lt (fun q => q HR.out.lt))).cell_of rfl
    by_cases hlt : k < n
    · have hlt' : (k : Int) < (n : Int) := by omega
      have hul : (List.replicate k (-1 : Int)).length = k := by simp
      have hsl : (List.replicate k (0 : Int)).length = k := by simp
      obtain ⟨⟨ua, uc, rfl⟩, -⟩ := owns_form hm.ou
      have HMR := hide hm
      clear hm
      rw [hul] at HMR
      have HOU := hide (show wr.ownsRow 0 3 1 (.slice ua k uc) k (ints (List.replicate k (-1))) by have := HMR.out.ou; rwa [hul] at this)
      have HUL := hide hul
      have HSL := hide hsl
      clear hul hsl
      have e9 : wr.cell? ⟨A.bP, 9, none⟩ = some (.slice ua k uc) := HMR.out.row.cell_of rfl
      obtain ⟨-, -, n3, n4, -⟩ := HMR.out.ne
      have hbl := HMR.out.row.lt
      go_wp2_with (at_builtin; refine wpList_append_lies _ rfl (.tmp 32) (.tmp 33) 22 rfl 0 3 ti (.int .i64 0) 1 8 Tryz.underlying22 HTI.out HT1.out HT2.out HT3.out rfl (by decide) (.slice ua k uc) k (ints (List.replicate k (-1))) rfl (HOU.out.alloc _) ⟨wr.heap.size, 0, none⟩ 1 1 [.int .i64 (-1)] rfl rfl ?_ (by simp [Value.oneCell']) (by decide) (by unfold maxLen; omega) (by omega) (Nat.zero_le _) (wr.heap.size + 1) (by simp) ?_)
      · exact World.news_of_block (Row.new wr _ _)
      · intro g4 cap4 w4 hown hgr hat hlt4
        have hne9 : some A.bP ≠ (Value.slice ua k uc).ownBlock := fun q => n3 q.symm
        have hr4 : Row w4 A.bP 69 _ := (HMR.out.row.old (below_alloc wr (.cells #[.int .i64 (-1)] 3))).of_block (hgr.block _ (by simp; omega) hne9)
        have k9 : w4.cell? ⟨A.bP, 9, none⟩ = some (.slice ua k uc) := hr4.cell_of rfl
        have f9 := hr4.frozen 9
        have hM5 := HMR.out.pushU HX.out (x := -1) (below_alloc wr (.cells #[.int .i64 (-1)] 3)) hgr (g := g4) (gc := cap4) (by rw [HUL.out]; exact hown) (by rcases hat with q | q; exact .inl q; exact .inr (by rw [q]; simp))
        rw [HUL.out] at hM5
        have HM5 := hide hM5
        clear hown hgr hat hlt4 hM5 hr4 e9 hne9 n3 n4 hbl HMR HOU hc1
        go_upto_region 9 with fail
        generalize hW5 : World.setCell w4 ⟨A.bP, 9, none⟩ (.slice (some ⟨g4, 0, none⟩) (k + 1) cap4) = W5 at *
        clear hW5 k9 f9
        obtain ⟨⟨sa, sc, rfl⟩, -⟩ := owns_form HM5.out.os
        rw [HSL.out] at HM5
        have HOS := hide (show W5.ownsRow 0 3 1 (.slice sa k sc) k (ints (List.replicate k 0)) by have := HM5.out.os; rwa [HSL.out] at this)
        have e10 : W5.cell? ⟨A.bP, 10, none⟩ = some (.slice sa k sc) := HM5.out.row.cell_of rfl
        obtain ⟨-, -, -, n4, -⟩ := HM5.out.ne
        have hbl := HM5.out.row.lt
        go_wp2_with (at_builtin; refine wpList_append_lies _ rfl (.tmp 41) (.tmp 42) 22 rfl 0 3 ti (.int .i64 0) 1 8 Tryz.underlying22 HTI.out HT1.out HT2.out HT3.out rfl (by decide) (.slice sa k sc) k (ints (List.replicate k 0)) rfl (HOS.out.alloc _) ⟨W5.heap.size, 0, none⟩ 1 1 [.int .i64 0] rfl rfl ?_ (by simp [Value.oneCell']) (by decide) (by unfold maxLen; omega) (by omega) (Nat.zero_le _) (W5.heap.size + 1) (by simp) ?_)
        · exact World.news_of_block (Row.new W5 _ _)
        · intro g6 cap6 w6 hown hgr hat hlt6
          have hne10 : some A.bP ≠ (Value.slice sa k sc).ownBlock := fun q => n4 q.symm
          have hr6 : Row w6 A.bP 69 _ := (HM5.out.row.old (below_alloc W5 (.cells #[.int .i64 0] 3))).of_block (hgr.block _ (by simp; omega) hne10)
          have k10 : w6.cell? ⟨A.bP, 10, none⟩ = some (.slice sa k sc) := hr6.cell_of rfl
          have f10 := hr6.frozen 10
          have hM7 := HM5.out.pushS HX.out (x := 0) (below_alloc W5 (.cells #[.int .i64 0] 3)) hgr (g := g6) (gc := cap6) (by rw [HSL.out]; exact hown) (by rcases hat with q | q; exact .inl q; exact .inr (by rw [q]; simp))
          rw [HSL.out, show List.replicate k (-1 : Int) ++ [-1] = List.replicate (k + 1) (-1) from (List.replicate_succ' ).symm, show List.replicate k (0 : Int) ++ [0] = List.replicate (k + 1) 0 from (List.replicate_succ').symm] at hM7
          have HM7 := hide hM7
          clear hown hgr hat hlt6 hM7 hr6 e10 hne10 n4 hbl HM5 HOS
          go_wp2
          go_roundw
          case rel => exact ⟨k + 1, by omega, by go_num, _, _, HM7.out⟩
          case measure => simp [intOf]; omega
    · have hlt' : ¬ (k : Int) < (n : Int) := by omega
      have hkn : k = n := by omega
      have HMR := hide hm
      clear hm
      go_wp2
      go_ret
      obtain ⟨b4, b5, b6, b7, b8, d1, d2⟩ := HA.out
      refine ⟨D, A, X, fBe, fSt, fAn, fDo, fOr, fTe, fBo, rfl, b4, b5, b6, b7, b8, d1, d2, HX.out, S, .slice none 0 0, vu, vs, ?_, M.PI.new P D.n D.cap, Lim.new D, Nat.le_refl _⟩
      have hm := HMR.out.rebase ⟨w, fun k => k < w.heap.size⟩ (fun k q => ⟨Nat.lt_of_lt_of_le q HB.out.size, q⟩) (Fr.of_below HB.out)
      rw [hkn, ← d1] at hm
      have e1 : uvs D.n (fun _ => none) = List.replicate D.n (-1) := range_const _ _
      have e2 : sqs D.n M.Y0 = List.replicate D.n 0 := by show (List.range D.n).map (fun _ => ((([] : List M.Op).length : Nat) : Int)) = _; exact range_const D.n 0
      rw [e1, e2]
      exact hm
end
end Go.Proofs.YtefjhnhdagolhaaGreat
namespace Go.Proofs.YtefjhnhdagolhaaGreat
open Go.RowKit
open M (upd upd_same upd_other RSt RTh Dd PI)
attribute [local go_sem ↓] Go.wp_at_zero Go.wp_at_succ
theorem bnd_eq (n cap : Nat) : bndJ n cap = ((M.bound n cap : Nat) : Int) := by
  unfold bndJ M.bound M.att M.wds M.tw
  omega
section
variable {σ : Type} {P : M.Plain σ} {tell : σ → List Int} {D : DL} {X : (Nat → Prop) → RSt → World → Prop} {A : PL} {S : Nat → Prop} {w w1 : World} {Y Y' : RSt} {ds : List Dd} {c : Nat} {fBe fSt fAn fDo fOr fTe fBo K t : Nat} {u : Nat → Option Nat}
theorem PS.bel (h : PS P X D A ⟨w, fun k => k < w.heap.size⟩ K Y ds u c w1) : Below w.heap.size w w1 := by
  obtain ⟨S, vd, vu, vs, hm, -⟩ := h
  exact ⟨hm.bl.os, hm.bl.tape, hm.bl.output, hm.bl.size, fun k hk => hm.bl.block k hk (fun q => q hk)⟩
theorem PG.bel (h : PG P X D A ⟨w, fun k => k < w.heap.size⟩ K w1) : Below w.heap.size w w1 := by
  obtain ⟨Y, ds, u, c, h⟩ := h
  exact h.bel
def PDone (P : M.Plain σ) (tell : σ → List Int) (kd st co : Int) (n cap : Nat) (vn vo : Value) (K : Nat) (w : World) (e : Ending) (w' : World) : Prop :=
  ∃ (D : DL) (A : PL) (X : (Nat → Prop) → RSt → World → Prop) (fBe fSt fAn fDo fOr fTe fBo : Nat), e = .returned (.pointer (some ⟨A.bP, 0, none⟩)) ∧ A.kd = kd ∧ A.st = st ∧ A.co = co ∧ A.vn = vn ∧ A.vo = vo ∧ D.n = n ∧ D.cap = cap ∧ XOk P tell D A.tE A.bN X fBe fSt fAn fDo fOr fTe fBo ∧ PG P X D A ⟨w, fun k => k < w.heap.size⟩ K w'
set_option maxRecDepth 20000 in
set_option maxHeartbeats 4000000 in
theorem played_w (kd st co : Int) (n cap : Nat) (a1 a2 : Option Addr) (l1 c1 l2 c2 : Nat) (hn : 2 ≤ n) (h64 : n ≤ 64) (hc64 : cap ≤ 64) (l : List ActV) (hl : l.length ≤ 200000) (hi : ∀ x ∈ l, I64 x.t ∧ I64 x.n) (s : Value) (w : World) (hs : Scr w s l)
    (hNew : ∀ W, Below w.heap.size w W → Calls Tryz.prog 42 #[.agg #[.int .i64 kd, .int .i64 (n : Int), .int .i64 (cap : Int), .int .i64 st, .int .i64 co, .slice a1 l1 c1, .slice a2 l2 c2]] W fun e w' => ∃ b, e = .returned (.tuple #[.pointer (some ⟨b, 0, none⟩), .int .i64 0]) ∧ XNew P tell n cap W b w') :
    Calls Tryz.prog 33 #[.agg #[.int .i64 kd, .int .i64 (n : Int), .int .i64 (cap : Int), .int .i64 st, .int .i64 co, .slice a1 l1 c1, .slice a2 l2 c2], s] w (PDone P tell kd st co n cap (.slice a1 l1 c1) (.slice a2 l2 c2) (4000 + 4000 * l.length) w) := by
  have HN := hide hNew
  obtain ⟨sa, sc, rfl, hs⟩ := hs
  have HS := hide hs
  have HI := hide hi
  clear hNew hs hi
  go_enter Tryz.func33, Tryz.ntmps33
  go_wp2_with fail
  generalize hW : World.alloc w _ = W
  have hb : Below w.heap.size w W := by rw [← hW]; exact below_alloc w _
  have HB := hide hb
  clear hW hb
  refine (player_w (P := P) (tell := tell) kd st co n cap a1 a2 l1 c1 l2 c2 hn h64 W (fun W' h' => HN.out W' (Below.next HB.out h' HB.out.size))).mono ?_
  rintro e w1 ⟨D, A, X, fBe, fSt, fAn, fDo, fOr, fTe, fBo, rfl, d1, d2, d3, d4, d5, d6, d7, xo, hp⟩
  have HA := hide (And.intro d1 (And.intro d2 (And.intro d3 (And.intro d4 (And.intro d5 (And.intro d6 d7))))))
  have hDn : 2 ≤ D.n := by rw [d6]; exact hn
  have hD64 : D.n ≤ 64 := by rw [d6]; exact h64
  have hDc : D.cap ≤ 64 := by rw [d7]; exact hc64
  have hm := xo.mBo
  have hcB := xo.cBo
  have HX := hide xo
  have HBE := hide (begins_w xo hp hD64 (t := 0) (by omega) ⟨1, 5, 6⟩ (by omega))
  clear hp xo d1 d2 d3 d4 d5 d6 d7 HN
  go_wp2_with fail
  refine HBE.out.mono ?_
  rintro e w2 ⟨rfl, ds2, u2, hp2⟩
  have hY1 : beY D.n M.Y0 ((0 : Nat) : Int) ⟨1, 5, 6⟩ = M.rbegin M.Y0 0 ⟨1, 5, 6⟩ := by unfold beY; rw [if_pos ⟨by omega, by omega⟩, Int.toNat_natCast, if_pos (show (M.Y0.th 0).part = 0 from rfl)]
  rw [hY1] at hp2
  have hrk := M.rank_begin D.n D.cap M.Y0 0 ⟨1, 5, 6⟩
  have hbl := M.bound_le hD64 hDc
  have hp2' := hp2
  obtain ⟨S2, vd2, vu2, vs2, hm2, -⟩ := hp2'
  have c0 : w2.cell? ⟨A.bP, 0, none⟩ = some (.pointer (some ⟨A.bX, 0, none⟩)) := hm2.row.cell_of rfl
  have cx : w2.cell? ⟨A.bX, 0, none⟩ = some (.iface A.tE (.pointer (some ⟨A.bN, 0, none⟩))) := hm2.obj.cell_of rfl
  have HBO := hide (HX.out.bo _ _ _ hm2.x)
  rw [bnd_eq] at HBO
  have HP2 := hide hp2
  have HRK := hide hrk
  clear hm2 hp2 hY1 hrk
  obtain ⟨B, hB⟩ : ∃ B, B = M.bound D.n D.cap := ⟨_, rfl⟩
  rw [← hB] at HBO HRK hbl
  have HBB := hide hB
  clear hB
  go_wp2_with fail
  refine HBO.out.mono ?_
  rintro e w3 ⟨rfl, hb3⟩
  have HST := hide (psteps_w HX.out (HP2.out.below HX.out hb3) hD64 hDc (t := 0) (by omega) B (by omega))
  clear hb3 c0 cx hm hcB HBO
  go_wp2_with fail
  refine HST.out.mono ?_
  rintro e w4 ⟨rfl, Y4, ds4, u4, c4, hp4, hr4⟩
  have hp0 : (Y4.th 0).part = 0 := by
    rcases hr4 with q | q
    · exact q
    · by_cases q0 : (Y4.th 0).part = 0
      · exact q0
      · obtain ⟨S4, _, _, _, _, hpi, -⟩ := hp4
        have h1 := M.rank_pos (hpi.yi.ok.th 0 (by omega)) q0
        have h2 := HRK.out
        omega
  obtain ⟨gu, cu, x, e9, cut, x0, -⟩ := hp4.under (t := 0) (by omega)
  have hx : x = -1 := x0 hp0
  subst hx
  have hD0 : (0 : Int) < (D.n : Int) := by omega
  have HP4 := hide (show PG P X D A ⟨W, fun k => k < W.heap.size⟩ 4000 w4 from ⟨_, _, _, _, hp4.mono (by omega)⟩)
  clear hr4 hp4 hp0 x0 HST HP2 HRK HBB hbl
  go_wp2_with fail
  clear e9 cut
  go_loopw [9] (fun i w' => ∃ k : Nat, k ≤ l.length ∧ i = .int .i64 (k : Int) ∧ PG P X D A ⟨W, fun k => k < W.heap.size⟩ (4000 + 4000 * k) w') (fun i _ => l.length - (intOf i).toNat)
  case atStart => exact ⟨0, Nat.zero_le _, rfl, HP4.out⟩
  case round =>
    obtain ⟨k, hk, rfl, hJ⟩ := hrel
    have hB := Below.next HB.out hJ.bel HB.out.size
    by_cases hlt : k < l.length
    · have hlt' : (k : Int) < (l.length : Int) := by omega
      have hk0 : (0 : Int) ≤ (k : Int) := by omega
      obtain ⟨g, off, rfl, hcs⟩ := HS.out (by omega)
      have he : l[k]? = some l[k] := List.getElem?_eq_getElem hlt
      obtain ⟨d0, d1, d2, d3, d4, d5⟩ := hcs k _ he
      obtain ⟨i1, i2⟩ := HI.out _ (List.mem_of_getElem? he)
      generalize l[k] = x at he d0 d1 d2 d3 d4 d5 i1 i2
      replace d0 := cell_later hB d0
      replace d1 := cell_later hB d1
      replace d2 := cell_later hB d2
      replace d3 := cell_later hB d3
      replace d4 := cell_later hB d4
      replace d5 := cell_later hB d5
      have HA2 := hide (pact_w HX.out hJ hDn hD64 hDc x i1 i2 (by omega))
      unfold ActV.val at HA2
      clear hB hJ hcs he i1 i2
      go_wp2_with fail
      refine HA2.out.mono ?_
      rintro e w2 ⟨rfl, hJ2⟩
      have HJ2 := hide hJ2
      clear d0 d1 d2 d3 d4 d5 hJ2
      go_wp2
      go_roundw
      case rel => exact ⟨k + 1, by omega, by go_num, HJ2.out.mono (by omega)⟩
      case measure => simp [intOf]; omega
    · have hlt' : ¬ (k : Int) < (l.length : Int) := by omega
      have hkl : k = l.length := by omega
      have HJ := hide hJ
      clear hB hJ
      go_wp2
      go_ret
      obtain ⟨b4, b5, b6, b7, b8, d1, d2⟩ := HA.out
      refine ⟨D, A, X, fBe, fSt, fAn, fDo, fOr, fTe, fBo, rfl, b4, b5, b6, b7, b8, d1, d2, HX.out, ?_⟩
      rw [← hkl]
      exact HJ.out.rebase ⟨w, fun k => k < w.heap.size⟩ (fun k q => ⟨Nat.lt_of_lt_of_le q HB.out.size, q⟩) (Fr.of_below HB.out)
end
end Go.Proofs.YtefjhnhdagolhaaGreat
namespace Go.Proofs.YtefjhnhdagolhaaGreat
open Go.RowKit
attribute [local go_sem ↓] Go.wp_at_zero Go.wp_at_succ
def cfK (b : Bool) (kind : Int) : Int := if b then 5 else 1 + pk kind 4
set_option maxRecDepth 20000 in
set_option maxHeartbeats 4000000 in
theorem config_w (b : Bool) (kind th cap st co : Int) (a1 a2 : Option Addr) (l1 c1 l2 c2 : Nat) (ik : I64 kind) (it : I64 th) (ic : I64 cap) (w : World) :
    Calls Tryz.prog 34 #[.agg #[.int .i64 kind, .int .i64 th, .int .i64 cap, .int .i64 st, .int .i64 co, .slice a1 l1 c1, .slice a2 l2 c2], .bool b] w fun e w' => e = .returned (.agg #[.int .i64 (cfK b kind), .int .i64 (2 + pk th 19), .int .i64 (pk cap 65), .int .i64 st, .int .i64 co, .slice a1 l1 c1, .slice a2 l2 c2]) ∧ Below w.heap.size w w' := by
  obtain ⟨p0, p1⟩ := pk_range th 19 (by decide)
  obtain ⟨q0, q1⟩ := pk_range cap 65 (by decide)
  obtain ⟨r0, r1⟩ := pk_range kind 4 (by decide)
  have HT := hide (fun W : World => pick_any th 19 W (by decide) (by decide) it.1 it.2)
  have HC := hide (fun W : World => pick_any cap 65 W (by decide) (by decide) ic.1 ic.2)
  have HK := hide (fun W : World => pick_any kind 4 W (by decide) (by decide) ik.1 ik.2)
  have hw1 : IntKind.i64.wrap (2 + pk th 19) = 2 + pk th 19 := wrapi _ (by omega) (by omega)
  have hw2 : IntKind.i64.wrap (1 + pk kind 4) = 1 + pk kind 4 := wrapi _ (by omega) (by omega)
  have HKD := hide (show cfK b kind = if b then 5 else 1 + pk kind 4 from rfl)
  generalize cfK b kind = kd at *
  generalize pk th 19 = pt at *
  generalize pk cap 65 = pc at *
  generalize pk kind 4 = pq at *
  go_enter Tryz.func34, Tryz.ntmps34
  go_upto_region 1 with fail
  generalize hW : World.alloc (World.alloc w _) _ = W
  have hb0 : Below w.heap.size w W := by rw [← hW]; exact (below_alloc w _).alloc (by simp) _
  have rB : Row W w.heap.size 26 [.int .i64 kind, .int .i64 th, .int .i64 cap, .int .i64 st, .int .i64 co, .slice a1 l1 c1, .slice a2 l2 c2] := by rw [← hW]; exact (Row.new' rfl).alloc _
  have rR : Row W (w.heap.size + 1) 26 [.int .i64 0, .int .i64 0, .int .i64 0, .int .i64 0, .int .i64 0, .slice none 0 0, .slice none 0 0] := by rw [← hW]; exact Row.new' (by simp)
  clear hW
  have x1 := rB.cell_of (i := 1) rfl
  have y1 := rB.frozen 1
  have hne : w.heap.size + 1 ≠ w.heap.size := by omega
  have s1 := rB.set 1 (.int .i64 (2 + pt))
  have t1 := rR.setOther (a := ⟨w.heap.size, 1, none⟩) hne (.int .i64 (2 + pt))
  have b1 := Below.setCell (p := ⟨w.heap.size, 1, none⟩) hb0 (Nat.le_refl _) (.int .i64 (2 + pt))
  have H1 := hide (And.intro s1 (And.intro t1 b1))
  clear rB rR hb0 s1 t1 b1
  go_wp2_with fail
  refine (HT.out _).mono ?_
  rintro e w' ⟨rfl, rfl⟩
  go_upto_region 2 with fail
  generalize World.setCell w' ⟨w.heap.size, 1, none⟩ (.int .i64 (2 + pt)) = W1 at *
  obtain ⟨s1, t1, b1⟩ := H1.out
  clear x1 y1
  have x2 := s1.cell_of (i := 2) rfl
  have y2 := s1.frozen 2
  have H2 := hide (And.intro (s1.set 2 (.int .i64 pc)) (And.intro (t1.setOther (a := ⟨w.heap.size, 2, none⟩) hne (.int .i64 pc)) (Below.setCell (p := ⟨w.heap.size, 2, none⟩) b1 (Nat.le_refl _) (.int .i64 pc))))
  clear s1 t1 b1 H1
  go_wp2_with fail
  refine (HC.out _).mono ?_
  rintro e w' ⟨rfl, rfl⟩
  go_upto_region 3 with fail
  generalize World.setCell w' ⟨w.heap.size, 2, none⟩ (.int .i64 pc) = W2 at *
  obtain ⟨s1, t1, b1⟩ := H2.out
  clear x2 y2
  have x0 := s1.cell_of (i := 0) rfl
  have y0 := s1.frozen 0
  have H3 := hide (And.intro (s1.set 0 (.int .i64 (1 + pq))) (And.intro (t1.setOther (a := ⟨w.heap.size, 0, none⟩) hne (.int .i64 (1 + pq))) (Below.setCell (p := ⟨w.heap.size, 0, none⟩) b1 (Nat.le_refl _) (.int .i64 (1 + pq)))))
  clear s1 t1 b1 H2
  go_wp2_with fail
  refine (HK.out _).mono ?_
  rintro e w' ⟨rfl, rfl⟩
  go_upto_region 4 with fail
  generalize World.setCell w' ⟨w.heap.size, 0, none⟩ (.int .i64 (1 + pq)) = W3 at *
  obtain ⟨s1, t1, b1⟩ := H3.out
  clear x0 y0 H3
  have fin : ∀ (W4 : World) (k : Int), Row W4 w.heap.size 26 [.int .i64 k, .int .i64 (2 + pt), .int .i64 pc, .int .i64 st, .int .i64 co, .slice a1 l1 c1, .slice a2 l2 c2] → Row W4 (w.heap.size + 1) 26 [.int .i64 0, .int .i64 0, .int .i64 0, .int .i64 0, .int .i64 0, .slice none 0 0, .slice none 0 0] → Below w.heap.size w W4 → Row (W4.setCells (w.heap.size + 1) 0 [.int .i64 k, .int .i64 (2 + pt), .int .i64 pc, .int .i64 st, .int .i64 co, .slice a1 l1 c1, .slice a2 l2 c2]) (w.heap.size + 1) 26 [.int .i64 k, .int .i64 (2 + pt), .int .i64 pc, .int .i64 st, .int .i64 co, .slice a1 l1 c1, .slice a2 l2 c2] ∧ Below w.heap.size w (W4.setCells (w.heap.size + 1) 0 [.int .i64 k, .int .i64 (2 + pt), .int .i64 pc, .int .i64 st, .int .i64 co, .slice a1 l1 c1, .slice a2 l2 c2]) := fun W4 k h1 h2 h3 => ⟨((((((h2.set 0 _).set 1 _).set 2 _).set 3 _).set 4 _).set 5 _).set 6 _, below_setCells (by omega) _ _ _ h3⟩
  have HF := hide fin
  clear fin
  cases b with
  | true =>
    have ek : kd = 5 := HKD.out
    subst ek
    have x0 := s1.cell_of (i := 0) rfl
    have y0 := s1.frozen 0
    have H4 := hide (And.intro (s1.set 0 (.int .i64 5)) (And.intro (t1.setOther (a := ⟨w.heap.size, 0, none⟩) hne (.int .i64 5)) (Below.setCell (p := ⟨w.heap.size, 0, none⟩) b1 (Nat.le_refl _) (.int .i64 5))))
    clear s1 t1 b1
    go_upto_region 6 with fail
    generalize World.setCell W3 ⟨w.heap.size, 0, none⟩ (.int .i64 5) = W4 at *
    obtain ⟨s1, t1, b1⟩ := H4.out
    clear x0 y0 H4
    obtain ⟨-, v0, v1, v2, v3, v4, v5, v6⟩ := cells7 s1
    obtain ⟨-, z0, z1, z2, z3, z4, z5, z6⟩ := cells7 t1
    have y0 := t1.frozen 0
    have y1 := t1.frozen 1
    have y2 := t1.frozen 2
    have y3 := t1.frozen 3
    have y4 := t1.frozen 4
    have y5 := t1.frozen 5
    have y6 := t1.frozen 6
    have HE := hide (HF.out W4 5 s1 t1 b1)
    clear s1 t1 b1 HF
    go_wp2
    exact bodyPost_ret (v := .agg #[.int .i64 5, .int .i64 (2 + pt), .int .i64 pc, .int .i64 st, .int .i64 co, .slice a1 l1 c1, .slice a2 l2 c2]) (by simp [results, Tryz.results34, go_sem, z0, z1, z2, z3, z4, z5, z6]) rfl ⟨rfl, HE.out.2⟩
  | false =>
    have ek : kd = 1 + pq := HKD.out
    subst ek
    obtain ⟨-, v0, v1, v2, v3, v4, v5, v6⟩ := cells7 s1
    obtain ⟨-, z0, z1, z2, z3, z4, z5, z6⟩ := cells7 t1
    have y0 := t1.frozen 0
    have y1 := t1.frozen 1
    have y2 := t1.frozen 2
    have y3 := t1.frozen 3
    have y4 := t1.frozen 4
    have y5 := t1.frozen 5
    have y6 := t1.frozen 6
    have HE := hide (HF.out W3 (1 + pq) s1 t1 b1)
    clear s1 t1 b1 HF
    go_wp2
    exact bodyPost_ret (v := .agg #[.int .i64 (1 + pq), .int .i64 (2 + pt), .int .i64 pc, .int .i64 st, .int .i64 co, .slice a1 l1 c1, .slice a2 l2 c2]) (by simp [results, Tryz.results34, go_sem, z0, z1, z2, z3, z4, z5, z6]) rfl ⟨rfl, HE.out.2⟩
end Go.Proofs.YtefjhnhdagolhaaGreat
