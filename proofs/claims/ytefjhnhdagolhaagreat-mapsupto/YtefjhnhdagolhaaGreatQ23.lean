import Derived.Test.YtefjhnhdagolhaaGreatQ22
namespace Go.Proofs.YtefjhnhdagolhaaGreat
open Go.RowKit
open M (upd upd_same upd_other RSt RTh cnt marks tagged num)
attribute [local go_sem ↓] Go.wp_at_zero Go.wp_at_succ
theorem keepC6 {w1 w2 : World} {b1 o1 b2 o2 b3 o3 b4 o4 b5 o5 b6 o6 : Nat} {v1 v2 v3 v4 v5 : Value} {xs : List Value}
    (h : w1.cell? ⟨b1, o1, none⟩ = some v1 ∧ w1.cell? ⟨b2, o2, none⟩ = some v2 ∧ w1.cell? ⟨b3, o3, none⟩ = some v3 ∧ w1.cell? ⟨b4, o4, none⟩ = some v4 ∧ w1.cell? ⟨b5, o5, none⟩ = some v5 ∧ w1.rangeAt b6 o6 xs)
    {K : Nat → Prop} (hK : K b1 ∧ K b2 ∧ K b3 ∧ K b4 ∧ K b5 ∧ K b6) (hk : ∀ k, K k → w2.heap[k]? = w1.heap[k]?) :
    w2.cell? ⟨b1, o1, none⟩ = some v1 ∧ w2.cell? ⟨b2, o2, none⟩ = some v2 ∧ w2.cell? ⟨b3, o3, none⟩ = some v3 ∧ w2.cell? ⟨b4, o4, none⟩ = some v4 ∧ w2.cell? ⟨b5, o5, none⟩ = some v5 ∧ w2.rangeAt b6 o6 xs :=
  ⟨ptr_block h.1 (hk _ hK.1), ptr_block h.2.1 (hk _ hK.2.1), ptr_block h.2.2.1 (hk _ hK.2.2.1), ptr_block h.2.2.2.1 (hk _ hK.2.2.2.1), ptr_block h.2.2.2.2.1 (hk _ hK.2.2.2.2.1), fun j v hv => ptr_block (h.2.2.2.2.2 j v hv) (hk _ hK.2.2.2.2.2)⟩
def KR (wr : World) (b8 : Nat) (vh : Value) (x : Nat) : Prop := x < wr.heap.size ∧ x ≠ b8 ∧ vh.ownBlock ≠ some x
def AnsI {σ : Type} (P : M.Plain σ) (Y : RSt) (tq q : Int) (u : Nat) (an : M.Ans) : Prop := ∀ t0 : Nat, tq = t0 → (((Y.bs.flatten.take u).count t0 : Nat) : Int) = q + 1 → an = (rpAt P Y u).an t0
def RpL {σ : Type} (L : DL) (P : M.Plain σ) (HM : World → Value → σ → Prop) (sz : σ → Nat) (Y : RSt) (w : World) (b8 : Nat) (vl : Value) (tq q : Int) (i : Value) (w' : World) : Prop :=
  ∃ (u : Nat) (vh : Value) (an : M.Ans), u ≤ Y.order.length ∧ i = .int .i64 (u : Int) ∧ RpJ L HM Y w b8 vl (rpAt P Y u).st vh an w' ∧ sz (rpAt P Y u).st ≤ 2 + 2 * u ∧ AnsI P Y tq q u an
set_option maxRecDepth 20000 in
set_option maxHeartbeats 8000000 in
theorem docReplay {σ : Type} {L : DL} {P : M.Plain σ} {tell : σ → List Int} {sz : σ → Nat} {HM : World → Value → σ → Prop} {Au : Nat → World → Prop} {S : Nat → Prop} {Y : RSt} {w : World} {lab : Nat → Nat} {vo vp : Nat → Value} {vb : Value} {bv : Nat → Value}
    (hD : DOk L P tell sz HM Au) (h : DR L S Y w lab vo vp vb bv) (hmem : ∀ b ∈ Y.bs, ∀ k ∈ b, k < L.n) (hops : ∀ t, t < L.n → cnt Y.bs t ≤ (Y.th t).ops.length) (hA : Y.bs.flatten.length ≤ 100000000000) (B : Nat) (hB : B ≤ w.heap.size) (hAu : Au B w) (a1 a2 : Option Addr) (l1 c1 l2 c2 : Nat) (hvn : L.vn = .slice a1 l1 c1) (hvo : L.vo = .slice a2 l2 c2) (tq q : Int) :
    Calls Tryz.prog 88 #[.pointer (some ⟨L.b, 0, none⟩), .int .i64 tq, .int .i64 q] w fun e w' => ∃ vh an, e = .returned (.tuple #[.agg (plc L vh).toArray, .agg #[.int .i64 an.s, .int .i64 an.v]]) ∧ HM w' vh (rpAt P Y Y.order.length).st ∧ (∀ k, vh.ownBlock = some k → w.heap.size ≤ k) ∧ Below w.heap.size w w' ∧ AnsI P Y tq q Y.order.length an := by
  have HR := hide h
  obtain ⟨-, k0, k1, k2, k3, k4, k5, k6⟩ : True ∧ w.cell? ⟨L.b, 0, none⟩ = some (.int .i64 L.kind) ∧ w.cell? ⟨L.b, 1, none⟩ = some (.int .i64 (L.n : Int)) ∧ w.cell? ⟨L.b, 2, none⟩ = some (.int .i64 (L.cap : Int)) ∧ w.cell? ⟨L.b, 3, none⟩ = some (.int .i64 L.st) ∧ w.cell? ⟨L.b, 4, none⟩ = some (.int .i64 L.co) ∧ w.cell? ⟨L.b, 5, none⟩ = some (.slice a1 l1 c1) ∧ w.cell? ⟨L.b, 6, none⟩ = some (.slice a2 l2 c2) :=
    ⟨trivial, h.ocell rfl, h.ocell rfl, h.ocell rfl, h.ocell rfl, h.ocell rfl, by rw [← hvn]; exact h.ocell rfl, by rw [← hvo]; exact h.ocell rfl⟩
  have hlt : L.b < w.heap.size := World.block_lt_of_cell? w _ k0
  have hne1 : ¬ L.b = w.heap.size := by omega
  have hne2 : ¬ L.b = w.heap.size + 1 := by omega
  have HF := hide (fun W => hD.first W)
  rw [hvn, hvo] at HF
  have HD := hide hD
  have HAU := hide hAu
  have HMEM := hide hmem
  have HOPS := hide hops
  clear h hD hAu hmem hops
  go_enter Tryz.func88, Tryz.ntmps88
  go_wp2_with fail
  refine (HF.out _).mono ?_
  rintro e w1 ⟨vh0, rfl, hM0, hfr0, hb1⟩
  obtain ⟨ha, hl, hc, rfl⟩ := HD.out.form _ _ _ hM0
  have hN : Row w1 w.heap.size 159 [.int .i64 0, .int .i64 0, .int .i64 0, .slice none 0 0, .slice none 0 0, .slice none 0 0] := ((Row.new' rfl).alloc _).old hb1
  have hM : Row w1 (w.heap.size + 1) 94 [.int .i64 0, .int .i64 0] := (Row.new' (by simp)).old hb1
  have HB1 := hide (Below.next (((Below.refl w.heap.size w).alloc (Nat.le_refl _) _).alloc (by simp) _) hb1 (by simp; omega))
  have hz1 : w.heap.size + 1 < w1.heap.size := hM.lt
  have HN := hide hN
  have HMM := hide hM
  have HM0 := hide hM0
  have HFR := hide hfr0
  have e9 : plc L (.slice ha hl hc) = [.int .i64 L.kind, .int .i64 L.st, .int .i64 L.co, .slice a1 l1 c1, .slice a2 l2 c2, .slice ha hl hc] := by unfold plc; rw [hvn, hvo]
  rw [e9]
  clear hN hM hb1 hM0 hfr0 k0 k1 k2 k3 k4 k5 k6
  go_wp2_with fail
  generalize hW3 : World.alloc (World.alloc w1 _) _ = W3
  have hb3 : Below w1.heap.size w1 W3 := by rw [← hW3]; exact ((Below.refl _ _).alloc (Nat.le_refl _) _).alloc (by simp) _
  have hP : Row W3 w1.heap.size 159 (plc L (.slice ha hl hc)) := by rw [← hW3, e9]; exact (Row.new' rfl).alloc _
  have hA9 : Row W3 (w1.heap.size + 1) 94 [.int .i64 0, .int .i64 0] := by rw [← hW3]; exact Row.new' (by simp)
  have hz3 : w1.heap.size + 1 < W3.heap.size := hA9.lt
  have HW3 := hide (And.intro hb3 (And.intro hP hA9))
  have hB3 : Below w.heap.size w W3 := Below.next HB1.out hb3 HB1.out.size
  have HOr := hide (docOrder (HR.out.stay (w' := W3) (S' := S) (fun k hS => hB3.block k (HR.out.lt k hS)) (fun _ h => h) (fun k hS => Nat.lt_of_lt_of_le (HR.out.lt k hS) hB3.size)) (by omega))
  have HB3 := hide hB3
  clear hW3 hP hA9 hb3 hB3
  refine HOr.out.mono ?_
  rintro e w4 ⟨vl, rfl, hO4, hb4⟩
  have hJ : RpJ L HM Y w w1.heap.size vl (rpAt P Y 0).st (.slice ha hl hc) ⟨0, 0⟩ w4 := by
    have hz4 := hb4.size
    refine ⟨Below.next HB3.out hb4 HB3.out.size, HW3.out.2.1.old hb4, ?_, fun k e => ?_, by omega, HW3.out.2.2.old hb4, (HN.out.old HW3.out.1).old hb4, (HMM.out.old HW3.out.1).old hb4, owns_base hO4 (by omega)⟩
    · refine HD.out.stay _ _ _ _ HM0.out fun k e => ?_
      have := HD.out.lt _ _ _ HM0.out k e
      rw [hb4.block k (by omega), HW3.out.1.block k this]
    · have q1 := HFR.out k e
      have q2 := HD.out.lt _ _ _ HM0.out k e
      refine ⟨by simpa using q1, by omega, by omega, fun c => ?_⟩
      have := (hO4.lt k c).1
      omega
  have HJ := hide hJ
  obtain ⟨⟨la, lc, rfl⟩, -⟩ := owns_form hO4
  clear hO4 hb4 hJ HOr HM0 HFR e9
  have hol2 : Y.order.length ≤ Y.bs.flatten.length := Nat.le_of_eq (order_len Y)
  have hol3 : Y.bs.flatten.length ≤ Y.order.length := Nat.le_of_eq (order_len Y).symm
  have hol1 : Y.order.length ≤ 100000000000 := by omega
  generalize hb8 : w1.heap.size = b8 at *
  go_wp2_with fail
  go_loopw [11] (fun i w' => RpL L P HM sz Y w b8 (.slice la Y.order.length lc) tq q i w') (fun i _ => Y.order.length - (intOf i).toNat)
  case atStart =>
    refine ⟨0, _, _, Nat.zero_le _, rfl, HJ.out, HD.out.sz0, fun t0 _ _ => rfl⟩
  case round =>
    obtain ⟨u, vh, an, hu, rfl, hJ, hsz, hAn⟩ := hrel
    have hB := hJ.below
    have c7 : wr.cell? ⟨L.b, 7, none⟩ = some (.slice (some ⟨L.g, 0, none⟩) L.n L.gc) := cell_later hB (HR.out.ocell rfl)
    have HJr := hide hJ
    have HAn := hide hAn
    by_cases hut : u < Y.order.length
    · have hut' : (u : Int) < (Y.order.length : Int) := by omega
      have hu0 : (0 : Int) ≤ (u : Int) := by omega
      have huf : u < Y.bs.flatten.length := by omega
      obtain ⟨o1, o2⟩ := order_get Y u hut huf
      obtain ⟨k, hk⟩ : ∃ k, k = Y.bs.flatten[u] := ⟨_, rfl⟩
      obtain ⟨sq, hsq⟩ : ∃ sq, sq = (Y.bs.flatten.take u).count k := ⟨_, rfl⟩
      rw [← hk] at o1
      rw [← hk, ← hsq] at o2
      have hkn : k < L.n := by
        have : k ∈ Y.bs.flatten := by rw [hk]; exact List.getElem_mem huf
        obtain ⟨b, hb, hkb⟩ := List.mem_flatten.1 this
        exact HMEM.out b hb k hkb
      have hcs := count_succ Y.bs.flatten u huf k
      rw [← hk, if_pos rfl, ← hsq] at hcs
      have hsl : sq < (Y.th k).ops.length := by
        have h1 := count_take_le Y.bs.flatten (u + 1) k
        have h2 := HOPS.out k hkn
        unfold cnt at h2
        omega
      obtain ⟨op, hop⟩ : ∃ op, op = (Y.th k).ops[sq] := ⟨_, rfl⟩
      have hopD : ((Y.th k).ops).getD sq ⟨0, 0, 0⟩ = op := by rw [hop]; simp [List.getD, List.getElem?_eq_getElem hsl]
      obtain ⟨ap, hap⟩ : ∃ ap, ap = P.apply (rpAt P Y u).st op := ⟨_, rfl⟩
      have hnx := rpAt_succ P Y u huf
      rw [← hk] at hnx
      have hc9 : (rpAt P Y u).c k = sq := by rw [rpAt_c, ← hsq]
      have HST := hide (show (rpAt P Y (u + 1)).st = ap.1 by rw [hnx]; simp only [M.Rp.next, hc9, hopD, ← hap])
      have hank : (rpAt P Y (u + 1)).an k = ap.2 := by rw [hnx]; simp only [M.Rp.next, hc9, hopD, ← hap, upd_same]
      have hano : ∀ t0, t0 ≠ k → (rpAt P Y (u + 1)).an t0 = (rpAt P Y u).an t0 := fun t0 ht0 => by rw [hnx]; simp only [M.Rp.next, upd_other _ _ ht0]
      have HSZ := hide (show sz (rpAt P Y (u + 1)).st ≤ 2 + 2 * u + 2 by rw [HST.out, hap]; have := HD.out.szs (rpAt P Y u).st op; omega)
      have HN1 := hide (show (k : Int) = tq → (sq : Int) = q → AnsI P Y tq q (u + 1) ap.2 from fun h1 h2 t0 ht0 _ => by
        have : t0 = k := by omega
        rw [this, hank])
      have HN2 := hide (show ¬ ((k : Int) = tq ∧ (sq : Int) = q) → AnsI P Y tq q (u + 1) an from fun hn t0 ht0 hct => by
        by_cases e : t0 = k
        · subst e
          rw [hcs] at hct
          exact absurd ⟨ht0.symm, by omega⟩ hn
        · rw [hano t0 e]
          refine HAn.out t0 ht0 ?_
          have h9 := count_succ Y.bs.flatten u huf t0
          rw [← hk, if_neg (fun c => e c.symm)] at h9
          rw [← hct, h9]
          rfl)
      have HOG := hide (And.intro o1 o2)
      obtain ⟨gl, cl, el, m1⟩ := owns_get hJ.ml (markcs_get Y.order u hut).2.1
      obtain ⟨gl', cl', el', m2⟩ := owns_get hJ.ml (markcs_get Y.order u hut).2.2
      injection el with el1 _ el2
      subst el1 el2
      injection el' with el1 _ el2
      injection el1 with el1
      injection el1 with el1
      subst el1
      clear el2
      rw [o1] at m1
      rw [o2] at m2
      have cp := cell_later hB (HR.out.ptr k hkn)
      have og := opcs_get (Y.th k).ops sq hsl
      obtain ⟨go, oc, eo, g0⟩ := owns_get (HR.out.ops k hkn) og.1
      have g1 := (HR.out.ops k hkn).cells (g := go) (by rw [eo]; rfl) (sq * 3 + 1) _ og.2.1
      have g2 := (HR.out.ops k hkn).cells (g := go) (by rw [eo]; rfl) (sq * 3 + 2) _ og.2.2
      rw [addr_add, Nat.zero_add] at g1 g2
      rw [← hop] at g0 g1 g2
      have co : wr.cell? ⟨L.bT k, 0, none⟩ = some (.slice (some ⟨go, 0, none⟩) (Y.th k).ops.length oc) := by rw [← eo]; exact cell_later hB (HR.out.tcell hkn rfl)
      have opr : wr.rangeAt go (sq * 3) [.int .i64 op.c, .int .i64 op.a, .int .i64 op.b] := fun j v hv => by
        match j, hv with
        | 0, hv => injection hv with hv; subst hv; exact cell_later hB g0
        | 1, hv => injection hv with hv; subst hv; exact cell_later hB g1
        | 2, hv => injection hv with hv; subst hv; exact cell_later hB g2
      have hsl' : (sq : Int) < ((Y.th k).ops.length : Int) := by omega
      have hsq0 : (0 : Int) ≤ (sq : Int) := by omega
      have hkn' : (k : Int) < (L.n : Int) := by omega
      have hk0 : (0 : Int) ≤ (k : Int) := by omega
      have hszo : (Tryz.prog.info? 36).map (·.size) = some 3 := by kernel_rfl
      have HS0 := hide (And.intro c7 (And.intro m1 (And.intro m2 (And.intro cp (And.intro co opr)))))
      have kold : ∀ x, x < w.heap.size → x < wr.heap.size ∧ x ≠ b8 ∧ vh.ownBlock ≠ some x := fun x hx => ⟨Nat.lt_of_lt_of_le hx hB.size, by have := hJ.b8w; omega, fun c => by have := (hJ.vhb x c).1; omega⟩
      have HK := hide (show KR wr b8 vh L.b ∧ KR wr b8 vh gl ∧ KR wr b8 vh gl ∧ KR wr b8 vh L.g ∧ KR wr b8 vh (L.bT k) ∧ KR wr b8 vh go from by
        have hgl : gl < wr.heap.size ∧ gl ≠ b8 ∧ vh.ownBlock ≠ some gl := ⟨(hJ.ml.lt gl rfl).2, by have := (hJ.ml.lt gl rfl).1; omega, fun c => (hJ.vhb gl c).2.2.2 rfl⟩
        exact ⟨kold _ (HR.out.lt _ HR.out.obL.1), hgl, hgl, kold _ (HR.out.lt _ HR.out.ptL.1), kold _ (HR.out.lt _ (HR.out.thL k hkn).1), kold _ (World.block_lt_of_cell? w _ g0)⟩)
      have hsz' : sz (rpAt P Y u).st ≤ 1000000000000 := by omega
      obtain ⟨ha5, hl5, hc5, e5⟩ := HD.out.form _ _ _ hJ.hm
      have HSZ' := hide hsz'
      have HAP := hide hap
      have HDo := hide (show ∀ W, Below wr.heap.size wr W → Calls Tryz.prog 114 #[.pointer (some ⟨b8, 0, none⟩), .agg #[.int .i64 op.c, .int .i64 op.a, .int .i64 op.b]] W fun e w' => e = .returned (.agg #[.int .i64 ap.2.s, .int .i64 ap.2.v]) ∧ ∃ vh', RpJ L HM Y w b8 (.slice (some ⟨gl, 0, none⟩) Y.order.length lc) ap.1 vh' an w' ∧ (∀ k, vh'.ownBlock = some k → vh.ownBlock = some k ∨ W.heap.size ≤ k) ∧ Fr (fun k => k = b8 ∨ vh.ownBlock = some k) W w' from fun W hW => by
        have hJw := RpJ.later HD.out HJr.out hW
        refine (HD.out.does B W b8 vh (rpAt P Y u).st op (HD.out.au _ w _ HAU.out (fun x hx => hJw.below.block x (by omega))) (by have := HJr.out.b8w; omega) hJw.pl hJw.hm (fun x hx => ⟨by have := (HJr.out.vhb x hx).1; omega, (HJr.out.vhb x hx).2.1⟩) HSZ'.out).mono ?_
        rintro e w5 ⟨rfl, vh', hr5, hm5, hv5, hf5⟩
        rw [← hap] at hm5 ⊢
        exact ⟨rfl, vh', hJw.does hr5 hm5 hv5 hf5, fun k e => (hv5 k e).2, hf5⟩)
      clear hJ hAn o1 o2 hk hsq hcs hop hopD hap hnx hc9 hank hano m1 m2 og g0 g1 g2 kold hsz hsz' c7 cp co opr hB eo
      have RNX := hide (show ¬ (wr.heap.size = b8 ∨ vh.ownBlock = some wr.heap.size) from by
        rintro (c | c)
        · have := HJr.out.pl.lt; omega
        · have := HD.out.lt _ _ _ HJr.out.hm _ c; omega)
      have RNA := hide (show ∀ w5, Fr (fun k => k = b8 ∨ vh.ownBlock = some k) (wr.alloc (.cells #[.int .i64 0, .int .i64 0] 94)).drew w5 → Row w5 wr.heap.size 94 [.int .i64 0, .int .i64 0] from fun w5 hf => (show Row (wr.alloc (.cells #[.int .i64 0, .int .i64 0] 94)).drew wr.heap.size 94 [.int .i64 0, .int .i64 0] from Row.new wr [.int .i64 0, .int .i64 0] _).of_block (hf.block _ (by simp) RNX.out))
      have HJA := hide (show ∀ w5 vh', RpJ L HM Y w b8 (.slice (some ⟨gl, 0, none⟩) Y.order.length lc) ap.1 vh' an w5 → (∀ k, vh'.ownBlock = some k → vh.ownBlock = some k ∨ wr.heap.size + 1 ≤ k) → Row w5 wr.heap.size 94 [.int .i64 0, .int .i64 0] → RpJ L HM Y w b8 (.slice (some ⟨gl, 0, none⟩) Y.order.length lc) ap.1 vh' an (w5.setCells wr.heap.size 0 [.int .i64 ap.2.s, .int .i64 ap.2.v]) ∧ (w5.setCells wr.heap.size 0 [.int .i64 ap.2.s, .int .i64 ap.2.v]).rangeAt wr.heap.size 0 [.int .i64 ap.2.s, .int .i64 ap.2.v] from fun w5 vh' hJ hv hr => by
        have hz := HJr.out.lt HD.out
        refine ⟨hJ.stay HD.out (fun x hx => ?_) ⟨rfl, rfl, rfl⟩ (by simp [World.setCells, World.setCell]), World.rangeAt_setCells_same _ _ _ _ (hr.there (by simp))⟩
        have hne : x ≠ wr.heap.size := by
          rcases hx with q | q | q | q | q
          · have := hz x (.inl q); omega
          · have := hz x (.inr (.inl q)); omega
          · have := hz x (.inr (.inr (.inl q))); omega
          · rcases hv x q with q | q
            · have := hz x (.inr (.inr (.inr (.inl q)))); omega
            · omega
          · have := hz x (.inr (.inr (.inr (.inr q)))); omega
        simp only [World.setCells]
        rw [Below.heap_setCell _ _ _ x hne, Below.heap_setCell _ _ _ x hne])
      have HJB := hide (show ∀ w5 vh', RpJ L HM Y w b8 (.slice (some ⟨gl, 0, none⟩) Y.order.length lc) ap.1 vh' an w5 → RpJ L HM Y w b8 (.slice (some ⟨gl, 0, none⟩) Y.order.length lc) ap.1 vh' an ((w5.alloc (.cells #[.int .i64 0, .int .i64 0] 94)).setCells w5.heap.size 0 [.int .i64 ap.2.s, .int .i64 ap.2.v]) ∧ ((w5.alloc (.cells #[.int .i64 0, .int .i64 0] 94)).setCells w5.heap.size 0 [.int .i64 ap.2.s, .int .i64 ap.2.v]).rangeAt w5.heap.size 0 [.int .i64 ap.2.s, .int .i64 ap.2.v] from fun w5 vh' hJ =>
        ⟨hJ.later HD.out (below_setCells (Nat.le_refl _) _ _ _ (below_alloc _ _)), World.rangeAt_setCells_same _ _ _ _ ((Row.new w5 [.int .i64 0, .int .i64 0] 94).there (by simp))⟩)
      go_upto_region 7 with fail
      refine rg0 (S := (fun w' => w'.cell? ⟨L.b, 7, none⟩ = some (.slice (some ⟨L.g, 0, none⟩) L.n L.gc) ∧ w'.cell? ⟨gl, u * 3 + 1, none⟩ = some (.int .i64 (k : Int)) ∧ w'.cell? ⟨gl, u * 3 + 2, none⟩ = some (.int .i64 (sq : Int)) ∧ w'.cell? ⟨L.g, k, none⟩ = some (.pointer (some ⟨L.bT k, 0, none⟩)) ∧ w'.cell? ⟨L.bT k, 0, none⟩ = some (.slice (some ⟨go, 0, none⟩) (Y.th k).ops.length oc) ∧ w'.rangeAt go (sq * 3) [.int .i64 op.c, .int .i64 op.a, .int .i64 op.b])) 24 rfl (by kernel_rfl) ?_ (fun hHeld => ?_)
      · exact HS0.out
      iterate 20 (refine tk 23 (by rfl) (by kernel_rfl) (by exact fun _ _ _ h => h) (.inl ⟨by rfl, fun w hS => by (try dsimp only at hS); go_simp; (try with_reducible rfl)⟩) (by assumption) ?_; try go_frame)
      refine wpAnyH_ready (rs := [20, 22]) (by kernel_rfl) (by simp) (rc (by rfl) (fun K hK => ?_) (rc (by rfl) (fun K hK => ?_) AllReadyH.nil))
      · rw [if_pos (by rfl)]
        refine wp_load_mid 36 (.tmp 45) rfl go (sq * 3) rfl [.int .i64 op.c, .int .i64 op.a, .int .i64 op.b] _ ?_ Tryz.underlying36 rfl ?_ ?_
        · exact hHeld.2.2.2.2.2
        · exact hszo
        refine hK.out _ _ ?_ (fun hHeld => ?_)
        · exact hHeld
        clear hK K
        (try go_frame)
        refine wpAnyH_ready (rs := [21, 22]) (by kernel_rfl) (by simp) (rc (by rfl) (fun K hK => ?_) (rc (by rfl) (fun K hK => ?_) AllReadyH.nil))
        · go_simp
          refine (HDo.out _ (by repeat (first | exact Below.refl _ _ | refine Below.drew ?_ | refine Below.alloc ?_ (by first | (simp; done) | (simp; omega)) _))).mono ?_
          rintro e w5 ⟨rfl, vh', hJ5, hv5, hf5⟩
          have HJ5 := hide hJ5
          have HV5 := hide hv5
          clear hJ5 hv5
          go_wp2_with fail
          refine hK.out _ _ ?_ (fun hHeld => ?_)
          · exact keepC6 (K := KR wr b8 vh) hHeld HK.out (fun x hx => hf5.block x (by have := hx.1; first | exact this | (simp; omega) | (have q := hf5.size; simp at q; omega)) (by rintro (c | c); exact hx.2.1 c; exact hx.2.2 c))
          clear hK K
          (try go_frame)
          refine rd1 22 (by rfl) (by kernel_rfl) (fun K hK => ?_)
          go_simp
          refine hK.out _ _ ?_ (fun hHeld => ?_)
          · exact keepC6 (K := KR wr b8 vh) hHeld HK.out (fun x hx => (below_alloc _ _).block x (by have := hx.1; first | exact this | (simp; omega) | (have q := hf5.size; simp at q; omega)))
          clear hK K
          (try go_frame)
          refine rd1 23 (by rfl) (by kernel_rfl) (fun K hK => ?_)
          rw [if_pos (by rfl)]
          refine wp_store_mid _ _ _ rfl _ 0 #[.int .i64 ap.2.s, .int .i64 ap.2.v] rfl rfl ?_ (by kernel_rfl) (by simp [Value.oneCell']) ?_
          · first | exact Row.there (Row.new _ [_, _] _) (by simp) | exact Row.there (RNA.out _ hf5) (by simp)
          refine hK.out _ _ ?_ (fun hHeld => ?_)
          · exact keepC6 (K := KR wr b8 vh) hHeld HK.out (fun x hx => (below_setCells (B := wr.heap.size) (by first | exact Nat.le_refl _ | (have := hf5.size; simp at this; omega)) _ _ _ (Below.refl _ _)).block x hx.1)
          clear hK K
          (try go_frame)
          refine wpAnyH_done (by kernel_rfl) ?_ _
          first
            | have hq9 := HJA.out w5 vh' HJ5.out (fun x hx => (HV5.out x hx).imp_right (fun q => by simp at q; omega)) (RNA.out _ hf5)
              have HJ6 := hide hq9.1
              have hbx := hq9.2
              clear hq9
              generalize (w5.setCells wr.heap.size 0 [.int .i64 ap.2.s, .int .i64 ap.2.v]) = W6 at *
              have hJ6 := HJ6.out
              have n1 : W6.cell? ⟨gl, u * 3 + 1, none⟩ = some (.int .i64 (k : Int)) := by obtain ⟨g', c', e', q'⟩ := owns_get hJ6.ml (markcs_get Y.order u hut).2.1; injection e' with e1 _ _; injection e1 with e1; injection e1 with e1; subst e1; rw [q', HOG.out.1]
              have n2 : W6.cell? ⟨gl, u * 3 + 2, none⟩ = some (.int .i64 (sq : Int)) := by obtain ⟨g', c', e', q'⟩ := owns_get hJ6.ml (markcs_get Y.order u hut).2.2; injection e' with e1 _ _; injection e1 with e1; injection e1 with e1; subst e1; rw [q', HOG.out.2]
              have y0 := hJ6.ar.cell_of (i := 0) rfl
              have y1 := hJ6.ar.cell_of (i := 1) rfl
              have z0 := hJ6.ar.frozen 0
              have z1 := hJ6.ar.frozen 1
              have x0 := hbx 0 _ rfl
              have x1 := hbx 1 _ rfl
              clear hJ6 hbx hHeld
              by_cases hk1 : (k : Int) = tq
              · have hk1' : ((k : Int) == tq) = true := by simp [hk1]
                by_cases hk2 : (sq : Int) = q
                · have hk2' : ((sq : Int) == q) = true := by simp [hk2]
                  have HAN := hide (HN1.out hk1 hk2)
                  clear hk1 hk2
                  go_wp2_with fail
                  go_roundw
                  case rel => exact ⟨u + 1, _, ap.2, by omega, by go_num, by rw [HST.out]; exact RpJ.write HD.out HJ6.out ap.2, by have := HSZ.out; omega, HAN.out⟩
                  case measure => simp [intOf]; omega
                · have hk2' : ((sq : Int) == q) = false := by simp [hk2]
                  have HAN := hide (HN2.out (fun c => hk2 c.2))
                  clear hk1 hk2
                  go_wp2_with fail
                  go_roundw
                  case rel => exact ⟨u + 1, _, an, by omega, by go_num, by rw [HST.out]; exact HJ6.out, by have := HSZ.out; omega, HAN.out⟩
                  case measure => simp [intOf]; omega
              · have hk1' : ((k : Int) == tq) = false := by simp [hk1]
                have HAN := hide (HN2.out (fun c => hk1 c.1))
                clear hk1
                go_wp2_with fail
                go_roundw
                case rel => exact ⟨u + 1, _, an, by omega, by go_num, by rw [HST.out]; exact HJ6.out, by have := HSZ.out; omega, HAN.out⟩
                case measure => simp [intOf]; omega
            | have hq9 := HJB.out w5 vh' HJ5.out
              have HJ6 := hide hq9.1
              have hbx := hq9.2
              clear hq9
              generalize ((w5.alloc (.cells #[.int .i64 0, .int .i64 0] 94)).setCells w5.heap.size 0 [.int .i64 ap.2.s, .int .i64 ap.2.v]) = W6 at *
              have hJ6 := HJ6.out
              have n1 : W6.cell? ⟨gl, u * 3 + 1, none⟩ = some (.int .i64 (k : Int)) := by obtain ⟨g', c', e', q'⟩ := owns_get hJ6.ml (markcs_get Y.order u hut).2.1; injection e' with e1 _ _; injection e1 with e1; injection e1 with e1; subst e1; rw [q', HOG.out.1]
              have n2 : W6.cell? ⟨gl, u * 3 + 2, none⟩ = some (.int .i64 (sq : Int)) := by obtain ⟨g', c', e', q'⟩ := owns_get hJ6.ml (markcs_get Y.order u hut).2.2; injection e' with e1 _ _; injection e1 with e1; injection e1 with e1; subst e1; rw [q', HOG.out.2]
              have y0 := hJ6.ar.cell_of (i := 0) rfl
              have y1 := hJ6.ar.cell_of (i := 1) rfl
              have z0 := hJ6.ar.frozen 0
              have z1 := hJ6.ar.frozen 1
              have x0 := hbx 0 _ rfl
              have x1 := hbx 1 _ rfl
              clear hJ6 hbx hHeld
              by_cases hk1 : (k : Int) = tq
              · have hk1' : ((k : Int) == tq) = true := by simp [hk1]
                by_cases hk2 : (sq : Int) = q
                · have hk2' : ((sq : Int) == q) = true := by simp [hk2]
                  have HAN := hide (HN1.out hk1 hk2)
                  clear hk1 hk2
                  go_wp2_with fail
                  go_roundw
                  case rel => exact ⟨u + 1, _, ap.2, by omega, by go_num, by rw [HST.out]; exact RpJ.write HD.out HJ6.out ap.2, by have := HSZ.out; omega, HAN.out⟩
                  case measure => simp [intOf]; omega
                · have hk2' : ((sq : Int) == q) = false := by simp [hk2]
                  have HAN := hide (HN2.out (fun c => hk2 c.2))
                  clear hk1 hk2
                  go_wp2_with fail
                  go_roundw
                  case rel => exact ⟨u + 1, _, an, by omega, by go_num, by rw [HST.out]; exact HJ6.out, by have := HSZ.out; omega, HAN.out⟩
                  case measure => simp [intOf]; omega
              · have hk1' : ((k : Int) == tq) = false := by simp [hk1]
                have HAN := hide (HN2.out (fun c => hk1 c.1))
                clear hk1
                go_wp2_with fail
                go_roundw
                case rel => exact ⟨u + 1, _, an, by omega, by go_num, by rw [HST.out]; exact HJ6.out, by have := HSZ.out; omega, HAN.out⟩
                case measure => simp [intOf]; omega
        · go_simp
          refine hK.out _ _ ?_ (fun hHeld => ?_)
          · exact keepC6 (K := KR wr b8 vh) hHeld HK.out (fun x hx => (below_alloc _ _).block x (by have := hx.1; first | exact this | (simp; omega) | (have q := hf5.size; simp at q; omega)))
          clear hK K
          (try go_frame)
          refine rd1 21 (by rfl) (by kernel_rfl) (fun K hK => ?_)
          go_simp
          refine (HDo.out _ (by repeat (first | exact Below.refl _ _ | refine Below.drew ?_ | refine Below.alloc ?_ (by first | (simp; done) | (simp; omega)) _))).mono ?_
          rintro e w5 ⟨rfl, vh', hJ5, hv5, hf5⟩
          have HJ5 := hide hJ5
          have HV5 := hide hv5
          clear hJ5 hv5
          go_wp2_with fail
          refine hK.out _ _ ?_ (fun hHeld => ?_)
          · exact keepC6 (K := KR wr b8 vh) hHeld HK.out (fun x hx => hf5.block x (by have := hx.1; first | exact this | (simp; omega) | (have q := hf5.size; simp at q; omega)) (by rintro (c | c); exact hx.2.1 c; exact hx.2.2 c))
          clear hK K
          (try go_frame)
          refine rd1 23 (by rfl) (by kernel_rfl) (fun K hK => ?_)
          rw [if_pos (by rfl)]
          refine wp_store_mid _ _ _ rfl _ 0 #[.int .i64 ap.2.s, .int .i64 ap.2.v] rfl rfl ?_ (by kernel_rfl) (by simp [Value.oneCell']) ?_
          · first | exact Row.there (Row.new _ [_, _] _) (by simp) | exact Row.there (RNA.out _ hf5) (by simp)
          refine hK.out _ _ ?_ (fun hHeld => ?_)
          · exact keepC6 (K := KR wr b8 vh) hHeld HK.out (fun x hx => (below_setCells (B := wr.heap.size) (by first | exact Nat.le_refl _ | (have := hf5.size; simp at this; omega)) _ _ _ (Below.refl _ _)).block x hx.1)
          clear hK K
          (try go_frame)
          refine wpAnyH_done (by kernel_rfl) ?_ _
          first
            | have hq9 := HJA.out w5 vh' HJ5.out (fun x hx => (HV5.out x hx).imp_right (fun q => by simp at q; omega)) (RNA.out _ hf5)
              have HJ6 := hide hq9.1
              have hbx := hq9.2
              clear hq9
              generalize (w5.setCells wr.heap.size 0 [.int .i64 ap.2.s, .int .i64 ap.2.v]) = W6 at *
              have hJ6 := HJ6.out
              have n1 : W6.cell? ⟨gl, u * 3 + 1, none⟩ = some (.int .i64 (k : Int)) := by obtain ⟨g', c', e', q'⟩ := owns_get hJ6.ml (markcs_get Y.order u hut).2.1; injection e' with e1 _ _; injection e1 with e1; injection e1 with e1; subst e1; rw [q', HOG.out.1]
              have n2 : W6.cell? ⟨gl, u * 3 + 2, none⟩ = some (.int .i64 (sq : Int)) := by obtain ⟨g', c', e', q'⟩ := owns_get hJ6.ml (markcs_get Y.order u hut).2.2; injection e' with e1 _ _; injection e1 with e1; injection e1 with e1; subst e1; rw [q', HOG.out.2]
              have y0 := hJ6.ar.cell_of (i := 0) rfl
              have y1 := hJ6.ar.cell_of (i := 1) rfl
              have z0 := hJ6.ar.frozen 0
              have z1 := hJ6.ar.frozen 1
              have x0 := hbx 0 _ rfl
              have x1 := hbx 1 _ rfl
              clear hJ6 hbx hHeld
              by_cases hk1 : (k : Int) = tq
              · have hk1' : ((k : Int) == tq) = true := by simp [hk1]
                by_cases hk2 : (sq : Int) = q
                · have hk2' : ((sq : Int) == q) = true := by simp [hk2]
                  have HAN := hide (HN1.out hk1 hk2)
                  clear hk1 hk2
                  go_wp2_with fail
                  go_roundw
                  case rel => exact ⟨u + 1, _, ap.2, by omega, by go_num, by rw [HST.out]; exact RpJ.write HD.out HJ6.out ap.2, by have := HSZ.out; omega, HAN.out⟩
                  case measure => simp [intOf]; omega
                · have hk2' : ((sq : Int) == q) = false := by simp [hk2]
                  have HAN := hide (HN2.out (fun c => hk2 c.2))
                  clear hk1 hk2
                  go_wp2_with fail
                  go_roundw
                  case rel => exact ⟨u + 1, _, an, by omega, by go_num, by rw [HST.out]; exact HJ6.out, by have := HSZ.out; omega, HAN.out⟩
                  case measure => simp [intOf]; omega
              · have hk1' : ((k : Int) == tq) = false := by simp [hk1]
                have HAN := hide (HN2.out (fun c => hk1 c.1))
                clear hk1
                go_wp2_with fail
                go_roundw
                case rel => exact ⟨u + 1, _, an, by omega, by go_num, by rw [HST.out]; exact HJ6.out, by have := HSZ.out; omega, HAN.out⟩
                case measure => simp [intOf]; omega
            | have hq9 := HJB.out w5 vh' HJ5.out
              have HJ6 := hide hq9.1
              have hbx := hq9.2
              clear hq9
              generalize ((w5.alloc (.cells #[.int .i64 0, .int .i64 0] 94)).setCells w5.heap.size 0 [.int .i64 ap.2.s, .int .i64 ap.2.v]) = W6 at *
              have hJ6 := HJ6.out
              have n1 : W6.cell? ⟨gl, u * 3 + 1, none⟩ = some (.int .i64 (k : Int)) := by obtain ⟨g', c', e', q'⟩ := owns_get hJ6.ml (markcs_get Y.order u hut).2.1; injection e' with e1 _ _; injection e1 with e1; injection e1 with e1; subst e1; rw [q', HOG.out.1]
              have n2 : W6.cell? ⟨gl, u * 3 + 2, none⟩ = some (.int .i64 (sq : Int)) := by obtain ⟨g', c', e', q'⟩ := owns_get hJ6.ml (markcs_get Y.order u hut).2.2; injection e' with e1 _ _; injection e1 with e1; injection e1 with e1; subst e1; rw [q', HOG.out.2]
              have y0 := hJ6.ar.cell_of (i := 0) rfl
              have y1 := hJ6.ar.cell_of (i := 1) rfl
              have z0 := hJ6.ar.frozen 0
              have z1 := hJ6.ar.frozen 1
              have x0 := hbx 0 _ rfl
              have x1 := hbx 1 _ rfl
              clear hJ6 hbx hHeld
              by_cases hk1 : (k : Int) = tq
              · have hk1' : ((k : Int) == tq) = true := by simp [hk1]
                by_cases hk2 : (sq : Int) = q
                · have hk2' : ((sq : Int) == q) = true := by simp [hk2]
                  have HAN := hide (HN1.out hk1 hk2)
                  clear hk1 hk2
                  go_wp2_with fail
                  go_roundw
                  case rel => exact ⟨u + 1, _, ap.2, by omega, by go_num, by rw [HST.out]; exact RpJ.write HD.out HJ6.out ap.2, by have := HSZ.out; omega, HAN.out⟩
                  case measure => simp [intOf]; omega
                · have hk2' : ((sq : Int) == q) = false := by simp [hk2]
                  have HAN := hide (HN2.out (fun c => hk2 c.2))
                  clear hk1 hk2
                  go_wp2_with fail
                  go_roundw
                  case rel => exact ⟨u + 1, _, an, by omega, by go_num, by rw [HST.out]; exact HJ6.out, by have := HSZ.out; omega, HAN.out⟩
                  case measure => simp [intOf]; omega
              · have hk1' : ((k : Int) == tq) = false := by simp [hk1]
                have HAN := hide (HN2.out (fun c => hk1 c.1))
                clear hk1
                go_wp2_with fail
                go_roundw
                case rel => exact ⟨u + 1, _, an, by omega, by go_num, by rw [HST.out]; exact HJ6.out, by have := HSZ.out; omega, HAN.out⟩
                case measure => simp [intOf]; omega
      · go_simp
        refine hK.out _ _ ?_ (fun hHeld => ?_)
        · exact keepC6 (K := KR wr b8 vh) hHeld HK.out (fun x hx => (below_alloc _ _).block x (by have := hx.1; first | exact this | (simp; omega) | (have q := hf5.size; simp at q; omega)))
        clear hK K
        (try go_frame)
        refine rd1 20 (by rfl) (by kernel_rfl) (fun K hK => ?_)
        rw [if_pos (by rfl)]
        refine wp_load_mid 36 (.tmp 45) rfl go (sq * 3) rfl [.int .i64 op.c, .int .i64 op.a, .int .i64 op.b] _ ?_ Tryz.underlying36 rfl ?_ ?_
        · exact hHeld.2.2.2.2.2
        · exact hszo
        refine hK.out _ _ ?_ (fun hHeld => ?_)
        · exact hHeld
        clear hK K
        (try go_frame)
        refine rd1 21 (by rfl) (by kernel_rfl) (fun K hK => ?_)
        go_simp
        refine (HDo.out _ (by repeat (first | exact Below.refl _ _ | refine Below.drew ?_ | refine Below.alloc ?_ (by first | (simp; done) | (simp; omega)) _))).mono ?_
        rintro e w5 ⟨rfl, vh', hJ5, hv5, hf5⟩
        have HJ5 := hide hJ5
        have HV5 := hide hv5
        clear hJ5 hv5
        go_wp2_with fail
        refine hK.out _ _ ?_ (fun hHeld => ?_)
        · exact keepC6 (K := KR wr b8 vh) hHeld HK.out (fun x hx => hf5.block x (by have := hx.1; first | exact this | (simp; omega) | (have q := hf5.size; simp at q; omega)) (by rintro (c | c); exact hx.2.1 c; exact hx.2.2 c))
        clear hK K
        (try go_frame)
        refine rd1 23 (by rfl) (by kernel_rfl) (fun K hK => ?_)
        rw [if_pos (by rfl)]
        refine wp_store_mid _ _ _ rfl _ 0 #[.int .i64 ap.2.s, .int .i64 ap.2.v] rfl rfl ?_ (by kernel_rfl) (by simp [Value.oneCell']) ?_
        · first | exact Row.there (Row.new _ [_, _] _) (by simp) | exact Row.there (RNA.out _ hf5) (by simp)
        refine hK.out _ _ ?_ (fun hHeld => ?_)
        · exact keepC6 (K := KR wr b8 vh) hHeld HK.out (fun x hx => (below_setCells (B := wr.heap.size) (by first | exact Nat.le_refl _ | (have := hf5.size; simp at this; omega)) _ _ _ (Below.refl _ _)).block x hx.1)
        clear hK K
        (try go_frame)
        refine wpAnyH_done (by kernel_rfl) ?_ _
        first
          | have hq9 := HJA.out w5 vh' HJ5.out (fun x hx => (HV5.out x hx).imp_right (fun q => by simp at q; omega)) (RNA.out _ hf5)
            have HJ6 := hide hq9.1
            have hbx := hq9.2
            clear hq9
            generalize (w5.setCells wr.heap.size 0 [.int .i64 ap.2.s, .int .i64 ap.2.v]) = W6 at *
            have hJ6 := HJ6.out
            have n1 : W6.cell? ⟨gl, u * 3 + 1, none⟩ = some (.int .i64 (k : Int)) := by obtain ⟨g', c', e', q'⟩ := owns_get hJ6.ml (markcs_get Y.order u hut).2.1; injection e' with e1 _ _; injection e1 with e1; injection e1 with e1; subst e1; rw [q', HOG.out.1]
            have n2 : W6.cell? ⟨gl, u * 3 + 2, none⟩ = some (.int .i64 (sq : Int)) := by obtain ⟨g', c', e', q'⟩ := owns_get hJ6.ml (markcs_get Y.order u hut).2.2; injection e' with e1 _ _; injection e1 with e1; injection e1 with e1; subst e1; rw [q', HOG.out.2]
            have y0 := hJ6.ar.cell_of (i := 0) rfl
            have y1 := hJ6.ar.cell_of (i := 1) rfl
            have z0 := hJ6.ar.frozen 0
            have z1 := hJ6.ar.frozen 1
            have x0 := hbx 0 _ rfl
            have x1 := hbx 1 _ rfl
            clear hJ6 hbx hHeld
            by_cases hk1 : (k : Int) = tq
            · have hk1' : ((k : Int) == tq) = true := by simp [hk1]
              by_cases hk2 : (sq : Int) = q
              · have hk2' : ((sq : Int) == q) = true := by simp [hk2]
                have HAN := hide (HN1.out hk1 hk2)
                clear hk1 hk2
                go_wp2_with fail
                go_roundw
                case rel => exact ⟨u + 1, _, ap.2, by omega, by go_num, by rw [HST.out]; exact RpJ.write HD.out HJ6.out ap.2, by have := HSZ.out; omega, HAN.out⟩
                case measure => simp [intOf]; omega
              · have hk2' : ((sq : Int) == q) = false := by simp [hk2]
                have HAN := hide (HN2.out (fun c => hk2 c.2))
                clear hk1 hk2
                go_wp2_with fail
                go_roundw
                case rel => exact ⟨u + 1, _, an, by omega, by go_num, by rw [HST.out]; exact HJ6.out, by have := HSZ.out; omega, HAN.out⟩
                case measure => simp [intOf]; omega
            · have hk1' : ((k : Int) == tq) = false := by simp [hk1]
              have HAN := hide (HN2.out (fun c => hk1 c.1))
              clear hk1
              go_wp2_with fail
              go_roundw
              case rel => exact ⟨u + 1, _, an, by omega, by go_num, by rw [HST.out]; exact HJ6.out, by have := HSZ.out; omega, HAN.out⟩
              case measure => simp [intOf]; omega
          | have hq9 := HJB.out w5 vh' HJ5.out
            have HJ6 := hide hq9.1
            have hbx := hq9.2
            clear hq9
            generalize ((w5.alloc (.cells #[.int .i64 0, .int .i64 0] 94)).setCells w5.heap.size 0 [.int .i64 ap.2.s, .int .i64 ap.2.v]) = W6 at *
            have hJ6 := HJ6.out
            have n1 : W6.cell? ⟨gl, u * 3 + 1, none⟩ = some (.int .i64 (k : Int)) := by obtain ⟨g', c', e', q'⟩ := owns_get hJ6.ml (markcs_get Y.order u hut).2.1; injection e' with e1 _ _; injection e1 with e1; injection e1 with e1; subst e1; rw [q', HOG.out.1]
            have n2 : W6.cell? ⟨gl, u * 3 + 2, none⟩ = some (.int .i64 (sq : Int)) := by obtain ⟨g', c', e', q'⟩ := owns_get hJ6.ml (markcs_get Y.order u hut).2.2; injection e' with e1 _ _; injection e1 with e1; injection e1 with e1; subst e1; rw [q', HOG.out.2]
            have y0 := hJ6.ar.cell_of (i := 0) rfl
            have y1 := hJ6.ar.cell_of (i := 1) rfl
            have z0 := hJ6.ar.frozen 0
            have z1 := hJ6.ar.frozen 1
            have x0 := hbx 0 _ rfl
            have x1 := hbx 1 _ rfl
            clear hJ6 hbx hHeld
            by_cases hk1 : (k : Int) = tq
            · have hk1' : ((k : Int) == tq) = true := by simp [hk1]
              by_cases hk2 : (sq : Int) = q
              · have hk2' : ((sq : Int) == q) = true := by simp [hk2]
                have HAN := hide (HN1.out hk1 hk2)
                clear hk1 hk2
                go_wp2_with fail
                go_roundw
                case rel => exact ⟨u + 1, _, ap.2, by omega, by go_num, by rw [HST.out]; exact RpJ.write HD.out HJ6.out ap.2, by have := HSZ.out; omega, HAN.out⟩
                case measure => simp [intOf]; omega
              · have hk2' : ((sq : Int) == q) = false := by simp [hk2]
                have HAN := hide (HN2.out (fun c => hk2 c.2))
                clear hk1 hk2
                go_wp2_with fail
                go_roundw
                case rel => exact ⟨u + 1, _, an, by omega, by go_num, by rw [HST.out]; exact HJ6.out, by have := HSZ.out; omega, HAN.out⟩
                case measure => simp [intOf]; omega
            · have hk1' : ((k : Int) == tq) = false := by simp [hk1]
              have HAN := hide (HN2.out (fun c => hk1 c.1))
              clear hk1
              go_wp2_with fail
              go_roundw
              case rel => exact ⟨u + 1, _, an, by omega, by go_num, by rw [HST.out]; exact HJ6.out, by have := HSZ.out; omega, HAN.out⟩
              case measure => simp [intOf]; omega
    · have hut' : ¬ (u : Int) < (Y.order.length : Int) := by omega
      have HUE := hide (show u = Y.order.length by omega)
      obtain ⟨va, vl9, vc, rfl⟩ := HD.out.form _ _ _ hJ.hm
      have e9 : plc L (.slice va vl9 vc) = [.int .i64 L.kind, .int .i64 L.st, .int .i64 L.co, .slice a1 l1 c1, .slice a2 l2 c2, .slice va vl9 vc] := by unfold plc; rw [hvn, hvo]
      have HE9 := hide e9
      have hb8w := hJ.b8w
      have rP : wr.rangeAt b8 0 [.int .i64 L.kind, .int .i64 L.st, .int .i64 L.co, .slice a1 l1 c1, .slice a2 l2 c2, .slice va vl9 vc] := fun j v hv => by rw [Nat.zero_add]; exact hJ.pl.cell_of (by rw [e9]; exact hv)
      have rA : wr.rangeAt (b8 + 1) 0 [.int .i64 an.s, .int .i64 an.v] := fun j v hv => by rw [Nat.zero_add]; exact hJ.ar.cell_of hv
      have n0 : wr.there w.heap.size 0 6 := hJ.r6.there (by simp)
      have n1 : wr.there (w.heap.size + 1) 0 2 := hJ.r7.there (by simp)
      have hi1 : (Tryz.prog.info? 159).map (·.size) = some 6 := by kernel_rfl
      have hi2 : (Tryz.prog.info? 94).map (·.size) = some 2 := by kernel_rfl
      clear hJ hAn hB c7 e9 hsz
      go_upto_region 10 with fail
      refine rg0 (S := (fun w' => w'.rangeAt b8 0 [.int .i64 L.kind, .int .i64 L.st, .int .i64 L.co, .slice a1 l1 c1, .slice a2 l2 c2, .slice va vl9 vc] ∧ w'.rangeAt (b8 + 1) 0 [.int .i64 an.s, .int .i64 an.v] ∧ w'.there w.heap.size 0 6 ∧ w'.there (w.heap.size + 1) 0 2)) 4 rfl (by kernel_rfl) ?_ (fun hHeld => ?_)
      · exact ⟨rP, rA, n0, n1⟩
      refine wpAnyH_ready (rs := [0, 1]) (by kernel_rfl) (by simp) (rc (by rfl) (fun K hK => ?_) (rc (by rfl) (fun K hK => ?_) AllReadyH.nil))
      · rw [if_pos (by rfl)]
        refine wp_load_mid 159 (.tmp 8) rfl b8 0 rfl [.int .i64 L.kind, .int .i64 L.st, .int .i64 L.co, .slice a1 l1 c1, .slice a2 l2 c2, .slice va vl9 vc] _ ?_ Tryz.underlying159 rfl ?_ ?_
        · exact hHeld.1
        · exact hi1
        refine hK.out _ _ ?_ (fun hHeld => ?_)
        · exact hHeld
        clear hK K
        (try go_frame)
        refine wpAnyH_ready (rs := [1, 2]) (by kernel_rfl) (by simp) (rc (by rfl) (fun K hK => ?_) (rc (by rfl) (fun K hK => ?_) AllReadyH.nil))
        · (try (have e1' := e1; clear e1'; generalize hWs : World.setCells wr.drew w.heap.size 0 [.int .i64 L.kind, .int .i64 L.st, .int .i64 L.co, .slice a1 l1 c1, .slice a2 l2 c2, .slice va vl9 vc] = W4 at hHeld e1 ⊢; have HWS := hide hWs; clear hWs))
          rw [if_pos (by rfl)]
          refine wp_load_mid 94 (.tmp 9) rfl (b8 + 1) 0 rfl [.int .i64 an.s, .int .i64 an.v] _ ?_ Tryz.underlying94 rfl ?_ ?_
          · exact hHeld.2.1
          · exact hi2
          refine hK.out _ _ ?_ (fun hHeld => ?_)
          · exact hHeld
          clear hK K
          (try go_frame)
          refine rd1 2 (by rfl) (by kernel_rfl) (fun K hK => ?_)
          rw [if_pos (by rfl)]
          have e1 := World.rangeAt_setCells_same _ w.heap.size 0 [.int .i64 L.kind, .int .i64 L.st, .int .i64 L.co, .slice a1 l1 c1, .slice a2 l2 c2, .slice va vl9 vc] hHeld.2.2.1
          refine wp_store_mid 159 (.tmp 6) (.tmp 65) rfl w.heap.size 0 (List.toArray [.int .i64 L.kind, .int .i64 L.st, .int .i64 L.co, .slice a1 l1 c1, .slice a2 l2 c2, .slice va vl9 vc]) rfl rfl ?_ ?_ ?_ ?_
          · exact hHeld.2.2.1
          · exact hi1
          · exact all_oneCell_toArray (by simp [Value.oneCell'])
          refine hK.out _ _ ?_ (fun hHeld => ?_)
          · exact ⟨World.rangeAt_setCells_apart hHeld.1 _ _ _ (.inl (by omega)), World.rangeAt_setCells_apart hHeld.2.1 _ _ _ (.inl (by omega)), World.there_setCells hHeld.2.2.1 _ _ _, World.there_setCells hHeld.2.2.2 _ _ _⟩
          clear hK K
          (try go_frame)
          refine rd1 3 (by rfl) (by kernel_rfl) (fun K hK => ?_)
          first | (have h9 := HWS; clear h9) | (generalize hWs : World.setCells wr.drew w.heap.size 0 [.int .i64 L.kind, .int .i64 L.st, .int .i64 L.co, .slice a1 l1 c1, .slice a2 l2 c2, .slice va vl9 vc] = W4 at hHeld e1 ⊢; have HWS := hide hWs; clear hWs)
          rw [if_pos (by rfl)]
          have e2 := World.rangeAt_setCells_same W4 (w.heap.size + 1) 0 [.int .i64 an.s, .int .i64 an.v] hHeld.2.2.2
          refine wp_store_mid 94 (.tmp 7) (.tmp 66) rfl (w.heap.size + 1) 0 (List.toArray [.int .i64 an.s, .int .i64 an.v]) rfl rfl ?_ ?_ ?_ ?_
          · exact hHeld.2.2.2
          · exact hi2
          · exact all_oneCell_toArray (by simp [Value.oneCell'])
          refine hK.out _ _ ?_ (fun hHeld => ?_)
          · exact ⟨World.rangeAt_setCells_apart hHeld.1 _ _ _ (.inl (by omega)), World.rangeAt_setCells_apart hHeld.2.1 _ _ _ (.inl (by omega)), World.there_setCells hHeld.2.2.1 _ _ _, World.there_setCells hHeld.2.2.2 _ _ _⟩
          clear hK K
          (try go_frame)
          refine wpAnyH_done (by kernel_rfl) ?_ _
          generalize hWt : World.setCells W4 (w.heap.size + 1) 0 [.int .i64 an.s, .int .i64 an.v] = W5 at hHeld e2 ⊢
          have e1' : W5.rangeAt w.heap.size 0 [.int .i64 L.kind, .int .i64 L.st, .int .i64 L.co, .slice a1 l1 c1, .slice a2 l2 c2, .slice va vl9 vc] := by rw [← hWt]; exact World.rangeAt_setCells_apart e1 _ _ _ (.inl (by omega))
          have HWT := hide hWt
          clear hWt
          (try go_wp2_with fail)
          have hold : ∀ x, w.heap.size + 2 ≤ x → W5.heap[x]? = wr.heap[x]? := fun x hx => by
            rw [← HWT.out, ← HWS.out]
            simp only [World.setCells]
            rw [Below.heap_setCell _ _ _ x (by simp; omega), Below.heap_setCell _ _ _ x (by simp; omega), Below.heap_setCell _ _ _ x (by simp; omega), Below.heap_setCell _ _ _ x (by simp; omega), Below.heap_setCell _ _ _ x (by simp; omega), Below.heap_setCell _ _ _ x (by simp; omega), Below.heap_setCell _ _ _ x (by simp; omega), Below.heap_setCell _ _ _ x (by simp; omega)]
            rfl
          refine bodyPost_ret (v := .tuple #[.agg (List.toArray [.int .i64 L.kind, .int .i64 L.st, .int .i64 L.co, .slice a1 l1 c1, .slice a2 l2 c2, .slice va vl9 vc]), .agg (List.toArray [.int .i64 an.s, .int .i64 an.v])]) (results_agg2 rfl rfl rfl e1' e2 Tryz.underlying159 rfl hi1 Tryz.underlying94 rfl hi2) rfl ⟨.slice va vl9 vc, an, ?_, ?_, ?_, ?_, ?_⟩
          · rw [HE9.out]
          · rw [← HUE.out]
            exact HD.out.stay _ _ _ _ HJr.out.hm fun x hx => hold x (HJr.out.vhb x hx).1
          · exact fun x hx => by have := (HJr.out.vhb x hx).1; omega
          · rw [← HWT.out, ← HWS.out]
            exact below_setCells (by omega) _ _ _ (below_setCells (by omega) _ _ _ (Below.drew HJr.out.below))
          · rw [← HUE.out]; exact HAn.out
        · rw [if_pos (by rfl)]
          have e1 := World.rangeAt_setCells_same _ w.heap.size 0 [.int .i64 L.kind, .int .i64 L.st, .int .i64 L.co, .slice a1 l1 c1, .slice a2 l2 c2, .slice va vl9 vc] hHeld.2.2.1
          refine wp_store_mid 159 (.tmp 6) (.tmp 65) rfl w.heap.size 0 (List.toArray [.int .i64 L.kind, .int .i64 L.st, .int .i64 L.co, .slice a1 l1 c1, .slice a2 l2 c2, .slice va vl9 vc]) rfl rfl ?_ ?_ ?_ ?_
          · exact hHeld.2.2.1
          · exact hi1
          · exact all_oneCell_toArray (by simp [Value.oneCell'])
          refine hK.out _ _ ?_ (fun hHeld => ?_)
          · exact ⟨World.rangeAt_setCells_apart hHeld.1 _ _ _ (.inl (by omega)), World.rangeAt_setCells_apart hHeld.2.1 _ _ _ (.inl (by omega)), World.there_setCells hHeld.2.2.1 _ _ _, World.there_setCells hHeld.2.2.2 _ _ _⟩
          clear hK K
          (try go_frame)
          refine rd1 1 (by rfl) (by kernel_rfl) (fun K hK => ?_)
          (try (have e1' := e1; clear e1'; generalize hWs : World.setCells wr.drew w.heap.size 0 [.int .i64 L.kind, .int .i64 L.st, .int .i64 L.co, .slice a1 l1 c1, .slice a2 l2 c2, .slice va vl9 vc] = W4 at hHeld e1 ⊢; have HWS := hide hWs; clear hWs))
          rw [if_pos (by rfl)]
          refine wp_load_mid 94 (.tmp 9) rfl (b8 + 1) 0 rfl [.int .i64 an.s, .int .i64 an.v] _ ?_ Tryz.underlying94 rfl ?_ ?_
          · exact hHeld.2.1
          · exact hi2
          refine hK.out _ _ ?_ (fun hHeld => ?_)
          · exact hHeld
          clear hK K
          (try go_frame)
          refine rd1 3 (by rfl) (by kernel_rfl) (fun K hK => ?_)
          first | (have h9 := HWS; clear h9) | (generalize hWs : World.setCells wr.drew w.heap.size 0 [.int .i64 L.kind, .int .i64 L.st, .int .i64 L.co, .slice a1 l1 c1, .slice a2 l2 c2, .slice va vl9 vc] = W4 at hHeld e1 ⊢; have HWS := hide hWs; clear hWs)
          rw [if_pos (by rfl)]
          have e2 := World.rangeAt_setCells_same W4 (w.heap.size + 1) 0 [.int .i64 an.s, .int .i64 an.v] hHeld.2.2.2
          refine wp_store_mid 94 (.tmp 7) (.tmp 66) rfl (w.heap.size + 1) 0 (List.toArray [.int .i64 an.s, .int .i64 an.v]) rfl rfl ?_ ?_ ?_ ?_
          · exact hHeld.2.2.2
          · exact hi2
          · exact all_oneCell_toArray (by simp [Value.oneCell'])
          refine hK.out _ _ ?_ (fun hHeld => ?_)
          · exact ⟨World.rangeAt_setCells_apart hHeld.1 _ _ _ (.inl (by omega)), World.rangeAt_setCells_apart hHeld.2.1 _ _ _ (.inl (by omega)), World.there_setCells hHeld.2.2.1 _ _ _, World.there_setCells hHeld.2.2.2 _ _ _⟩
          clear hK K
          (try go_frame)
          refine wpAnyH_done (by kernel_rfl) ?_ _
          generalize hWt : World.setCells W4 (w.heap.size + 1) 0 [.int .i64 an.s, .int .i64 an.v] = W5 at hHeld e2 ⊢
          have e1' : W5.rangeAt w.heap.size 0 [.int .i64 L.kind, .int .i64 L.st, .int .i64 L.co, .slice a1 l1 c1, .slice a2 l2 c2, .slice va vl9 vc] := by rw [← hWt]; exact World.rangeAt_setCells_apart e1 _ _ _ (.inl (by omega))
          have HWT := hide hWt
          clear hWt
          (try go_wp2_with fail)
          have hold : ∀ x, w.heap.size + 2 ≤ x → W5.heap[x]? = wr.heap[x]? := fun x hx => by
            rw [← HWT.out, ← HWS.out]
            simp only [World.setCells]
            rw [Below.heap_setCell _ _ _ x (by simp; omega), Below.heap_setCell _ _ _ x (by simp; omega), Below.heap_setCell _ _ _ x (by simp; omega), Below.heap_setCell _ _ _ x (by simp; omega), Below.heap_setCell _ _ _ x (by simp; omega), Below.heap_setCell _ _ _ x (by simp; omega), Below.heap_setCell _ _ _ x (by simp; omega), Below.heap_setCell _ _ _ x (by simp; omega)]
            rfl
          refine bodyPost_ret (v := .tuple #[.agg (List.toArray [.int .i64 L.kind, .int .i64 L.st, .int .i64 L.co, .slice a1 l1 c1, .slice a2 l2 c2, .slice va vl9 vc]), .agg (List.toArray [.int .i64 an.s, .int .i64 an.v])]) (results_agg2 rfl rfl rfl e1' e2 Tryz.underlying159 rfl hi1 Tryz.underlying94 rfl hi2) rfl ⟨.slice va vl9 vc, an, ?_, ?_, ?_, ?_, ?_⟩
          · rw [HE9.out]
          · rw [← HUE.out]
            exact HD.out.stay _ _ _ _ HJr.out.hm fun x hx => hold x (HJr.out.vhb x hx).1
          · exact fun x hx => by have := (HJr.out.vhb x hx).1; omega
          · rw [← HWT.out, ← HWS.out]
            exact below_setCells (by omega) _ _ _ (below_setCells (by omega) _ _ _ (Below.drew HJr.out.below))
          · rw [← HUE.out]; exact HAn.out
      · (try (have e1' := e1; clear e1'; generalize hWs : World.setCells wr.drew w.heap.size 0 [.int .i64 L.kind, .int .i64 L.st, .int .i64 L.co, .slice a1 l1 c1, .slice a2 l2 c2, .slice va vl9 vc] = W4 at hHeld e1 ⊢; have HWS := hide hWs; clear hWs))
        rw [if_pos (by rfl)]
        refine wp_load_mid 94 (.tmp 9) rfl (b8 + 1) 0 rfl [.int .i64 an.s, .int .i64 an.v] _ ?_ Tryz.underlying94 rfl ?_ ?_
        · exact hHeld.2.1
        · exact hi2
        refine hK.out _ _ ?_ (fun hHeld => ?_)
        · exact hHeld
        clear hK K
        (try go_frame)
        refine rd1 0 (by rfl) (by kernel_rfl) (fun K hK => ?_)
        rw [if_pos (by rfl)]
        refine wp_load_mid 159 (.tmp 8) rfl b8 0 rfl [.int .i64 L.kind, .int .i64 L.st, .int .i64 L.co, .slice a1 l1 c1, .slice a2 l2 c2, .slice va vl9 vc] _ ?_ Tryz.underlying159 rfl ?_ ?_
        · exact hHeld.1
        · exact hi1
        refine hK.out _ _ ?_ (fun hHeld => ?_)
        · exact hHeld
        clear hK K
        (try go_frame)
        refine rd1 2 (by rfl) (by kernel_rfl) (fun K hK => ?_)
        rw [if_pos (by rfl)]
        have e1 := World.rangeAt_setCells_same _ w.heap.size 0 [.int .i64 L.kind, .int .i64 L.st, .int .i64 L.co, .slice a1 l1 c1, .slice a2 l2 c2, .slice va vl9 vc] hHeld.2.2.1
        refine wp_store_mid 159 (.tmp 6) (.tmp 65) rfl w.heap.size 0 (List.toArray [.int .i64 L.kind, .int .i64 L.st, .int .i64 L.co, .slice a1 l1 c1, .slice a2 l2 c2, .slice va vl9 vc]) rfl rfl ?_ ?_ ?_ ?_
        · exact hHeld.2.2.1
        · exact hi1
        · exact all_oneCell_toArray (by simp [Value.oneCell'])
        refine hK.out _ _ ?_ (fun hHeld => ?_)
        · exact ⟨World.rangeAt_setCells_apart hHeld.1 _ _ _ (.inl (by omega)), World.rangeAt_setCells_apart hHeld.2.1 _ _ _ (.inl (by omega)), World.there_setCells hHeld.2.2.1 _ _ _, World.there_setCells hHeld.2.2.2 _ _ _⟩
        clear hK K
        (try go_frame)
        refine rd1 3 (by rfl) (by kernel_rfl) (fun K hK => ?_)
        first | (have h9 := HWS; clear h9) | (generalize hWs : World.setCells wr.drew w.heap.size 0 [.int .i64 L.kind, .int .i64 L.st, .int .i64 L.co, .slice a1 l1 c1, .slice a2 l2 c2, .slice va vl9 vc] = W4 at hHeld e1 ⊢; have HWS := hide hWs; clear hWs)
        rw [if_pos (by rfl)]
        have e2 := World.rangeAt_setCells_same W4 (w.heap.size + 1) 0 [.int .i64 an.s, .int .i64 an.v] hHeld.2.2.2
        refine wp_store_mid 94 (.tmp 7) (.tmp 66) rfl (w.heap.size + 1) 0 (List.toArray [.int .i64 an.s, .int .i64 an.v]) rfl rfl ?_ ?_ ?_ ?_
        · exact hHeld.2.2.2
        · exact hi2
        · exact all_oneCell_toArray (by simp [Value.oneCell'])
        refine hK.out _ _ ?_ (fun hHeld => ?_)
        · exact ⟨World.rangeAt_setCells_apart hHeld.1 _ _ _ (.inl (by omega)), World.rangeAt_setCells_apart hHeld.2.1 _ _ _ (.inl (by omega)), World.there_setCells hHeld.2.2.1 _ _ _, World.there_setCells hHeld.2.2.2 _ _ _⟩
        clear hK K
        (try go_frame)
        refine wpAnyH_done (by kernel_rfl) ?_ _
        generalize hWt : World.setCells W4 (w.heap.size + 1) 0 [.int .i64 an.s, .int .i64 an.v] = W5 at hHeld e2 ⊢
        have e1' : W5.rangeAt w.heap.size 0 [.int .i64 L.kind, .int .i64 L.st, .int .i64 L.co, .slice a1 l1 c1, .slice a2 l2 c2, .slice va vl9 vc] := by rw [← hWt]; exact World.rangeAt_setCells_apart e1 _ _ _ (.inl (by omega))
        have HWT := hide hWt
        clear hWt
        (try go_wp2_with fail)
        have hold : ∀ x, w.heap.size + 2 ≤ x → W5.heap[x]? = wr.heap[x]? := fun x hx => by
          rw [← HWT.out, ← HWS.out]
          simp only [World.setCells]
          rw [Below.heap_setCell _ _ _ x (by simp; omega), Below.heap_setCell _ _ _ x (by simp; omega), Below.heap_setCell _ _ _ x (by simp; omega), Below.heap_setCell _ _ _ x (by simp; omega), Below.heap_setCell _ _ _ x (by simp; omega), Below.heap_setCell _ _ _ x (by simp; omega), Below.heap_setCell _ _ _ x (by simp; omega), Below.heap_setCell _ _ _ x (by simp; omega)]
          rfl
        refine bodyPost_ret (v := .tuple #[.agg (List.toArray [.int .i64 L.kind, .int .i64 L.st, .int .i64 L.co, .slice a1 l1 c1, .slice a2 l2 c2, .slice va vl9 vc]), .agg (List.toArray [.int .i64 an.s, .int .i64 an.v])]) (results_agg2 rfl rfl rfl e1' e2 Tryz.underlying159 rfl hi1 Tryz.underlying94 rfl hi2) rfl ⟨.slice va vl9 vc, an, ?_, ?_, ?_, ?_, ?_⟩
        · rw [HE9.out]
        · rw [← HUE.out]
          exact HD.out.stay _ _ _ _ HJr.out.hm fun x hx => hold x (HJr.out.vhb x hx).1
        · exact fun x hx => by have := (HJr.out.vhb x hx).1; omega
        · rw [← HWT.out, ← HWS.out]
          exact below_setCells (by omega) _ _ _ (below_setCells (by omega) _ _ _ (Below.drew HJr.out.below))
        · rw [← HUE.out]; exact HAn.out
end Go.Proofs.YtefjhnhdagolhaaGreat
