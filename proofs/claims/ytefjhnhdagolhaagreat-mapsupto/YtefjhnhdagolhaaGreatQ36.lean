import Derived.Test.YtefjhnhdagolhaaGreatQ13
import Derived.Test.YtefjhnhdagolhaaGreatQ35
namespace Go.Proofs.YtefjhnhdagolhaaGreat
open Go.RowKit
attribute [local go_sem ↓] Go.wp_at_zero Go.wp_at_succ
def MadeAll (n : Nat) (kind cap st co : Int) (nx ou : List Int) (vn vo : Value) (Mk : World → Nat → World → Prop) (w : World) (e : Ending) (w' : World) : Prop :=
  ∃ (base bX bY : Nat) (tE : TypeId) (bN : Nat) (w01 w1 w03 w4 wr : World), e = .returned (.tuple #[.pointer (some ⟨wr.heap.size, 0, none⟩), .bool true]) ∧ RefMade w01 kind n cap st co nx ou vn vo bY w1 ∧ Below w.heap.size w w01 ∧ Mk w03 bX w4 ∧ w1.heap.size ≤ w03.heap.size ∧ base ≤ w03.heap.size ∧ Row wr bX 74 [.iface tE (.pointer (some ⟨bN, 0, none⟩))] ∧ Keeps base w4 wr ∧ w4.heap.size ≤ wr.heap.size ∧ Below w1.heap.size w1 wr ∧
    Row w' wr.heap.size 90 [.pointer (some ⟨bX, 0, none⟩), .pointer (some ⟨bY, 0, none⟩), .slice none 0 0, .slice none 0 0] ∧ Below wr.heap.size wr w' ∧ Below w.heap.size w wr
structure Maker (n : Nat) (kind cap st co : Int) (nx ou : List Int) (vn vo : Value) (Mk : World → Nat → World → Prop) : Prop where
  ref : ∀ W, Sl W vn (ints nx) → Sl W vo (ints ou) → Calls Tryz.prog 41 #[.agg #[.int .i64 kind, .int .i64 (n : Int), .int .i64 cap, .int .i64 st, .int .i64 co, vn, vo]] W fun e w' => ∃ b, e = .returned (.tuple #[.pointer (some ⟨b, 0, none⟩), .int .i64 0]) ∧ RefMade W kind n cap st co nx ou vn vo b w'
  new : ∀ W u1 u2, Sl W u1 (ints nx) → Sl W u2 (ints ou) → Calls Tryz.prog 42 #[.agg #[.int .i64 kind, .int .i64 (n : Int), .int .i64 cap, .int .i64 st, .int .i64 co, u1, u2]] W fun e w' => ∃ b, e = .returned (.tuple #[.pointer (some ⟨b, 0, none⟩), .int .i64 0]) ∧ Mk W b w'
  eng : ∀ W b W', Mk W b W' → ∃ tE bN, Row W' b 74 [.iface tE (.pointer (some ⟨bN, 0, none⟩))] ∧ Below W.heap.size W W'
set_option maxRecDepth 20000 in
set_option maxHeartbeats 2000000 in
theorem made_all {Mk : World → Nat → World → Prop} (kind : Int) (n : Nat) (cap st co : Int) (nx ou : List Int) (vn vo : Value) (w : World) (hn : Sl w vn (ints nx)) (ho : Sl w vo (ints ou)) (n1 : nx.length ≤ 1048576) (n2 : ou.length ≤ 1048576) (h : cfgErr kind n cap st co nx ou = 0) (mk : Maker n kind cap st co nx ou vn vo Mk) :
    Calls Tryz.prog 17 #[.agg #[.int .i64 kind, .int .i64 (n : Int), .int .i64 cap, .int .i64 st, .int .i64 co, vn, vo]] w (MadeAll n kind cap st co nx ou vn vo Mk w) := by
  have hcf := (cfg_ok h).1
  have HREF := hide (fun W (hW : Below w.heap.size w W) => mk.ref W (hn.below hW) (ho.below hW))
  have HNEW := hide mk.new
  have HENGS := hide mk.eng
  obtain ⟨a1, k1, e1, -⟩ := hn.open_ints
  obtain ⟨a2, k2, e2, -⟩ := ho.open_ints
  have HN := hide hn
  have HO := hide ho
  clear hn ho mk
  subst e1
  subst e2
  clear h
  go_enter Tryz.func17, Tryz.ntmps17
  go_wp2_with fail
  refine (HREF.out _ (below_alloc _ _)).mono ?_
  rintro e w1 ⟨bY, rfl, hRef⟩
  obtain ⟨-, -, -, -, -, -, -, -, -, -, hb1⟩ := hRef.reads2 (by omega)
  have HRD := hide hRef
  clear hRef
  have hR1 : Row w1 w.heap.size 26 [.int .i64 kind, .int .i64 (n : Int), .int .i64 cap, .int .i64 st, .int .i64 co, .slice a1 nx.length k1, .slice a2 ou.length k2] := (Row.new' rfl).old hb1
  have q5 : w1.cell? ⟨w.heap.size, 5, none⟩ = some (.slice a1 nx.length k1) := hR1.cell_of rfl
  have HB1 := hide (Below.next (below_alloc w _) hb1 (by simp))
  have HR1 := hide hR1
  clear hb1 hR1
  go_wp2_with fail
  refine (handed_any nx _ _ (HN.out.below HB1.out) n1).mono ?_
  rintro e w2 ⟨g1, rfl, hg1, hr1, hb2⟩
  have q6 : w2.cell? ⟨w.heap.size, 6, none⟩ = some (.slice a2 ou.length k2) := cell_later hb2 (HR1.out.cell_of rfl)
  have HB2 := hide hb2
  have HG1 := hide (show Row w2 g1 3 (ints (nx ++ [-77, -77])) from hr1)
  have HBw2 := hide (Below.next HB1.out hb2 HB1.out.size)
  clear q5 hb2 hr1
  go_wp2_with fail
  refine (handed_any ou _ _ (HO.out.below HBw2.out) n2).mono ?_
  rintro e w3 ⟨g2, rfl, hg2, hr2, hb3⟩
  have HB3 := hide hb3
  have HG2 := hide (show Row w3 g2 3 (ints (ou ++ [-77, -77])) from hr2)
  have HG1' := hide (HG1.out.old hb3)
  have HBw3 := hide (Below.next HBw2.out hb3 HBw2.out.size)
  have HR3 := hide ((HR1.out.old HB2.out).old hb3)
  obtain ⟨-, q0, q1, q2, q3, q4, q5, q6'⟩ := cells7 HR3.out
  have q5' := fun ob => cell_new q5 ob
  have q6'' := fun ob => cell_new q6' ob
  have hne : ¬ w.heap.size = w3.heap.size := by have := HR3.out.lt; omega
  clear hb3 hr2 q6
  go_wp2_with fail
  refine (HNEW.out _ _ _ (beyond_sl (HG1'.out.alloc _) n1) (beyond_sl (HG2.out.alloc _) n2)).mono ?_
  rintro e w4 ⟨bX, rfl, hMade⟩
  obtain ⟨tE, bN, hrX, hb4⟩ := HENGS.out _ _ _ hMade
  have HRX := hide hrX
  have HENG := hide hMade
  clear hMade hrX
  have HB4 := hide (Below.next (below_alloc w3 _) hb4 (by simp))
  have HBw4 := hide (Below.next HBw3.out HB4.out HBw3.out.size)
  have r5 : w4.cell? ⟨w.heap.size, 5, none⟩ = some (.slice a1 nx.length k1) := cell_later HB4.out q5
  have HG14 := hide (HG1'.out.old HB4.out)
  have HG24 := hide (HG2.out.old HB4.out)
  have HR4 := hide (HR3.out.old HB4.out)
  clear hb4 q0 q1 q2 q3 q4 q5 q6' q5' q6''
  go_wp2_with fail
  refine (handed_any nx _ _ (HN.out.below HBw4.out) n1).mono ?_
  rintro e w5 ⟨g3, rfl, hg3, hr3, hb5⟩
  have HB5 := hide hb5
  have HG3 := hide (show Row w5 g3 3 (ints (nx ++ [-77, -77])) from hr3)
  clear hb5 hr3 r5
  go_wp2_with fail
  refine (sameInts_any (nx ++ [-77, -77]) (nx ++ [-77, -77]) _ _ _ (beyond_all (HG14.out.old HB5.out) n1) (beyond_all HG3.out n1)).mono ?_
  rintro e w6 ⟨rfl, k6, rfl⟩
  rw [decide_eq_true (rfl : nx ++ [-77, -77] = nx ++ [-77, -77])]
  have HBw6 := hide (Below.drewN (Below.next HBw4.out HB5.out HBw4.out.size) k6)
  have r6 : (w5.drewN k6).cell? ⟨w.heap.size, 6, none⟩ = some (.slice a2 ou.length k2) := (HR4.out.old HB5.out).cell_of rfl
  have HK6 := hide (show Below w4.heap.size w4 (w5.drewN k6) from Below.drewN HB5.out _)
  generalize hW6 : World.drewN w5 k6 = w6 at r6 HBw6 HK6 ⊢
  have HG26 := hide (show Row w6 g2 3 (ints (ou ++ [-77, -77])) by rw [← hW6]; exact HG24.out.old (Below.drewN HB5.out _))
  have HG16 := hide (show Row w6 g1 3 (ints (nx ++ [-77, -77])) by rw [← hW6]; exact HG14.out.old (Below.drewN HB5.out _))
  clear hW6
  go_wp2_with fail
  refine (handed_any ou _ _ (HO.out.below HBw6.out) n2).mono ?_
  rintro e w7 ⟨g4, rfl, hg4, hr4, hb7⟩
  have HB7 := hide hb7
  have HG4 := hide (show Row w7 g4 3 (ints (ou ++ [-77, -77])) from hr4)
  clear hb7 hr4 r6
  go_wp2_with fail
  refine (sameInts_any (ou ++ [-77, -77]) (ou ++ [-77, -77]) _ _ _ (beyond_all (HG26.out.old HB7.out) n2) (beyond_all HG4.out n2)).mono ?_
  rintro e w8 ⟨rfl, k8, rfl⟩
  rw [decide_eq_true (rfl : ou ++ [-77, -77] = ou ++ [-77, -77])]
  generalize hW8 : World.drewN w7 k8 = w8
  have HK8 := hide (show Below w4.heap.size w4 w8 by rw [← hW8]; exact Below.drewN (Below.next HK6.out HB7.out HK6.out.size) _)
  have HBw8 := hide (show Below w.heap.size w w8 by rw [← hW8]; exact Below.drewN (Below.next HBw6.out HB7.out HBw6.out.size) _)
  have HG28 := hide (show Row w8 g2 3 (ints (ou ++ [-77, -77])) by rw [← hW8]; exact HG26.out.old (Below.drewN HB7.out _))
  have HG18 := hide (show Row w8 g1 3 (ints (nx ++ [-77, -77])) by rw [← hW8]; exact HG16.out.old (Below.drewN HB7.out _))
  clear hW8
  have hzz : w.heap.size ≤ g1 := by have := HB1.out.size; omega
  have hzz2 : w.heap.size ≤ g2 := by have := HBw2.out.size; omega
  have hz2 : w1.heap.size ≤ g2 := by have := HB2.out.size; omega
  have hs1 := HG1'.out.lt
  have hs2 := HG2.out.lt
  have hx1 : bX ≠ g1 := Row.apart HRX.out HG14.out (by decide)
  have hx2 : bX ≠ g2 := Row.apart HRX.out HG24.out (by decide)
  have ht1 : w8.there g1 0 (nx.length + 2) := HG18.out.there (by simp [ints])
  have ht2 : w8.there g2 0 (ou.length + 2) := HG28.out.there (by simp [ints])
  have hb13 := Below.next HB2.out HB3.out HB2.out.size
  have hb14 := Below.next hb13 HB4.out hb13.size
  have HI := hide (show MadeInv w w1 w4 (w3.heap.size + 1) bX _ w8 from ⟨HBw8.out, Below.next hb14 HK8.out hb14.size, Keeps.of_below HK8.out, HK8.out.size, HRX.out.old HK8.out⟩)
  have HS := hide (show MadeInv w w1 w4 (w3.heap.size + 1) bX _ w8 ∧ w8.there g1 0 (nx.length + 2) ∧ w8.there g2 0 (ou.length + 2) from ⟨HI.out, ht1, ht2⟩)
  clear ht1 ht2 hb13 hb14
  go_wp2
  go_loopw [13] (fun i w' => ∃ k : Nat, k ≤ nx.length + 2 ∧ i = .int .i64 (k : Int) ∧ MadeInv w w1 w4 (w3.heap.size + 1) bX (.iface tE (.pointer (some ⟨bN, 0, none⟩))) w' ∧ w'.there g1 0 (nx.length + 2) ∧ w'.there g2 0 (ou.length + 2)) (fun i _ => nx.length + 2 - (intOf i).toNat)
  case atStart => exact ⟨0, Nat.zero_le _, rfl, HS.out⟩
  case round =>
    obtain ⟨k, hk, rfl, hB, hT1, hT2⟩ := hrel
    by_cases hlt : k < nx.length + 2
    · obtain ⟨hv1, hv2⟩ := hT1 k hlt
      rw [Nat.zero_add] at hv1 hv2
      obtain ⟨v, hv⟩ := Option.isSome_iff_exists.1 hv1
      have hlt' : (k : Int) < (nx.length : Int) + 2 := by omega
      have hk0 : (0 : Int) ≤ (k : Int) := by omega
      have HX := hide (And.intro hB (And.intro hT1 hT2))
      clear hB hT1 hT2 hv1
      go_wp2
      go_roundw
      case rel => exact ⟨k + 1, by omega, by go_num, HX.out.1.set hzz (by show _ ≤ g1; omega) (by show g1 < _; omega) hx1 _, there_set HX.out.2.1 _ rfl _, there_set HX.out.2.2 _ rfl _⟩
      case measure => simp [intOf]; omega
    · have hlt' : ¬ (k : Int) < (nx.length : Int) + 2 := by omega
      have HX := hide (And.intro hB (And.intro hT1 hT2))
      clear hB hT1 hT2
      go_wp2
      go_loopw [14] (fun i w' => ∃ k : Nat, k ≤ ou.length + 2 ∧ i = .int .i64 (k : Int) ∧ MadeInv w w1 w4 (w3.heap.size + 1) bX (.iface tE (.pointer (some ⟨bN, 0, none⟩))) w' ∧ w'.there g2 0 (ou.length + 2)) (fun i _ => ou.length + 2 - (intOf i).toNat)
      case atStart => exact ⟨0, Nat.zero_le _, rfl, HX.out.1, HX.out.2.2⟩
      case round =>
        obtain ⟨k9, hk9, rfl, hB, hT2⟩ := hrel
        by_cases hlt9 : k9 < ou.length + 2
        · obtain ⟨hv1, hv2⟩ := hT2 k9 hlt9
          rw [Nat.zero_add] at hv1 hv2
          obtain ⟨v, hv⟩ := Option.isSome_iff_exists.1 hv1
          have hlt9' : (k9 : Int) < (ou.length : Int) + 2 := by omega
          have hk0 : (0 : Int) ≤ (k9 : Int) := by omega
          have HX2 := hide (And.intro hB hT2)
          clear hB hT2 hv1
          go_wp2
          go_roundw
          case rel => exact ⟨k9 + 1, by omega, by go_num, HX2.out.1.set hzz2 hz2 (by show g2 < _; omega) hx2 _, there_set HX2.out.2 _ rfl _⟩
          case measure => simp [intOf]; omega
        · have hlt9' : ¬ (k9 : Int) < (ou.length : Int) + 2 := by omega
          have HX2 := hide hB
          clear hB hT2
          go_wp2
          go_ret2
          unfold MadeAll
          exact ⟨_, bX, bY, tE, bN, _, w1, _, w4, _, rfl, HRD.out, below_alloc _ _, HENG.out, by have := Below.next HB2.out HB3.out HB2.out.size; exact Nat.le_trans this.size (by simp), by simp, HX2.out.rX, HX2.out.k4, HX2.out.sz, HX2.out.b1, Row.new' rfl, below_alloc _ _, HX2.out.b0⟩
end Go.Proofs.YtefjhnhdagolhaaGreat
namespace Go.Proofs.YtefjhnhdagolhaaGreat
open Go.RowKit
open M (upd upd_same upd_other RSt RTh cnt marks tagged num YI)
theorem zeros_fn0 {w : World} {b : Nat} {t : TypeId} {m : Nat} (h : Row w b t (zeros (.int .i64 0) m)) : Fn w b t m (fun _ => .int .i64 0) := by
  have e : zeros (.int .i64 0) m = (List.range m).map (fun _ => Value.int .i64 0) := by
    apply List.ext_getElem
    · simp [zeros]
    · intro i h1 h2; simp [zeros]
  unfold Fn
  rw [← e]
  exact h
theorem labZ {n g b : Nat} {bT bF : Nat → Nat} (hiT : ∀ s t, s < n → t < n → bT s = bT t → s = t) (hiF : ∀ s t, s < n → t < n → bF s = bF t → s = t) (hx : ∀ s t, s < n → t < n → bT s ≠ bF t)
    (h1 : ∀ t, t < n → bT t ≠ g) (h2 : ∀ t, t < n → bF t ≠ g) (h3 : ∀ t, t < n → bT t ≠ b) (h4 : ∀ t, t < n → bF t ≠ b) (h5 : b ≠ g) :
    ∃ lab : Nat → Nat, lab b = 0 ∧ lab g = 1 ∧ (∀ t, t < n → lab (bT t) = 4 * t + 4) ∧ ∀ t, t < n → lab (bF t) = 4 * t + 5 := by
  classical
  refine ⟨fun k => if h : ∃ t, t < n ∧ k = bT t then 4 * h.choose + 4 else if h : ∃ t, t < n ∧ k = bF t then 4 * h.choose + 5 else if k = g then 1 else 0, ?_, ?_, fun t ht => ?_, fun t ht => ?_⟩
  · dsimp only
    rw [dif_neg (fun ⟨s, hs, e⟩ => h3 s hs e.symm), dif_neg (fun ⟨s, hs, e⟩ => h4 s hs e.symm), if_neg h5]
  · dsimp only
    rw [dif_neg (fun ⟨s, hs, e⟩ => h1 s hs e.symm), dif_neg (fun ⟨s, hs, e⟩ => h2 s hs e.symm), if_pos rfl]
  · dsimp only
    have h : ∃ s, s < n ∧ bT t = bT s := ⟨t, ht, rfl⟩
    rw [dif_pos h]
    have := hiT _ _ ht h.choose_spec.1 h.choose_spec.2
    omega
  · dsimp only
    have h : ∃ s, s < n ∧ bF t = bF s := ⟨t, ht, rfl⟩
    rw [dif_neg (fun ⟨s, hs, e⟩ => hx s t hs ht e.symm), dif_pos h]
    have := hiF _ _ ht h.choose_spec.1 h.choose_spec.2
    omega
theorem DW.new {σ : Type} (P : M.Plain σ) {w0 w : World} {kind : Int} {n cap : Nat} {st co : Int} {nx ou : List Int} {vn vo : Value} {b : Nat} (h : RefMade w0 kind n (cap : Int) st co nx ou vn vo b w) (hn : 1 ≤ n) (h64 : n ≤ 64) (hc : cap ≤ 64) :
    ∃ (D : DL) (S : Nat → Prop), D.b = b ∧ D.n = n ∧ D.cap = cap ∧ D.kind = kind ∧ D.st = st ∧ D.co = co ∧ D.nx = nx ∧ D.ou = ou ∧ ((kind ≠ 5 ∧ D.vn = vn ∧ D.vo = vo) ∨ (kind = 5 ∧ ∃ g1 g2, D.vn = .slice (some ⟨g1, 0, none⟩) nx.length nx.length ∧ D.vo = .slice (some ⟨g2, 0, none⟩) ou.length ou.length)) ∧
      (∀ k, S k → w0.heap.size ≤ k ∧ k < w.heap.size) ∧ DW P AuT D S M.Y0 w := by
  obtain ⟨W1, vn', vo', v, bT, bF, rfl, hb, hI, hv⟩ := h
  obtain ⟨hE, hO, hT, hD, hB⟩ := hI
  obtain ⟨hl, ⟨rfl, hn0⟩ | ⟨g, gc, cur, rfl, hgb, hg, hnc, hcm, hcs, htk⟩⟩ := hO
  · omega
  · have lg : g < w.heap.size := by have := Array.getElem?_eq_some_iff.mp hg; exact this.1
    have hz := hb.size
    have hiT : ∀ s t, s < n → t < n → bT s = bT t → s = t := fun s t hs ht q => by
      rcases Nat.lt_trichotomy s t with c | c | c
      · exact absurd q (hD s t c ht).1
      · exact c
      · exact absurd q.symm (hD t s c hs).1
    have hiF : ∀ s t, s < n → t < n → bF s = bF t → s = t := fun s t hs ht q => by
      rcases Nat.lt_trichotomy s t with c | c | c
      · exact absurd q (hD s t c ht).2.2.2
      · exact c
      · exact absurd q.symm (hD t s c hs).2.2.2
    have hx : ∀ s t, s < n → t < n → bT s ≠ bF t := fun s t hs ht q => by
      rcases Nat.lt_trichotomy s t with c | c | c
      · exact absurd q (hD s t c ht).2.1
      · subst c; exact (hT s hs).2.2.2.2.2.2 q
      · exact absurd q.symm (hD t s c hs).2.2.1
    have hgT : ∀ t, t < n → bT t ≠ g := fun t ht q => (hT t ht).2.2.2.2.1 (by rw [q]; rfl)
    have hgF : ∀ t, t < n → bF t ≠ g := fun t ht q => (hT t ht).2.2.2.2.2.1 (by rw [q]; rfl)
    obtain ⟨lab, q0, q1, q2, q3⟩ := labZ (b := W1.heap.size) hiT hiF hx hgT hgF (fun t ht => by have := (hT t ht).2.2.1; omega) (fun t ht => by have := (hT t ht).2.2.2.1; omega) (by omega)
    let D : DL := { b := W1.heap.size, n := n, cap := cap, g := g, gc := gc, bT := bT, bF := bF, kind := kind, st := st, co := co, vn := vn', vo := vo', nx := nx, ou := ou }
    have dr : DR D (fun k => w0.heap.size ≤ k ∧ k < w.heap.size) M.Y0 w (fun k => if k < W1.heap.size then 7 else lab k) (fun _ => .slice none 0 0) (fun _ => .slice none 0 0) (.slice none 0 0) (fun _ => .slice none 0 0) := {
      n1 := hn
      n64 := h64
      c64 := hc
      obj := hE
      obL := ⟨⟨hz, hE.lt⟩, (if_neg (Nat.lt_irrefl _)).trans q0⟩
      ptr := fun t ht => by
        rw [cell_of_row w g _ cur _ _ hg]
        have : (ptrs bT n)[t]? = some (.pointer (some ⟨bT t, 0, none⟩)) := by simp [ptrs, List.getElem?_range (show t < n from ht)]
        rw [← htk, List.getElem?_take] at this
        split at this
        · simpa using this
        · cases this
      ptL := ⟨⟨by show w0.heap.size ≤ g; omega, lg⟩, (if_neg (show ¬ g < W1.heap.size by omega)).trans q1⟩
      th := fun t ht => (hT t ht).1
      thL := fun t ht => ⟨⟨by have := (hT t ht).2.2.1; show w0.heap.size ≤ bT t; omega, (hT t ht).1.lt⟩, (if_neg (show ¬ bT t < W1.heap.size by have := (hT t ht).2.2.1; omega)).trans (q2 t ht)⟩
      fl := fun t ht => zeros_fn0 (hT t ht).2.1
      flL := fun t ht => ⟨⟨by have := (hT t ht).2.2.2.1; show w0.heap.size ≤ bF t; omega, (hT t ht).2.1.lt⟩, (if_neg (show ¬ bF t < W1.heap.size by have := (hT t ht).2.2.2.1; omega)).trans (q3 t ht)⟩
      ops := fun t ht => World.ownsRow_nil _ _ _ _
      opL := fun t ht k e => by cases e
      bat := World.ownsRow_nil _ _ _ _
      baL := fun k e => by cases e
      bts := fun i hi => absurd hi (Nat.not_lt_zero _)
      btL := fun i hi => absurd hi (Nat.not_lt_zero _)
      pnd := fun t ht => Lst.nil _
      pnL := fun t ht k e => by cases e
      lt := fun k hk => hk.2
      au := fun k5 => by
        rcases hv with ⟨h1, -⟩ | ⟨-, g1, g2, h2, h3, h4, h5, h6, h7⟩
        · exact absurd k5 h1
        · have z6 := h6.lt
          have z7 := h7.lt
          have z := hB.size
          exact ⟨g1, g2, h2, h3, h6.old hB, h7.old hB, ⟨⟨h4, by omega⟩, if_pos z6⟩, ⟨h5, by omega⟩, if_pos z7⟩ }
    refine ⟨D, fun k => w0.heap.size ≤ k ∧ k < w.heap.size, rfl, rfl, rfl, rfl, rfl, rfl, rfl, rfl, ?_, fun k hk => hk, ⟨_, _, _, _, _, dr⟩, YI.new P n cap, 0, fun _ _ => Nat.zero_le _, Nat.zero_le _, trivial⟩
    rcases hv with ⟨h1, rfl, rfl⟩ | ⟨h1, g1, g2, h2, h3, h4, h5, h6, h7⟩
    · exact .inl ⟨h1, rfl, rfl⟩
    · exact .inr ⟨h1, g1, g2, h2, h3⟩
theorem Law.new {σ : Type} {P : M.Plain σ} {tell : σ → List Int} {D : DL} {X : (Nat → Prop) → RSt → World → Prop} {A : LL} {SX SD : Nat → Prop} {Y : RSt} {fBe fSt fAn fDo fOr fTe fBo : Nat} (xo : XOk P tell D A.tE A.bN X fBe fSt fAn fDo fOr fTe fBo) {B : Nat} {w1 wr w : World}
    (hd : DW P AuT D SD Y w1) (hdB : ∀ k, SD k → B ≤ k ∧ k < w1.heap.size) (hx : X SX Y wr) (hxB : ∀ k, SX k → w1.heap.size ≤ k ∧ k < wr.heap.size ∧ k ≠ A.bX) (hbX : w1.heap.size ≤ A.bX) (hB : B ≤ w1.heap.size) (hb1 : Below w1.heap.size w1 wr) (hb : Below wr.heap.size wr w)
    (hoX : Row wr A.bX 74 [.iface A.tE (.pointer (some ⟨A.bN, 0, none⟩))]) (hL : A.bL = wr.heap.size) (hrow : Row w A.bL 90 [.pointer (some ⟨A.bX, 0, none⟩), .pointer (some ⟨D.b, 0, none⟩), .slice none 0 0, .slice none 0 0]) :
    Law P D X A 0 (fun k => B ≤ k ∧ k < w.heap.size) Y w := by
  have z1 := hb1.size
  have z2 := hb.size
  have lX := hoX.lt
  have lL := hrow.lt
  have hb2 := Below.next hb1 hb z1
  refine ⟨⟨SX, SD, fun _ => False, fun _ => 0, .slice none 0 0, .slice none 0 0, [], [], ?_, ?_, Nat.le_refl _, Nat.le_refl _⟩, fun k hk => hk.2⟩
  · exact {
      row := hrow
      obj := hoX.old hb
      x := xo.stay _ _ _ _ _ hx (fun k hk => hb.block k (hxB k hk).2.1) (fun _ q => q) (fun k hk => by have := hxB k hk; omega)
      xl := fun k hk => by have := hxB k hk; omega
      d := hd.stay2 (fun k hk => hb2.block k (hdB k hk).2) (by omega)
      m := ⟨World.ownsRow_nil _ _ _ _, fun k e => (by cases e), fun e he => (by cases he)⟩
      i := ⟨World.ownsRow_nil _ _ _ _, fun k e => (by cases e), fun e he => (by cases he)⟩
      tl := fun k hk => hk.elim
      dx := fun k hk => by have := hxB k hk; exact ⟨fun c => by have := hdB k c; omega, fun c => c, by omega, by omega⟩
      dd := fun k hk => by have := hdB k hk; exact ⟨fun c => c, by omega, by omega⟩
      dt := fun k hk => hk.elim
      ne := by omega }
  · rintro k (c | c | c | c | c)
    · have := hxB k c; exact ⟨by omega, by omega⟩
    · have := hdB k c; exact ⟨by omega, by omega⟩
    · exact c.elim
    · exact ⟨by omega, by omega⟩
    · exact ⟨by omega, by omega⟩
theorem Lim.new (D : DL) : Lim D 0 M.Y0 := ⟨fun _ _ => Nat.le_refl _, Nat.le_refl _⟩
end Go.Proofs.YtefjhnhdagolhaaGreat
namespace Go.Proofs.YtefjhnhdagolhaaGreat
open Go.RowKit
open M (upd upd_same upd_other RSt RTh cnt marks tagged num YI)
attribute [local go_sem ↓] Go.wp_at_zero Go.wp_at_succ
def Scr (w : World) (v : Value) (l : List ActV) : Prop :=
  ∃ a c, v = .slice a l.length c ∧ (0 < l.length → ∃ g off, a = some ⟨g, off, none⟩ ∧ ∀ (i : Nat) (x : ActV), l[i]? = some x →
    w.cell? ⟨g, off + i * 6, none⟩ = some (.int .i64 x.k) ∧ w.cell? ⟨g, off + i * 6 + 1, none⟩ = some (.int .i64 x.t) ∧ w.cell? ⟨g, off + i * 6 + 2, none⟩ = some (.int .i64 x.n) ∧ w.cell? ⟨g, off + i * 6 + 3, none⟩ = some (.int .i64 x.c) ∧ w.cell? ⟨g, off + i * 6 + 4, none⟩ = some (.int .i64 x.a) ∧ w.cell? ⟨g, off + i * 6 + 5, none⟩ = some (.int .i64 x.b))
theorem Scr.below {w w' : World} {v : Value} {l : List ActV} (h : Scr w v l) (hb : Below w.heap.size w w') : Scr w' v l := by
  obtain ⟨a, c, e, h⟩ := h
  refine ⟨a, c, e, fun h0 => ?_⟩
  obtain ⟨g, off, e2, h⟩ := h h0
  refine ⟨g, off, e2, fun i x hx => ?_⟩
  obtain ⟨c0, c1, c2, c3, c4, c5⟩ := h i x hx
  exact ⟨cell_later hb c0, cell_later hb c1, cell_later hb c2, cell_later hb c3, cell_later hb c4, cell_later hb c5⟩
structure Goer (b : Nat) (w0 : World) (J : Nat → World → Prop) : Prop where
  act : ∀ k W (x : ActV), k ≤ 200000 → J k W → I64 x.t → I64 x.n → Calls Tryz.prog 18 #[.pointer (some ⟨b, 0, none⟩), x.val] W fun e w' => e = .returned (.bool true) ∧ J (k + 1) w'
  looks : ∀ k W, k ≤ 200001 → J k W → Calls Tryz.prog 19 #[.pointer (some ⟨b, 0, none⟩)] W fun e w' => e = .returned (.bool true) ∧ J k w'
  last : ∀ k W, k ≤ 200001 → J k W → Calls Tryz.prog 20 #[.pointer (some ⟨b, 0, none⟩)] W fun e w' => e = .returned (.bool true) ∧ Below w0.heap.size w0 w'
  bl : ∀ k W, J k W → Below w0.heap.size w0 W
theorem below_of_fr {w0 w w' : World} {U : Nat → Prop} (h : Below w0.heap.size w0 w) (hf : Fr U w w') (hU : ∀ k, U k → w0.heap.size ≤ k) : Below w0.heap.size w0 w' :=
  ⟨hf.os.trans h.os, hf.tape.trans h.tape, hf.output.trans h.output, Nat.le_trans h.size hf.size, fun k hk => (hf.block k (Nat.lt_of_lt_of_le hk h.size) (fun c => by have := hU k c; omega)).trans (h.block k hk)⟩
section
variable {σ : Type} {P : M.Plain σ} {tell : σ → List Int} {sz : σ → Nat} {HM : World → Value → σ → Prop} {D : DL} {X : (Nat → Prop) → RSt → World → Prop} {A : LL} {Y : RSt} {w w0 : World} {fBe fSt fAn fDo fOr fTe fBo Z K : Nat} {U : Nat → Prop}
def Goes2 (P : M.Plain σ) (D : DL) (X : (Nat → Prop) → RSt → World → Prop) (A : LL) (w0 : World) (k : Nat) (W : World) : Prop :=
  ∃ Y U, Law P D X A (4 * k) U Y W ∧ Lim D (4000 * k) Y ∧ (∀ q, U q → w0.heap.size ≤ q) ∧ Below w0.heap.size w0 W
theorem grow_low {w w' : World} (hb : w0.heap.size ≤ w.heap.size) (h : ∀ q, U q → w0.heap.size ≤ q) (q : Nat) (hq : Grow U w w' q) : w0.heap.size ≤ q := by
  rcases hq with c | c
  · exact h q c
  · omega
theorem goer (xo : XOk P tell D A.tE A.bN X fBe fSt fAn fDo fOr fTe fBo) (ds : DS P tell sz HM AuT D) (tf : TellFits P tell D) (w0 : World) : Goer A.bL w0 (Goes2 P D X A w0) where
  act k W x hk h ht hn := by
    obtain ⟨Y, U, hl, hL, hU, hb⟩ := h
    refine (act_any xo ds tf hl hL (by omega) (by omega) x ht hn).mono ?_
    rintro e w' ⟨rfl, Y', hg, hL'⟩
    exact ⟨rfl, Y', _, hg.law, hL', grow_low hb.size hU, below_of_fr hb hg.fr hU⟩
  looks k W hk h := by
    obtain ⟨Y, U, hl, hL, hU, hb⟩ := h
    refine (lawLooks hl (by omega)).mono ?_
    rintro e w' ⟨rfl, hb'⟩
    have hg := hl.below xo hb'
    exact ⟨rfl, Y, _, hg.law, hL, grow_low hb.size hU, below_of_fr hb hg.fr hU⟩
  last k W hk h := by
    obtain ⟨Y, U, hl, hL, hU, hb⟩ := h
    refine (lawLast2 xo ds tf hl (hL.mono (by omega)) (by omega)).mono ?_
    rintro e w' ⟨rfl, hg⟩
    exact ⟨rfl, below_of_fr hb hg.fr hU⟩
  bl k W h := h.choose_spec.choose_spec.2.2.2
end
def Playable (kind : Int) (n : Nat) (cap st co : Int) (nx ou : List Int) (vn vo : Value) (Mk : World → Nat → World → Prop) : Prop :=
  ∀ w e w', MadeAll n kind cap st co nx ou vn vo Mk w e w' → ∃ b J, e = .returned (.tuple #[.pointer (some ⟨b, 0, none⟩), .bool true]) ∧ Goer b w J ∧ J 0 w'
set_option maxRecDepth 20000 in
set_option maxHeartbeats 2000000 in
theorem plays_law {Mk : World → Nat → World → Prop} (kind : Int) (n : Nat) (cap st co : Int) (nx ou : List Int) (vn vo : Value) (mk : Maker n kind cap st co nx ou vn vo Mk) (hP : Playable kind n cap st co nx ou vn vo Mk) (l : List ActV) (hl : l.length ≤ 200000) (hi : ∀ x ∈ l, I64 x.t ∧ I64 x.n) (s : Value) (w : World) (hs : Scr w s l) (hn : Sl w vn (ints nx)) (ho : Sl w vo (ints ou)) (n1 : nx.length ≤ 1048576) (n2 : ou.length ≤ 1048576) (h : cfgErr kind n cap st co nx ou = 0) :
    Calls Tryz.prog 15 #[.agg #[.int .i64 kind, .int .i64 (n : Int), .int .i64 cap, .int .i64 st, .int .i64 co, vn, vo], s] w fun e w' => e = .returned (.bool true) ∧ Below w.heap.size w w' := by
  have HM := hide (fun W (hW : Below w.heap.size w W) => made_all kind n cap st co nx ou vn vo W (hn.below hW) (ho.below hW) n1 n2 h mk)
  have HP := hide hP
  have HI := hide hi
  obtain ⟨a, c, rfl, hs⟩ := hs
  have HS := hide hs
  clear hn ho n1 n2 h hP hi hs mk
  go_enter Tryz.func15, Tryz.ntmps15
  go_wp2_with fail
  refine (HM.out _ (below_alloc _ _)).mono ?_
  intro e w1 hA
  obtain ⟨b, J, rfl, hG, hJ⟩ := HP.out _ _ _ hA
  have HG := hide hG
  have HB := hide (fun k W (hj : J k W) => Below.next (below_alloc w _) (hG.bl k W hj) (by simp))
  have HJ := hide hJ
  clear hA hG hJ
  go_wp2
  go_loopw [7] (fun i w' => ∃ k : Nat, k ≤ l.length ∧ i = .int .i64 (k : Int) ∧ J k w') (fun i _ => l.length - (intOf i).toNat)
  case atStart => exact ⟨0, Nat.zero_le _, rfl, HJ.out⟩
  case round =>
    obtain ⟨k, hk, rfl, hJ⟩ := hrel
    have hB := HB.out _ _ hJ
    by_cases hlt : k < l.length
    · have hlt' : (k : Int) < (l.length : Int) := by omega
      have hk0 : (0 : Int) ≤ (k : Int) := by omega
      obtain ⟨g, off, rfl, hcs⟩ := HS.out (by omega)
      have he : l[k]? = some l[k] := List.getElem?_eq_getElem hlt
      obtain ⟨d0, d1, d2, d3, d4, d5⟩ := hcs k _ he
      obtain ⟨i1, i2⟩ := HI.out _ (List.mem_of_getElem? he)
      generalize l[k] = x at he d0 d1 d2 d3 d4 d5 i1 i2
      replace d0 := cell_later hB d0
      replace d1 := cell_later hB d1
      replace d2 := cell_later hB d2
      replace d3 := cell_later hB d3
      replace d4 := cell_later hB d4
      replace d5 := cell_later hB d5
      have HA := hide (HG.out.act k _ x (by omega) hJ i1 i2)
      unfold ActV.val at HA
      clear hB hJ hcs he i1 i2
      go_wp2_with fail
      refine HA.out.mono ?_
      rintro e w2 ⟨rfl, hJ2⟩
      clear d0 d1 d2 d3 d4 d5
      go_wp2_with fail
      refine (HG.out.looks (k + 1) _ (by omega) hJ2).mono ?_
      rintro e w3 ⟨rfl, hJ3⟩
      clear hJ2
      have HJ3 := hide hJ3
      clear hJ3
      go_wp2
      go_roundw
      case rel => exact ⟨k + 1, by omega, by go_num, HJ3.out⟩
      case measure => simp [intOf]; omega
    · have hlt' : ¬ (k : Int) < (l.length : Int) := by omega
      have HL := hide (HG.out.last k _ (by omega) hJ)
      clear hB hJ
      go_wp2_with fail
      refine HL.out.mono ?_
      rintro e w2 ⟨rfl, hb2⟩
      have HB2 := hide (Below.next (below_alloc w _) hb2 (by simp))
      clear hb2
      go_wp2_with fail
      go_ret
      exact ⟨rfl, HB2.out⟩
end Go.Proofs.YtefjhnhdagolhaaGreat
