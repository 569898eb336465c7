import Derived.Test.YtefjhnhdagolhaaGreatQ17
import Derived.Test.YtefjhnhdagolhaaGreatQ10
import Derived.Test.YtefjhnhdagolhaaGreatQ00
import Derived.Test.YtefjhnhdagolhaaGreatProg
import Derived.Test.YtefjhnhdagolhaaGreatQ02
import Derived.Laws.CopyOwn
namespace Go.Proofs.YtefjhnhdagolhaaGreat
open Go.RowKit
open M (upd upd_same upd_other RSt RTh Dd PI Plc)
attribute [local go_sem ↓] Go.wp_at_zero Go.wp_at_succ
namespace M
theorem order_get {Y : RSt} {j : Nat} {m : Mark} (h : Y.order[j]? = some m) : Plc Y.bs.flatten m.t m.s j ∧ Y.all[j]? = some (m.b, m.t) := by
  unfold RSt.order marks at h
  rw [List.getElem?_mapIdx] at h
  obtain ⟨x, hx, e⟩ := Option.map_eq_some_iff.mp h
  subst e
  dsimp only
  refine ⟨⟨?_, ?_⟩, hx⟩
  · rw [← Y.all_snd, List.getElem?_map, hx]; rfl
  · rw [← Y.all_snd, ← List.map_take]
section
variable {σ : Type} {P : Plain σ} {n cap : Nat} {Y : RSt} {D : List Dd} {u : Nat → Option Nat} {c : Nat}
theorem PI.deed (h : PI P n cap Y D u c) {t s j : Nat} (hp : Plc Y.bs.flatten t s j) : ∃ (i : Nat) (d : Dd), D[i]? = some d ∧ d.t = t ∧ d.s = s := by
  have htn : t < n := by
    have hm : t ∈ Y.bs.flatten := List.mem_of_getElem? hp.1
    obtain ⟨b, h1, h2⟩ := List.mem_flatten.mp hm
    exact h.yi.ok.mem b h1 t h2
  have hs : s < (D.map Dd.t).count t := by
    rw [← h.ln t htn]
    exact Nat.lt_of_lt_of_le hp.cnt (h.yi.ok.ops t htn)
  obtain ⟨i, hi⟩ := Plc.ex hs
  have h1 := hi.1
  rw [List.getElem?_map] at h1
  obtain ⟨d, hd, e⟩ := Option.map_eq_some_iff.mp h1
  have h2 := (h.dt i d hd).2.1
  rw [e] at h2
  refine ⟨i, d, hd, e, ?_⟩
  have a := h2.2
  have b := hi.2
  rw [← a, ← b]
theorem PI.flipped (h : PI P n cap Y D u c) {j : Nat} {d : Dd} (hd : d ∈ D) (hp : Plc Y.bs.flatten d.t d.s j) : d.fl ≠ 0 := by
  intro q
  have h1 := (h.fl d hd).1 q
  have h2 := hp.cnt
  obtain ⟨E, pb, nf, -, G, -⟩ := h.yi
  have h3 : cnt Y.bs d.t ≤ (Y.th d.t).flips := (G.fl d.t (h.lt hd).1).1
  unfold cnt at h3
  omega
end
end M
section
variable {σ : Type} {P : M.Plain σ} {tell : σ → List Int} {D : DL} {X : (Nat → Prop) → RSt → World → Prop} {A : PL} {S : Nat → Prop} {w0 : QW} {w w1 : World} {vd vu vs : Value} {Y Y' : RSt} {ds : List Dd} {us ss : List Int} {c : Nat} {fBe fSt fAn fDo fOr fTe fBo K t : Nat} {u : Nat → Option Nat}
set_option maxRecDepth 20000 in
set_option maxHeartbeats 4000000 in
theorem deed_w (b : Int) (t s : Nat) (i : Nat) (d : Dd) (gd cd : Nat) (e8 : w.cell? ⟨A.bP, 8, none⟩ = some (.slice (some ⟨gd, 0, none⟩) ds.length cd)) (hcs : ∀ j d, ds[j]? = some d → ∀ f v, (ddc d)[f]? = some v → w.cell? ⟨gd, j * 12 + f, none⟩ = some v) (hd : ds[i]? = some d) (ht : d.t = t) (hs : d.s = s) (hun : ∀ j e, ds[j]? = some e → e.t = t → e.s = s → j = i) (hz : ds.length ≤ 9223372036854775807) :
    Calls Tryz.prog 71 #[.pointer (some ⟨A.bP, 0, none⟩), .agg #[.int .i64 b, .int .i64 (t : Int), .int .i64 (s : Int)]] w fun e w' => e = .returned (.int .i64 (i : Int)) ∧ Below w.heap.size w w' := by
  have hil : i < ds.length := (List.getElem?_eq_some_iff.mp hd).1
  have HC := hide hcs
  have HU := hide hun
  have HE8 := hide e8
  clear hcs hun e8
  go_enter Tryz.func71, Tryz.ntmps71
  go_wp2_with fail
  generalize hW : World.alloc w _ = W
  have hb : Below w.heap.size w W := by rw [← hW]; exact below_alloc w _
  have rB : Row W w.heap.size 81 [.int .i64 b, .int .i64 (t : Int), .int .i64 (s : Int)] := by rw [← hW]; exact Row.new' rfl
  have HB := hide hb
  have HRB := hide rB
  clear hW hb rB
  go_loopw [5] (fun k w' => ∃ q : Nat, q ≤ i ∧ k = .int .i64 (q : Int) ∧ Below W.heap.size W w') (fun k _ => ds.length - (intOf k).toNat)
  case atStart => exact ⟨0, Nat.zero_le _, rfl, Below.refl _ _⟩
  case round =>
    obtain ⟨q, hq, rfl, hbr⟩ := hrel
    have hB := Below.next HB.out hbr HB.out.size
    have e8 := cell_later hB HE8.out
    have x1 := (HRB.out.old hbr).cell_of (i := 1) rfl
    have x2 := (HRB.out.old hbr).cell_of (i := 2) rfl
    have hql : (q : Int) < (ds.length : Int) := by omega
    have hq0 : (0 : Int) ≤ (q : Int) := by omega
    have hqd : ds[q]? = some ds[q] := List.getElem?_eq_getElem (by omega)
    have k3 := cell_later hB (HC.out q _ hqd 3 _ rfl)
    have k4 := cell_later hB (HC.out q _ hqd 4 _ rfl)
    have HBR := hide hbr
    by_cases hqi : q = i
    · subst hqi
      rw [hd] at hqd
      injection hqd with hqd
      rw [← hqd, ht] at k3
      rw [← hqd, hs] at k4
      clear hbr hB hqd
      go_wp2
      go_quiet (fail)
      go_wp2
      go_ret
      exact ⟨rfl, Below.next HB.out (Below.drewN HBR.out _) HB.out.size⟩
    · generalize hdq : ds[q] = dq at *
      by_cases htq : dq.t = t
      · have hsq : ¬ dq.s = s := fun c => hqi (HU.out q dq hqd htq c)
        have hsq' : ¬ (dq.s : Int) = (s : Int) := by omega
        rw [htq] at k3
        clear hbr hB hqd hdq
        go_wp2
        go_quiet (fail)
        go_wp2
        go_roundw
        case rel => exact ⟨q + 1, by omega, by go_num, Below.drewN HBR.out _⟩
        case measure => simp [intOf]; omega
      · have htq' : ¬ (dq.t : Int) = (t : Int) := by omega
        clear hbr hB hqd hdq
        go_wp2
        go_quiet (fail)
        go_wp2
        go_roundw
        case rel => exact ⟨q + 1, by omega, by go_num, Below.drewN HBR.out _⟩
        case measure => simp [intOf]; omega
end
end Go.Proofs.YtefjhnhdagolhaaGreat
namespace Go.Proofs.YtefjhnhdagolhaaGreat
open Go.RowKit
open M (upd upd_same upd_other RSt RTh Dd PI Plc)
attribute [local go_sem ↓] Go.wp_at_zero Go.wp_at_succ
section
variable {σ : Type} {P : M.Plain σ} {tell : σ → List Int} {D : DL} {X : (Nat → Prop) → RSt → World → Prop} {A : PL} {S : Nat → Prop} {w0 : QW} {w w1 : World} {vd vu vs : Value} {Y Y' : RSt} {ds : List Dd} {us ss : List Int} {c : Nat} {fBe fSt fAn fDo fOr fTe fBo K t : Nat} {u : Nat → Option Nat}
theorem PS.deed (h : PS P X D A w0 K Y ds u c w) {j : Nat} {m : M.Mark} (hj : Y.order[j]? = some m) :
    ∃ (i : Nat) (d : Dd) (gd cd : Nat), ds[i]? = some d ∧ Plc Y.bs.flatten d.t d.s j ∧ w.cell? ⟨A.bP, 8, none⟩ = some (.slice (some ⟨gd, 0, none⟩) ds.length cd) ∧ (∀ f v, (ddc d)[f]? = some v → w.cell? ⟨gd, i * 12 + f, none⟩ = some v) ∧ ds.length ≤ 9223372036854775807 ∧
      Calls Tryz.prog 71 #[.pointer (some ⟨A.bP, 0, none⟩), .agg #[.int .i64 (m.b : Int), .int .i64 (m.t : Int), .int .i64 (m.s : Int)]] w fun e w' => e = .returned (.int .i64 (i : Int)) ∧ Below w.heap.size w w' := by
  obtain ⟨S, vd, vu, vs, hm, hp, -, -⟩ := h
  obtain ⟨h1, -⟩ := M.order_get hj
  obtain ⟨i, d, h2, h3, h4⟩ := hp.deed h1
  obtain ⟨gd, cd, rfl, hcs⟩ := hm.deed h2
  have hz : ds.length ≤ 9223372036854775807 := (owns_form hm.od).2
  refine ⟨i, d, gd, cd, h2, by rw [h3, h4]; exact h1, hm.row.cell_of rfl, hcs, hz, ?_⟩
  refine deed_w _ _ _ i d gd cd (hm.row.cell_of rfl) (fun j' d' h' => ?_) h2 h3 h4 (fun j' e h' q1 q2 => hp.uniq h' h2 (by rw [q1, h3]) (by rw [q2, h4])) hz
  obtain ⟨g', c', e', q⟩ := hm.deed h'
  injection e' with e1 _ _
  injection e1 with e1
  injection e1 with e1 _ _
  subst e1
  exact q
theorem mark_cells {base : Nat} {va : Value} (h : w.ownsRow base 81 3 va Y.order.length (markcs Y.order)) {j : Nat} {m : M.Mark} (hj : Y.order[j]? = some m) : ∃ g cp, va = .slice (some ⟨g, 0, none⟩) Y.order.length cp ∧ w.cell? ⟨g, j * 3, none⟩ = some (.int .i64 (m.b : Int)) ∧ w.cell? ⟨g, j * 3 + 1, none⟩ = some (.int .i64 (m.t : Int)) ∧ w.cell? ⟨g, j * 3 + 2, none⟩ = some (.int .i64 (m.s : Int)) := by
  obtain ⟨hl, e⟩ := List.getElem?_eq_some_iff.mp hj
  obtain ⟨a, b, d⟩ := markcs_get Y.order j hl
  rw [e] at a b d
  obtain ⟨g, cp, e1, q1⟩ := owns_get h a
  obtain ⟨g2, cp2, e2, q2⟩ := owns_get h b
  obtain ⟨g3, cp3, e3, q3⟩ := owns_get h d
  rw [e1] at e2 e3
  injection e2 with e2 _ _
  injection e2 with e2
  injection e2 with e2 _ _
  injection e3 with e3 _ _
  injection e3 with e3
  injection e3 with e3 _ _
  subst e2 e3
  exact ⟨g, cp, e1, q1, q2, q3⟩
set_option maxRecDepth 20000 in
set_option maxHeartbeats 4000000 in
theorem inTime_w (xo : XOk P tell D A.tE A.bN X fBe fSt fAn fDo fOr fTe fBo) (h : PS P X D A w0 K Y ds u c w) (hK : K ≤ 1000000000) :
    Calls Tryz.prog 36 #[.pointer (some ⟨A.bP, 0, none⟩)] w fun e w' => e = .returned (.bool true) ∧ Below w.heap.size w w' := by
  have HPS := hide h
  obtain ⟨S, vd, vu, vs, hpm, hpi, hlim, -⟩ := h
  have c0 : w.cell? ⟨A.bP, 0, none⟩ = some (.pointer (some ⟨A.bX, 0, none⟩)) := hpm.row.cell_of rfl
  have cx : w.cell? ⟨A.bX, 0, none⟩ = some (.iface A.tE (.pointer (some ⟨A.bN, 0, none⟩))) := hpm.obj.cell_of rfl
  have hm := xo.mOr
  have hc := xo.cOr
  have HO := hide (xo.or _ _ _ hpm.x (hlim.mono hK))
  have HPI := hide hpi
  have HX := hide xo
  clear hpm hpi hlim xo
  go_enter Tryz.func36, Tryz.ntmps36
  go_wp2_with fail
  refine HO.out.mono ?_
  rintro e w1 ⟨va, rfl, ho, hb1⟩
  obtain ⟨⟨a, cp, rfl⟩, hmx⟩ := owns_form ho
  have hml : Y.order.length ≤ 9223372036854775807 := hmx
  have HB := hide hb1
  have HOW := hide ho
  clear ho hb1 c0 cx hm hc hmx HO
  go_wp2
  go_loopw [4] (fun i w' => ∃ k : Nat, k ≤ Y.order.length ∧ i = .int .i64 (k : Int) ∧ Below w1.heap.size w1 w') (fun i _ => Y.order.length - (intOf i).toNat)
  case atStart => exact ⟨0, Nat.zero_le _, rfl, Below.refl _ _⟩
  case round =>
    obtain ⟨k, hk, rfl, hbr⟩ := hrel
    by_cases hlt : k < Y.order.length
    · have hlt' : (k : Int) < (Y.order.length : Int) := by omega
      have hk0 : (0 : Int) ≤ (k : Int) := by omega
      have hmk : Y.order[k]? = some Y.order[k] := List.getElem?_eq_getElem hlt
      generalize Y.order[k] = m at hmk
      obtain ⟨og, oc, e1, m0, m1, m2⟩ := mark_cells (owns_later HOW.out hbr) hmk
      injection e1 with e1 _ e2
      subst e1 e2
      have hB := Below.next HB.out hbr HB.out.size
      obtain ⟨i, d, gd, cd, hd, hpl, e8, hcs, hdl, hcl⟩ := (HPS.out.below HX.out hB).deed hmk
      have HCL := hide hcl
      have HCS := hide hcs
      have hfl : ((d.fl : Int) == 0) = false := by have := HPI.out.flipped (List.mem_of_getElem? hd) hpl; simp; omega
      have hil : i < ds.length := (List.getElem?_eq_some_iff.mp hd).1
      have hil' : (i : Int) < (ds.length : Int) := by omega
      have hi0 : (0 : Int) ≤ (i : Int) := by omega
      have hin : decide ((i : Int) < 0) = false := decide_eq_false (by omega)
      have HBR := hide hbr
      have HE8 := hide e8
      clear hcl hcs hB hbr e8
      go_wp2_with fail
      refine HCL.out.mono ?_
      rintro e w2 ⟨rfl, hb2⟩
      have e8 := cell_later hb2 HE8.out
      have k6 := cell_later hb2 (HCS.out 6 _ rfl)
      have HB2 := hide (Below.next HBR.out hb2 HBR.out.size)
      have HK5 := hide (cell_later hb2 (HCS.out 5 _ rfl))
      have HE := hide e8
      clear hb2 HCL m0 m1 m2
      go_wp2
      clear e8 k6
      go_loopw [6] (fun j w' => ∃ q : Nat, k + 1 ≤ q ∧ q ≤ Y.order.length ∧ j = .int .i64 (q : Int) ∧ Below w2.heap.size w2 w') (fun j _ => Y.order.length - (intOf j).toNat)
      case atStart => exact ⟨k + 1, Nat.le_refl _, by omega, by go_num, Below.refl _ _⟩
      case round =>
        rename_i w9
        obtain ⟨q, hq1, hq2, rfl, hbq⟩ := hrel
        by_cases hqt : q < Y.order.length
        · have hqt' : (q : Int) < (Y.order.length : Int) := by omega
          have hq0 : (0 : Int) ≤ (q : Int) := by omega
          have hmq : Y.order[q]? = some Y.order[q] := List.getElem?_eq_getElem hqt
          generalize Y.order[q] = n at hmq
          have hB3 := Below.next HB2.out hbq HB2.out.size
          obtain ⟨og2, oc2, e1, m0, m1, m2⟩ := mark_cells (owns_later HOW.out hB3) hmq
          injection e1 with e1 _ e2
          injection e1 with e1
          injection e1 with e1 _ _
          subst e1 e2
          have hB := Below.next HB.out hB3 HB.out.size
          obtain ⟨i2, d2, gd2, cd2, hd2, hpl2, f8, hcs2, -, hcl⟩ := (HPS.out.below HX.out hB).deed hmq
          have g8 := cell_later hbq HE.out
          rw [f8] at g8
          injection g8 with g8
          injection g8 with g8 _ g9
          injection g8 with g8
          injection g8 with g8 _ _
          subst g8 g9
          have HCL := hide hcl
          have hti := HPI.out.ti d (List.mem_of_getElem? hd) d2 (List.mem_of_getElem? hd2)
          have hil2 : i2 < ds.length := (List.getElem?_eq_some_iff.mp hd2).1
          have hil2' : (i2 : Int) < (ds.length : Int) := by omega
          have hi20 : (0 : Int) ≤ (i2 : Int) := by omega
          have hin2 : decide ((i2 : Int) < 0) = false := decide_eq_false (by omega)
          have HBQ := hide hbq
          have HF8 := hide f8
          have HCS2 := hide hcs2
          have HTI := hide (show 0 < d2.en → ¬ d2.en < d.bg from fun a b => by have := hti a b k q hpl hpl2; omega)
          clear hcl hcs2 hB hB3 hbq f8 hti
          go_wp2_with fail
          refine HCL.out.mono ?_
          rintro e w4 ⟨rfl, hb4⟩
          have e8 := cell_later hb4 HF8.out
          have k7 := cell_later hb4 (HCS2.out 7 _ rfl)
          have k5 := cell_later (Below.next HBQ.out hb4 HBQ.out.size) HK5.out
          have HB4 := hide (Below.next HBQ.out hb4 HBQ.out.size)
          clear hb4 HCL m0 m1 m2 HF8 HCS2
          by_cases hen : 0 < d2.en
          · have hen' : decide ((0 : Int) < (d2.en : Int)) = true := by simp; omega
            have hnl : decide ((d2.en : Int) < (d.bg : Int)) = false := by have := HTI.out hen; simp; omega
            go_wp2
            go_quiet (fail)
            go_wp2
            · exact absurd (by omega) (HTI.out hen)
            go_roundw
            case rel => exact ⟨q + 1, by omega, by omega, by go_num, Below.drewN HB4.out _⟩
            case measure => simp [intOf]; omega
          · have hen' : decide ((0 : Int) < (d2.en : Int)) = false := by simp; omega
            go_wp2
            go_quiet (fail)
            go_wp2
            go_roundw
            case rel => exact ⟨q + 1, by omega, by omega, by go_num, Below.drewN HB4.out _⟩
            case measure => simp [intOf]; omega
        · have hqt' : ¬ (q : Int) < (Y.order.length : Int) := by omega
          have HBQ := hide hbq
          clear hbq
          go_wp2
          go_roundw
          case rel => exact ⟨k + 1, by omega, by go_num, Below.next HB2.out HBQ.out HB2.out.size⟩
          case measure => simp [intOf]; omega
    · have hlt' : ¬ (k : Int) < (Y.order.length : Int) := by omega
      have HBR := hide hbr
      clear hbr
      go_wp2
      go_ret
      exact ⟨rfl, Below.next HB.out HBR.out HB.out.size⟩
end
end Go.Proofs.YtefjhnhdagolhaaGreat
namespace Go.Proofs.YtefjhnhdagolhaaGreat.M
section
variable {σ : Type} {P : Plain σ} {sz : σ → Nat} {n cap : Nat} {E : ESt σ} {Y : RSt} {t : Nat}
def Grows (sz : σ → Nat) (P : Plain σ) : Prop := sz P.first ≤ 2 ∧ ∀ s op, sz (P.apply s op).1 ≤ sz s + 2
theorem run_sz (h : Grows sz P) (ops : Nat → Nat → Op) : ∀ (l : List Nat) (r : Rp σ), sz (r.run P ops l).st ≤ sz r.st + 2 * l.length
  | [], _ => Nat.le_refl _
  | k :: l, r => by
    have h1 := run_sz h ops l (r.next P ops k)
    have h2 := h.2 r.st (ops k (r.c k))
    show sz ((r.next P ops k).run P ops l).st ≤ _
    have e : (r.next P ops k).st = (P.apply r.st (ops k (r.c k))).1 := rfl
    rw [e] at h1
    simp only [List.length_cons]
    omega
theorem replay_sz (h : Grows sz P) (ops : Nat → Nat → Op) (bs : List (List Nat)) : sz (replay P ops bs).st ≤ 2 + 2 * bs.flatten.length := by
  have h1 := run_sz h ops bs.flatten (Rp.new P)
  have h2 := h.1
  have e : sz (Rp.new P).st = sz P.first := rfl
  unfold replay
  omega
def Szs (sz : σ → Nat) (n : Nat) (E : ESt σ) (Y : RSt) : Prop :=
  ∀ t, t < n → (E.th t).phase = 8 → ∀ v, (E.th t).now = some v → sz v.st ≤ 2 + 2 * Y.bs.flatten.length + 2 * ((E.th t).past / 3)
theorem over_fl (n cap : Nat) (Y : RSt) (t : Nat) (x : RTh) : Y.bs.flatten.length ≤ (over n cap Y t x).1.bs.flatten.length := by
  unfold over
  split <;> (try split) <;> simp [RSt.set]
theorem rstep_fl (n cap : Nat) (Y : RSt) (t : Nat) : Y.bs.flatten.length ≤ (rstep n cap Y t).1.bs.flatten.length := by
  unfold rstep
  dsimp only
  split
  · exact Nat.le_refl _
  · exact over_fl _ _ _ _ _
theorem step_far (P : Plain σ) (n cap : Nat) (E : ESt σ) {t u : Nat} (h : u ≠ t) : (step P n cap E t).th u = E.th u := by
  unfold step
  dsimp only
  split <;> (try split) <;> first | exact upd_other _ _ h | rfl
theorem pass_ph {e : ETh σ} {s p : Nat} (h : (e.pass s p).phase = 8) (hp : p ≠ 8) : e.phase = 8 ∧ (e.pass s p).past = e.past + 1 ∧ (e.pass s p).now = e.now := by
  unfold ETh.pass at h ⊢
  split at h
  · exact absurd h hp
  · rename_i q
    rw [if_neg q]
    exact ⟨h, rfl, rfl⟩
theorem approach_ph (e : ETh σ) : e.approach.phase ≠ 8 := by
  unfold ETh.approach
  split
  · exact (by decide : (3 : Nat) ≠ 8)
  · exact (by decide : (4 : Nat) ≠ 8)
theorem fail_ph (e : ETh σ) (cap : Nat) : (e.fail cap).phase ≠ 8 := by
  unfold ETh.fail
  split
  · exact (by decide : (11 : Nat) ≠ 8)
  · exact approach_ph _
theorem Szs.step (hg : Grows sz P) (hi : Inv P n cap E Y) (h : Szs sz n E Y) (ht : t < n) : Szs sz n (M.step P n cap E t) (rstep n cap Y t).1 := by
  have hm := rstep_fl n cap Y t
  intro u hu
  by_cases q : u = t
  · subst q
    intro hp v hv
    have ho := h u hu
    by_cases p8 : (E.th u).phase = 8
    · have ho := ho p8
      unfold M.step at hp hv ⊢
      simp only [p8, upd_same] at hp hv ⊢
      obtain ⟨-, e1, e2⟩ := pass_ph hp (by decide)
      rw [e2] at hv
      rw [e1]
      have hc : ∀ e : ETh σ, ((if (E.th u).past + 1 = 3 * (E.th u).pend.length then e.close n else e).past = e.past) ∧ ∀ v, (if (E.th u).past + 1 = 3 * (E.th u).pend.length then e.close n else e).now = some v → ∃ v', e.now = some v' ∧ v'.st = v.st := by
        intro e
        split
        · refine ⟨rfl, fun v hv => ?_⟩
          cases hn : e.now with
          | none => simp [ETh.close, hn] at hv
          | some v' =>
            simp only [ETh.close, hn, Option.map_some, Option.some.injEq] at hv
            exact ⟨v', rfl, by rw [← hv]⟩
        · exact ⟨rfl, fun v hv => ⟨v, hv, rfl⟩⟩
      rw [(hc _).1]
      obtain ⟨v', hv', es⟩ := (hc _).2 v hv
      rw [← es]
      split at hv'
      · rename_i q2
        rw [if_pos q2]
        unfold ETh.apply at hv' ⊢
        cases hn : (E.th u).now with
        | none => simp [hn] at hv'
        | some v0 =>
          simp only [hn, Option.some.injEq] at hv' ⊢
          rw [← hv']
          have := ho v0 hn
          have := hg.2 v0.st (heardOp (upd (E.th u).heard ((E.th u).past % 3) (E.ann ((E.th u).pend.getD ((E.th u).past / 3) 0) ((E.th u).past % 3))))
          dsimp only
          omega
      · rename_i q2
        rw [if_neg q2]
        have := ho v' hv'
        dsimp only
        omega
    · by_cases p7 : (E.th u).phase = 7
      · obtain ⟨pb, nf, hN, -, T⟩ := hi
        have X := T u hu
        have hpt : (Y.th u).part = 7 := by
          by_cases c : (Y.th u).part = 11
          · have := X.p4 c; omega
          · have := X.p2 (by have := X.p1; omega); omega
        unfold M.step at hp hv ⊢
        simp only [p7, upd_same] at hp hv ⊢
        split at hp
        · rename_i q2
          rw [if_pos q2] at hv ⊢
          have hd := (X.d7 (.inr hpt) (by show _ = Y.bs.length; omega)).2.1
          have hv' : (E.th u).now = some v := hv
          rw [hd] at hv'
          have hv'' := Option.some.inj hv'
          rw [← hv'']
          have := replay_sz hg (view E Y pb nf).op Y.bs
          show sz (replay P (view E Y pb nf).op Y.bs).st ≤ _
          omega
        · exact absurd hp (fail_ph _ _)
      · exfalso
        unfold M.step at hp
        dsimp only at hp
        split at hp
        · simp only [upd_same] at hp; have := (pass_ph hp (by decide)).1; omega
        · simp only [upd_same] at hp; exact approach_ph _ hp
        · simp only [upd_same] at hp; have := (pass_ph hp (by decide)).1; omega
        · simp only [upd_same] at hp; exact absurd hp (by decide : (5 : Nat) ≠ 8)
        · simp only [upd_same] at hp
          have := (pass_ph hp (by decide)).1
          split at this <;> exact absurd this p8
        · simp only [upd_same] at hp; have := (pass_ph hp (by decide)).1; exact absurd this p8
        · omega
        · omega
        · split at hp
          · simp only [upd_same] at hp; have := (pass_ph hp (by decide)).1; omega
          · simp only [upd_same] at hp; have := (pass_ph hp (by decide)).1; omega
        · split at hp
          · simp only [upd_same] at hp; exact absurd hp (by decide : (11 : Nat) ≠ 8)
          · simp only [upd_same] at hp; exact fail_ph _ _ hp
        · simp only [upd_same] at hp; exact absurd hp (by decide : (12 : Nat) ≠ 8)
        · simp only [upd_same] at hp; exact absurd hp (by decide : (13 : Nat) ≠ 8)
        · simp only [upd_same] at hp; exact absurd hp (by decide : (0 : Nat) ≠ 8)
        · exact p8 hp
  · rw [step_far P n cap E q]
    intro hp v hv
    have := h u hu hp v hv
    omega
theorem Szs.begin (h : Szs sz n E Y) (o : Op) : Szs sz n (M.begin E t o) (rbegin Y t o) := by
  intro u hu
  by_cases q : u = t
  · subst q
    intro hp
    simp only [M.begin, upd_same] at hp
    exact absurd hp (by decide : (1 : Nat) ≠ 8)
  · have e : (M.begin E t o).th u = E.th u := upd_other _ _ q
    rw [e]
    exact h u hu
theorem szs_new (sz : σ → Nat) (P : Plain σ) (n : Nat) (f : Ver σ) : Szs sz n (E0 P f) Y0 := fun _ _ hp => absurd hp (by show (0 : Nat) ≠ 8; decide)
theorem Szs.bound (h : Szs sz n E Y) (ht : t < n) (hF : Y.bs.flatten.length ≤ 100000000000) (hp : (E.th t).past / 3 ≤ 64) (p8 : (E.th t).phase = 8) (v : Ver σ) (hv : (E.th t).now = some v) : sz v.st ≤ 1000000000000 := by
  have := h t ht p8 v hv
  omega
end
end Go.Proofs.YtefjhnhdagolhaaGreat.M
namespace Go.Proofs.YtefjhnhdagolhaaGreat
open Go.RowKit
attribute [local go_sem ↓] Go.wp_at_zero Go.wp_at_succ
set_option maxRecDepth 20000 in
set_option maxHeartbeats 1000000 in
theorem index_w (xs : List Int) (v : Value) (x : Int) (w : World) (hs : Sl w v (ints xs)) (hl : xs.length ≤ 1048576) :
    Calls Tryz.prog 243 #[v, .int .i64 x] w fun e w' => ∃ r : Int, e = .returned (.int .i64 r) ∧ (0 ≤ r ↔ x ∈ xs) ∧ w' = w := by
  obtain ⟨a, c, rfl, hca, hcm, hop⟩ := hs.open_ints
  have HS := hide hop
  clear hs hop
  go_enter Tryz.func243, Tryz.ntmps243
  go_wp2
  go_loopw [8] (fun i w' => ∃ k : Nat, k ≤ xs.length ∧ i = .int .i64 (k : Int) ∧ (∀ j, j < k → xs[j]? ≠ some x) ∧ w = w') (fun i _ => xs.length - (intOf i).toNat)
  case atStart => exact ⟨0, Nat.zero_le _, rfl, fun j hj => absurd hj (Nat.not_lt_zero _), rfl⟩
  case round =>
    obtain ⟨k, hk, rfl, hno, rfl⟩ := hrel
    have HNO := hide hno
    clear hno
    by_cases hlt : k < xs.length
    · have hlt' : (k : Int) < (xs.length : Int) := by omega
      obtain ⟨g, off, rfl, hcell⟩ := HS.out k hlt
      have hg : xs[k]? = some xs[k] := List.getElem?_eq_getElem hlt
      generalize xs[k] = y at hcell hg
      have HG := hide hg
      clear hg
      by_cases hxy : x = y
      · subst hxy
        go_wp2
        go_ret
        exact ⟨(k : Int), rfl, ⟨fun _ => List.mem_of_getElem? HG.out, fun _ => by omega⟩, rfl⟩
      · have hne : (x == y) = false := by simpa using hxy
        have HX := hide hxy
        clear hxy
        go_wp2
        go_roundw
        case rel =>
          refine ⟨k + 1, by omega, by go_num, fun j hj => ?_, by trivial⟩
          by_cases q : j = k
          · rw [q, HG.out]
            intro e
            injection e with e
            exact HX.out e.symm
          · exact HNO.out j (by omega)
        case measure => simp [intOf]; omega
    · have hlt' : ¬ (k : Int) < (xs.length : Int) := by omega
      go_wp2
      go_ret
      refine ⟨-1, rfl, ⟨fun q => absurd q (by decide), fun hm => ?_⟩, rfl⟩
      obtain ⟨j, hj, e⟩ := List.getElem_of_mem hm
      exact absurd (by rw [List.getElem?_eq_getElem hj, e]) (HNO.out j (by omega))
set_option maxHeartbeats 1000000 in
theorem contains_w (xs : List Int) (v : Value) (x : Int) (w : World) (hs : Sl w v (ints xs)) (hl : xs.length ≤ 1048576) :
    Calls Tryz.prog 229 #[v, .int .i64 x] w fun e w' => e = .returned (.bool (decide (x ∈ xs))) ∧ w' = w := by
  have HS := hide hs
  clear hs
  go_enter Tryz.func229, Tryz.ntmps229
  go_wp2_with fail
  refine (index_w xs v x w HS.out hl).mono ?_
  rintro e w1 ⟨r, rfl, hr, rfl⟩
  have HR := hide hr
  clear hr
  go_wp2_with fail
  go_ret
  refine ⟨ret_bool ?_, rfl⟩
  by_cases q : 0 ≤ r
  · simp [q, HR.out.1 q]
  · have : ¬ x ∈ xs := fun m => q (HR.out.2 m)
    simp [q, this]
end Go.Proofs.YtefjhnhdagolhaaGreat
namespace Go.Proofs.YtefjhnhdagolhaaGreat
open Go.RowKit
theorem step_copy_set {P : Program} {ops : Array Oper} {o : Oper} {a : Act} {w : World} {K : Act → World → Prop} {Q : Exit → Act → World → Prop} {E : Prop} (hgd : o.guard = none) (d s : Operand) (dT sT : TypeId)
    (ho : o.op = .call { callee := .builtin .copy, args := #[d, s], argTypes := #[dT, sT] }) (elem : TypeId) (hu : P.underlying dT = some (.slice elem)) (hsz : (P.info? elem).map (·.size) = some 1)
    (b off dLen dCap : Nat) (ad : Addr) (sLen sCap : Nat) (hd : a.eval d = .slice (some ⟨b, off, none⟩) dLen dCap) (hs : a.eval s = .slice (some ad) sLen sCap)
    (cs : List Value) (hn : cs.length = Nat.min sLen dLen) (hsrc : ∀ j v, cs[j]? = some v → w.cell? (ad.add j) = some v) (hc : ∀ j, j < cs.length → (w.cell? ⟨b, off + j, none⟩).isSome = true) (hf : ∀ j, j < cs.length → w.frozen? ⟨b, off + j, none⟩ = false) (h1 : ∀ v ∈ cs, v.oneCell' = true)
    (h : K (a.put o.dst (goInt cs.length)) (w.setCells b off cs)) : if Region.wanted o (yielded ops a.tmps) = true then Oper.wp P o a w K Q else E := by
  have hw : Region.wanted o (yielded ops a.tmps) = true := by simp [Region.wanted, hgd]
  rw [if_pos hw]
  have hrun := run_copy_cells (P := P) w dT sT o.type elem b off dLen dCap ad sLen sCap cs hu hsz hn hsrc hc hf h1
  unfold Oper.wp
  simp [execOp, ho, resolve, invoke, builtin, hd, hs, hrun, Result.andThen]
  exact h
theorem list_one {l : List Value} (h : l.length = 1) : ∃ a, l = [a] := by
  match l, h with
  | [a], _ => exact ⟨a, rfl⟩
end Go.Proofs.YtefjhnhdagolhaaGreat
