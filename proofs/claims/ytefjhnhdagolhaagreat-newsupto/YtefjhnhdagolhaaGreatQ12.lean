import Derived.Test.YtefjhnhdagolhaaGreatQ03
import Derived.Test.YtefjhnhdagolhaaGreatQ10
import Derived.Test.YtefjhnhdagolhaaGreatQ11
namespace Go.Proofs.YtefjhnhdagolhaaGreat.int
open Go.RowKit
attribute [local go_sem ↓] Go.wp_at_zero Go.wp_at_succ
theorem thAll_get (bS n : Nat) (most : Int) (gD gG : Nat → Nat) : ∀ (k t j : Nat), t < k → j < 28 → (thAll bS n most gD gG k)[t * 28 + j]? = (thNew bS (t : Int) most (gD t) (rwn n) (gG t) (tw n))[j]?
  | 0, t, j, h, _ => absurd h (by omega)
  | k + 1, t, j, h, hj => by
    have hl : ∀ k, (thAll bS n most gD gG k).length = k * 28 := fun k => by
      unfold thAll
      induction k with
      | zero => rfl
      | succ k ih => rw [List.range_succ, List.flatMap_append, List.length_append, ih]; simp [length_thNew]; omega
    have hs : thAll bS n most gD gG (k + 1) = thAll bS n most gD gG k ++ thNew bS (k : Int) most (gD k) (rwn n) (gG k) (tw n) := by
      unfold thAll; rw [List.range_succ, List.flatMap_append]; simp
    rw [hs]
    by_cases e : t = k
    · subst e
      rw [List.getElem?_append_right (by rw [hl]; omega), hl]
      congr 1; omega
    · have q : t + 1 ≤ k := by omega
      have q2 := Nat.mul_le_mul_right 28 q
      rw [List.getElem?_append_left (by rw [hl]; omega)]
      exact thAll_get bS n most gD gG k t j (by omega) hj
def EngRd (base n : Nat) (most : Int) (oT : TypeId) (ov : Value) (b : Nat) (w : World) : Prop :=
  ∃ (bS bTg bAn bP : Nat) (bW : Nat → Nat) (bB bE g cap : Nat) (gD gG : Nat → Nat), base ≤ b ∧ base ≤ g ∧ Row w b 219 [.pointer (some ⟨bS, 0, none⟩), .slice (some ⟨g, 0, none⟩) n cap, .int .i64 most] ∧ ShNew base bS bTg bAn bP n oT ov bW bB bE w ∧
      (∀ (t j : Nat) (v : Value), t < n → j < 28 → (thNew bS (t : Int) most (gD t) (rwn n) (gG t) (tw n))[j]? = some v → w.cell? ⟨g, t * 28 + j, none⟩ = some v)
theorem EngNew.reads {w0 : World} {n : Nat} {most : Int} {oT : TypeId} {ov : Value} {b : Nat} {w : World} (h : EngNew w0 n most oT ov b w) (hn : 1 ≤ n) : EngRd w0.heap.size n most oT ov b w := by
  obtain ⟨W1, bS, bTg, bAn, bP, bW, bB, bE, v, gD, gG, rfl, h2, h3, h4⟩ := h
  obtain ⟨hE, hO, -, -, hB⟩ := h4
  have hz := h3.size
  obtain ⟨hl, ⟨rfl, hn0⟩ | ⟨g, cap, cur, rfl, hgb, hg, hnc, hcm, hcs, htk⟩⟩ := hO
  · omega
  · refine ⟨bS, bTg, bAn, bP, bW, bB, bE, g, cap, gD, gG, hz, by omega, hE, h2.later hB, fun t j v ht hj hv => ?_⟩
    rw [cell_of_row w g _ cur _ _ hg]
    rw [← thAll_get bS n most gD gG n t j ht hj, ← htk, List.getElem?_take] at hv
    split at hv
    · simpa using hv
    · cases hv
theorem ShNew.keeps {base bS bTg bAn bP n : Nat} {oT : TypeId} {ov : Value} {bW : Nat → Nat} {bB bE : Nat} {w w' : World} (h : ShNew base bS bTg bAn bP n oT ov bW bB bE w) (hk : Keeps base w w') : ShNew base bS bTg bAn bP n oT ov bW bB bE w' := by
  obtain ⟨a1, a2, a3, a4, a5, a6, a7, a8, z1, z2, z3, z4, z5, z6, z7, z8, z9, z10⟩ := h
  obtain ⟨-, y1, y2⟩ := a5 0 (by omega)
  exact ⟨hk.row a1 (by omega), hk.row a2 z1, hk.row a3 z2, hk.row a4 z3, fun r hr => ⟨hk.row (a5 r hr).1 (by have := (a5 r hr).2.1; omega), (a5 r hr).2⟩, a6, hk.row a7 (by omega), hk.row a8 (by omega), z1, z2, z3, z4, z5, z6, z7, z8, z9, z10⟩
theorem EngRd.keeps {base n : Nat} {most : Int} {oT : TypeId} {ov : Value} {b : Nat} {w w' : World} (h : EngRd base n most oT ov b w) (hk : Keeps base w w') : EngRd base n most oT ov b w' := by
  obtain ⟨bS, bTg, bAn, bP, bW, bB, bE, g, cap, gD, gG, y1, y2, hR, hS, hT⟩ := h
  refine ⟨bS, bTg, bAn, bP, bW, bB, bE, g, cap, gD, gG, y1, y2, hk.row hR y1, hS.keeps hk, fun t j v ht hj hv => ?_⟩
  have hc := hT t j v ht hj hv
  rw [World.cell?_of_block (w := w) (hk g y2 (World.block_lt_of_cell? w ⟨g, _, none⟩ hc))]
  exact hc
set_option maxHeartbeats 400000 in
theorem busy_any (b o : Nat) (p : Int) (w : World) (h0 : w.cell? ⟨b, o + 3, none⟩ = some (.int .i64 p)) :
    Calls Tryz.prog 197 #[.pointer (some ⟨b, o, none⟩)] w fun e w' => e = .returned (.bool (p != 0)) ∧ w' = w := by
  go_enter Tryz.func197, Tryz.ntmps197
  go_wp2
  go_ret
  exact ⟨rfl, rfl⟩
set_option maxHeartbeats 400000 in
theorem has_any (b g n cap : Nat) (t : Int) (w : World) (h0 : w.cell? ⟨b, 1, none⟩ = some (.slice (some ⟨g, 0, none⟩) n cap)) (_hn : n ≤ 64) :
    Calls Tryz.prog 196 #[.pointer (some ⟨b, 0, none⟩), .int .i64 t] w fun e w' => e = .returned (.bool (decide (0 ≤ t) && decide (t < (n : Int)))) ∧ w' = w := by
  by_cases h1 : 0 ≤ t
  · rw [decide_eq_true h1, Bool.true_and]
    go_enter Tryz.func196, Tryz.ntmps196
    go_wp2
    go_ret
    exact ⟨rfl, rfl⟩
  · rw [decide_eq_false h1, Bool.false_and]
    have h1' : decide (0 ≤ t) = false := decide_eq_false h1
    go_enter Tryz.func196, Tryz.ntmps196
    go_wp2
    go_ret
    exact ⟨rfl, rfl⟩
set_option maxHeartbeats 1000000 in
theorem answer_out (base n : Nat) (most : Int) (oT : TypeId) (ov : Value) (b : Nat) (t : Int) (w : World) (hE : EngRd base n most oT ov b w) (_hn : 1 ≤ n) (h2 : n ≤ 64) (ht : t < 0 ∨ (n : Int) ≤ t) :
    Calls Tryz.prog 189 #[.pointer (some ⟨b, 0, none⟩), .int .i64 t] w fun e w' => e = .returned (.tuple #[.agg #[.int .i64 0, .int .i64 0], .int .i64 3]) ∧ Below w.heap.size w w' := by
  obtain ⟨bS, bTg, bAn, bP, bW, bB, bE, g, cap, gD, gG, -, -, hR, -, -⟩ := hE
  have hc := hR.cell_of (i := 1) rfl
  have hc' := fun ob => cell_new hc ob
  have HH := hide (fun W h => has_any b g n cap t W h h2)
  rw [show (decide (0 ≤ t) && decide (t < (n : Int))) = false from by simp; omega] at HH
  clear hR
  go_enter Tryz.func189, Tryz.ntmps189
  go_wp2_with fail
  refine (HH.out _ (hc' _)).mono ?_
  rintro e w1 ⟨rfl, rfl⟩
  go_wp2_with fail
  exact bodyPost_ret (v := .tuple #[.agg #[.int .i64 0, .int .i64 0], .int .i64 3]) (by simp [results, Tryz.results189, go_sem]) rfl ⟨rfl, (by repeat (first | exact Below.refl _ _ | assumption | refine Below.drewN ?_ _ | refine Below.alloc ?_ (by simp) _))⟩
set_option maxHeartbeats 1000000 in
theorem answer_new (base n : Nat) (most : Int) (oT : TypeId) (ov : Value) (b t : Nat) (w : World) (hE : EngRd base n most oT ov b w) (_hn : 1 ≤ n) (h2 : n ≤ 64) (ht : t < n) :
    Calls Tryz.prog 189 #[.pointer (some ⟨b, 0, none⟩), .int .i64 (t : Int)] w fun e w' => e = .returned (.tuple #[.agg #[.int .i64 0, .int .i64 0], .int .i64 5]) ∧ Below w.heap.size w w' := by
  obtain ⟨bS, bTg, bAn, bP, bW, bB, bE, g, cap, gD, gG, -, -, hR, -, hT⟩ := hE
  have hc := hR.cell_of (i := 1) rfl
  have hc' := fun ob => cell_new hc ob
  have hp := fun ob => cell_new (hT t 3 _ ht (by decide) rfl) ob
  have he := fun ob => cell_new (hT t 27 _ ht (by decide) rfl) ob
  have HH := hide (fun W h => has_any b g n cap (t : Int) W h h2)
  rw [show (decide (0 ≤ (t : Int)) && decide ((t : Int) < (n : Int))) = true from by simp; omega] at HH
  have HP := hide hp
  have hx1 : (0 : Int) ≤ (t : Int) := by omega
  have hx2 : (t : Int) < (n : Int) := by omega
  clear hR hT hp
  go_enter Tryz.func189, Tryz.ntmps189
  go_wp2_with fail
  refine (HH.out _ (hc' _)).mono ?_
  rintro e w1 ⟨rfl, rfl⟩
  go_wp2_with fail
  refine (busy_any _ _ 0 _ (HP.out _)).mono ?_
  rintro e w1 ⟨rfl, rfl⟩
  go_wp2_with fail
  exact bodyPost_ret (v := .tuple #[.agg #[.int .i64 0, .int .i64 0], .int .i64 5]) (by simp [results, Tryz.results189, go_sem]) rfl ⟨rfl, (by repeat (first | exact Below.refl _ _ | assumption | refine Below.drewN ?_ _ | refine Below.alloc ?_ (by simp) _))⟩
end Go.Proofs.YtefjhnhdagolhaaGreat.int
namespace Go.Proofs.YtefjhnhdagolhaaGreat.int
open Go.RowKit
attribute [local go_sem ↓] Go.wp_at_zero Go.wp_at_succ
def verNew (bB : Nat) : List Value := [.int .i64 0] ++ [.pointer (some ⟨bB, 0, none⟩)]
set_option maxRecDepth 20000 in
set_option maxHeartbeats 2000000 in
theorem versionSince_new (base bS bTg bAn bP n : Nat) (oT : TypeId) (ov : Value) (bW : Nat → Nat) (bB bE : Nat) (w : World) (hS : ShNew base bS bTg bAn bP n oT ov bW bB bE w) :
    Calls Tryz.prog 217 #[.pointer (some ⟨bS, 0, none⟩), .int .i64 0] w fun e w' => e = .returned (.agg (verNew bB).toArray) ∧ Below w.heap.size w w' := by
  have c4 : w.cell? ⟨bS, 4, none⟩ = some (.slice (some ⟨bP, 0, none⟩) (2 * n + 1) (2 * n + 1)) := hS.1.cell_of rfl
  have cP : w.cell? ⟨bP, 1, none⟩ = some (.pointer (some ⟨bE, 0, none⟩)) := hS.2.2.2.1.cell_of (by rw [List.getElem?_set_self (by rw [length_poolAt]; omega)])
  have hRE := hS.2.2.2.2.2.2.2.1
  have cB : w.cell? ⟨bB, 0, none⟩ = some (.int .i64 0) := hS.2.2.2.2.2.2.1.cell_of rfl
  have hpos : (0 : Int) < 2 * (n : Int) + 1 := by omega
  have HRE := hide hRE
  have HC4 := hide c4
  have HCP := hide cP
  have HCB := hide cB
  clear hRE hS
  go_enter Tryz.func217, Tryz.ntmps217
  go_wp2
  generalize hW0 : World.alloc w _ = W0
  have hb0 : Below w.heap.size w W0 := by rw [← hW0]; exact below_alloc w _
  have d4 : W0.cell? ⟨bS, 4, none⟩ = some (.slice (some ⟨bP, 0, none⟩) (2 * n + 1) (2 * n + 1)) := cell_later hb0 HC4.out
  have dP : W0.cell? ⟨bP, 1, none⟩ = some (.pointer (some ⟨bE, 0, none⟩)) := cell_later hb0 HCP.out
  have dR : Row W0 bE 227 (edNew bB) := HRE.out.old hb0
  have dB : W0.cell? ⟨bB, 0, none⟩ = some (.int .i64 0) := cell_later hb0 HCB.out
  have HZ0 := hide (show Row W0 w.heap.size 225 ([.int .i64 0] ++ [.pointer none]) by rw [← hW0]; exact Row.new' rfl)
  have HDR := hide dR
  have HB0 := hide hb0
  clear hW0 dR hb0 c4 cP cB
  have HDP := hide dP
  clear dP
  go_quiet ((first | (go_at_call 223; exact Calls.quiet_of_same (pubRecord 0 _ (by decide) (by decide))) | (go_at_call 238; exact Calls.quiet_of_same (atomLoad bP 1 bE (edNew bB) _ HDP.out (HDR.out.drewN _) rfl))))
  generalize hW5 : World.drewN W0 nq = W5
  have HR5 := hide (show Row W5 bE 227 (edNew bB) by rw [← hW5]; exact HDR.out)
  have k1 : W5.cell? ⟨bE, 1, none⟩ = some (.pointer (some ⟨bB, 0, none⟩)) := HR5.out.cell_of rfl
  have k2 : W5.cell? ⟨bB, 0, none⟩ = some (.int .i64 0) := by rw [← hW5]; exact dB
  have HZ5 := hide (show Row W5 w.heap.size 225 ([.int .i64 0] ++ [.pointer none]) by rw [← hW5]; exact HZ0.out)
  have HB5 := hide (show Below w.heap.size w W5 by rw [← hW5]; exact Below.drewN HB0.out _)
  clear hW5 d4 dB
  go_wp2
  go_quiet ((go_at_call 226; exact Calls.quiet_of_same (pubStamp 0 _ (by decide) (by decide))))
  generalize hW6 : World.drewN W5 nq = W6
  have hE6 : Row W6 bE 227 (edNew bB) := by rw [← hW6]; exact HR5.out
  have hZ6 : Row W6 w.heap.size 225 ([.int .i64 0] ++ [.pointer none]) := by rw [← hW6]; exact HZ5.out
  have y0 : W6.cell? ⟨bE, 0, none⟩ = some _ := hE6.cell_of rfl
  have y1 : W6.cell? ⟨bE, 1, none⟩ = some _ := hE6.cell_of rfl
  have z0 : W6.cell? ⟨w.heap.size, 0, none⟩ = some _ := hZ6.cell_of rfl
  have z1 : W6.cell? ⟨w.heap.size, 1, none⟩ = some _ := hZ6.cell_of rfl
  have zf := hZ6.frozen
  have HB6 := hide (show Below w.heap.size w W6 by rw [← hW6]; exact Below.drewN HB5.out _)
  clear hW6 k1 k2 hE6 hZ6
  go_wp2
  refine bodyPost_ret (v := .agg (verNew bB).toArray) (by simp [results, Tryz.results217, go_sem, *]; rfl) rfl ⟨rfl, ?_⟩
  repeat (refine Below.setCell ?_ (by simp) _)
  exact HB6.out
set_option maxHeartbeats 1000000 in
theorem newest_new (base bS bTg bAn bP n : Nat) (oT : TypeId) (ov : Value) (bW : Nat → Nat) (bB bE : Nat) (w : World) (hS : ShNew base bS bTg bAn bP n oT ov bW bB bE w) :
    Calls Tryz.prog 202 #[.pointer (some ⟨bS, 0, none⟩)] w fun e w' => e = .returned (.agg (verNew bB).toArray) ∧ Below w.heap.size w w' := by
  have HS := hide hS
  clear hS
  go_enter Tryz.func202, Tryz.ntmps202
  go_wp2_with fail
  refine (pubRead bS 5 0 _ (cell_new (HS.out.1.cell_of rfl) _)).mono ?_
  rintro e w1 ⟨rfl, rfl⟩
  go_wp2_with fail
  refine (versionSince_new base bS bTg bAn bP n oT ov bW bB bE _ (HS.out.later (below_alloc _ _))).mono ?_
  rintro e w2 ⟨rfl, hb2⟩
  have hZ : Row w2 w.heap.size 225 ([.int .i64 0] ++ [.pointer none]) := (Row.new' rfl).old hb2
  have HB := hide (Below.next (below_alloc w _) hb2 (by simp))
  have z0 : w2.cell? ⟨w.heap.size, 0, none⟩ = some _ := hZ.cell_of rfl
  have z1 : w2.cell? ⟨w.heap.size, 1, none⟩ = some _ := hZ.cell_of rfl
  have zf := hZ.frozen
  clear hZ hb2
  rw [show verNew bB = [.int .i64 0] ++ [.pointer (some ⟨bB, 0, none⟩)] from rfl]
  go_wp2
  refine bodyPost_ret (v := .agg (verNew bB).toArray) (by simp [results, Tryz.results202, go_sem, *]; rfl) rfl ⟨rfl, ?_⟩
  repeat (refine Below.setCell ?_ (by simp) _)
  exact HB.out
end Go.Proofs.YtefjhnhdagolhaaGreat.int
namespace Go.Proofs.YtefjhnhdagolhaaGreat.int
open Go.RowKit
attribute [local go_sem ↓] Go.wp_at_zero Go.wp_at_succ
theorem info_pbatch : (Tryz.prog.info? 223).map (fun i => (i.zero, i.size, i.bytes)) = some (some (.pointer none), 1, 8) := by kernel_rfl
def ptrOf : Value → Nat | .pointer none => 0 | _ => 1
set_option maxRecDepth 20000 in
set_option maxHeartbeats 2000000 in
theorem order_new (base bS bTg bAn bP n : Nat) (oT : TypeId) (ov : Value) (bW : Nat → Nat) (bB bE : Nat) (w : World) (hS : ShNew base bS bTg bAn bP n oT ov bW bB bE w) (_hn : n ≤ 64) :
    Calls Tryz.prog 201 #[.pointer (some ⟨bS, 0, none⟩), .pointer (some ⟨bB, 0, none⟩)] w fun e w' => e = .returned (.slice none 0 0) ∧ Below w.heap.size w w' := by
  have c0 : w.cell? ⟨bS, 0, none⟩ = some (.int .i64 (n : Int)) := hS.1.cell_of rfl
  have hRB := hS.2.2.2.2.2.2.1
  obtain ⟨pi, hpi, hpz⟩ := Option.map_eq_some_iff.1 info_pbatch
  simp only [Prod.mk.injEq] at hpz
  obtain ⟨hp1, hp2, hp3⟩ := hpz
  have HPI := hide hpi
  have HP1 := hide hp1
  have HP2 := hide hp2
  have HP3 := hide hp3
  clear hpi hp1 hp2 hp3
  have hmk := run_make_zeros (P := Tryz.prog) 22 3 (.int .i64 0) 8 Tryz.underlying22 info_int rfl (n : Int) n rfl (by omega) (by omega)
  have HB := hide hRB
  have HC0 := hide c0
  clear hRB hS c0
  go_enter Tryz.func201, Tryz.ntmps201
  go_wp2
  go_loopw [5, 6] (fun s b w' => Below w.heap.size w w' ∧ ((s = .slice none 0 0 ∧ b = .pointer (some ⟨bB, 0, none⟩)) ∨ (b = .pointer none ∧ ∃ g cap, s = .slice (some ⟨g, 0, none⟩) 1 cap ∧ w'.cell? ⟨g, 0, none⟩ = some (.pointer (some ⟨bB, 0, none⟩))))) (fun _ b _ => ptrOf b)
  case atStart => exact ⟨Below.refl _ _, .inl ⟨rfl, rfl⟩⟩
  case round =>
    obtain ⟨hb, ⟨rfl, rfl⟩ | ⟨rfl, g, cap, rfl, hg⟩⟩ := hrel
    · have hbe : wr.cell? ⟨bB, 2, none⟩ = some (.pointer none) := (HB.out.old hb).cell_of rfl
      have HBR := hide hb
      have HBE := hide hbe
      clear hb hbe
      go_wp2_with (at_builtin; refine wpList_append_lies _ rfl (.tmp 19) (.tmp 21) 384 rfl w.heap.size 223 pi (.pointer none) 1 8 Tryz.underlying384 HPI.out HP1.out HP2.out HP3.out rfl (by decide) (.slice none 0 0) 0 [] rfl (World.ownsRow_nil _ _ _ _) ⟨wr.heap.size, 0, none⟩ 1 1 [.pointer (some ⟨bB, 0, none⟩)] rfl rfl ?_ (by simp [Value.oneCell']) (by decide) (by decide) (by decide) ?_ (wr.heap.size + 1) (by simp) ?_)
      · exact World.news_of_block (Row.new wr _ _)
      · have := HBR.out.size; simp; omega
      · intro g cap w4 hown hgr hat hlt4
        have hb4 : Below wr.heap.size wr w4 := (below_alloc wr _).grown hgr (by simp) (fun q hq => by simp [Value.ownBlock] at hq)
        have hbe : w4.cell? ⟨bB, 2, none⟩ = some (.pointer none) := cell_later hb4 HBE.out
        have HG := hide (show w4.cell? ⟨g, 0, none⟩ = some (.pointer (some ⟨bB, 0, none⟩)) from by
          have := hown.cells (g := g) rfl 0 _ rfl
          rwa [addr_add] at this)
        have HB4 := hide (Below.next HBR.out hb4 HBR.out.size)
        clear hown hgr hat hb4
        go_wp2
        go_roundw
        case rel => exact ⟨HB4.out, .inr ⟨rfl, g, cap, rfl, HG.out⟩⟩
        case measure => simp [ptrOf]
    · have HBR := hide hb
      have HG := hide hg
      have c0 : wr.cell? ⟨bS, 0, none⟩ = some (.int .i64 (n : Int)) := cell_later hb HC0.out
      clear hb hg
      go_wp2
      generalize hW2 : World.alloc wr _ = W2
      have hb2 : Below wr.heap.size wr W2 := by rw [← hW2]; exact below_alloc wr _
      have g0 : W2.cell? ⟨g, 0, none⟩ = some (.pointer (some ⟨bB, 0, none⟩)) := cell_later hb2 HG.out
      have HB2 := hide (Below.next HBR.out hb2 HBR.out.size)
      have b1 : W2.cell? ⟨bB, 1, none⟩ = some (.slice none 0 0) := (HB.out.old HB2.out).cell_of rfl
      clear hW2 hb2 c0
      go_loopw [7, 9] (fun s i w' => s = .slice none 0 0 ∧ w' = W2 ∧ ∃ k : Int, i = .int .i64 k ∧ (k = 0 ∨ k = -1)) (fun _ i _ => (intOf i + 1).toNat)
      case atStart => exact ⟨rfl, rfl, 0, rfl, .inl rfl⟩
      case round =>
        rename_i w9
        obtain ⟨rfl, rfl, k, rfl, hk⟩ := hrel
        rcases hk with rfl | rfl
        · go_wp2
          go_loopw [7, 44] (fun s i w' => s = .slice none 0 0 ∧ i = .int .i64 0 ∧ Hid (w' = wr)) (fun _ _ _ => 0)
          case atStart => exact ⟨rfl, rfl, rfl⟩
          case round =>
            obtain ⟨rfl, rfl, hw⟩ := hrel
            have hw' := hw.out
            subst hw'
            go_wp2
            go_roundw
            case rel => first | exact ⟨rfl, rfl, -1, rfl, .inr rfl⟩ | exact ⟨rfl, trivial, -1, rfl, .inr rfl⟩
            case measure => simp [intOf]
        · go_wp2
          go_ret
          exact ⟨rfl, HB2.out⟩
set_option maxRecDepth 20000 in
set_option maxHeartbeats 1000000 in
theorem engOrder_new (base n : Nat) (most : Int) (oT : TypeId) (ov : Value) (b : Nat) (w : World) (hE : EngRd base n most oT ov b w) (_hn : 1 ≤ n) (h2 : n ≤ 64) :
    Calls Tryz.prog 193 #[.pointer (some ⟨b, 0, none⟩)] w fun e w' => e = .returned (.slice none 0 0) ∧ Below w.heap.size w w' := by
  obtain ⟨bS, bTg, bAn, bP, bW, bB, bE, g, cap, gD, gG, -, -, hR, hS, -⟩ := hE
  have c0 : w.cell? ⟨b, 0, none⟩ = some (.pointer (some ⟨bS, 0, none⟩)) := hR.cell_of rfl
  have HS := hide hS
  have hfl : ∀ W, (Instr.field 225 (.agg #[.int .i64 0, .pointer (some ⟨bB, 0, none⟩)]) 1).run Tryz.prog W = .ok (.pointer (some ⟨bB, 0, none⟩)) W := fun _ => by kernel_rfl
  clear hR hS
  go_enter Tryz.func193, Tryz.ntmps193
  go_wp2
  refine rg0 (S := (fun w' => w'.cell? ⟨b, 0, none⟩ = some (.pointer (some ⟨bS, 0, none⟩)) ∧ Below w.heap.size w w')) 12 rfl (by kernel_rfl) ?_ (fun hHeld => ?_)
  · exact ⟨c0, Below.drew (Below.refl _ _)⟩
  iterate 8 (refine tk 11 (by rfl) (by kernel_rfl) (by exact fun _ _ _ h => h) (.inl ⟨by rfl, fun w hS => by (try dsimp only at hS); go_simp; (try with_reducible rfl)⟩) (by assumption) ?_; try go_frame)
  refine rd1 8 (by rfl) (by kernel_rfl) (fun K hK => ?_)
  go_simp
  refine (newest_new _ bS bTg bAn bP n oT ov bW bB bE _ (HS.out.later hHeld.2)).mono ?_
  rintro e w2 ⟨rfl, hb2⟩
  rw [show verNew bB = [.int .i64 0] ++ [.pointer (some ⟨bB, 0, none⟩)] from rfl]
  go_wp2_with fail
  refine hK.out _ _ ?_ (fun hHeld => ?_)
  · exact ⟨cell_later hb2 hHeld.1, Below.next hHeld.2 hb2 hHeld.2.size⟩
  clear hK K
  (try go_frame)
  iterate 1 (refine tk 11 (by rfl) (by kernel_rfl) (by exact fun _ _ _ h => h) (.inl ⟨by rfl, fun w hS => by (try dsimp only at hS); go_simp; (try with_reducible rfl)⟩) (by assumption) ?_; try go_frame)
  refine rd1 10 (by rfl) (by kernel_rfl) (fun K hK => ?_)
  go_simp
  refine (order_new _ bS bTg bAn bP n oT ov bW bB bE _ (HS.out.later hHeld.2) h2).mono ?_
  rintro e w3 ⟨rfl, hb3⟩
  go_wp2_with fail
  refine hK.out _ _ ?_ (fun hHeld => ?_)
  · exact ⟨cell_later hb3 hHeld.1, Below.next hHeld.2 hb3 hHeld.2.size⟩
  clear hK K
  (try go_frame)
  iterate 1 (refine tk 11 (by rfl) (by kernel_rfl) (by exact fun _ _ _ h => h) (.inl ⟨by rfl, fun w hS => by (try dsimp only at hS); go_simp; (try with_reducible rfl)⟩) (by assumption) ?_; try go_frame)
  refine wpAnyH_done (by kernel_rfl) ?_ _
  (try go_wp2_with fail)
  go_ret
  exact ⟨rfl, hHeld.2⟩
set_option maxRecDepth 20000 in
set_option maxHeartbeats 1000000 in
theorem engBound_new (base n : Nat) (most : Int) (oT : TypeId) (ov : Value) (b : Nat) (w : World) (hE : EngRd base n most oT ov b w) (_hn : 1 ≤ n) (h2 : n ≤ 64) (h3 : 0 ≤ most) (h4 : most ≤ 64) :
    Calls Tryz.prog 191 #[.pointer (some ⟨b, 0, none⟩)] w fun e w' => e = .returned (.int .i64 (4 + 2 * (most + 3 + 2 * (((n : Int) + 15) / 16 + 2 * (n : Int) + 1) + ((n : Int) + 15) / 16 + 3 * (n : Int)) + 3)) ∧ Below w.heap.size w w' := by
  obtain ⟨bS, bTg, bAn, bP, bW, bB, bE, g, cap, gD, gG, -, -, hR, hS, -⟩ := hE
  have c0 : w.cell? ⟨b, 0, none⟩ = some (.pointer (some ⟨bS, 0, none⟩)) := hR.cell_of rfl
  have c2 : w.cell? ⟨b, 2, none⟩ = some (.int .i64 most) := hR.cell_of rfl
  have cs : w.cell? ⟨bS, 0, none⟩ = some (.int .i64 (n : Int)) := hS.1.cell_of rfl
  clear hR hS
  go_enter Tryz.func191, Tryz.ntmps191
  go_wp2
  generalize hW0 : World.alloc w _ = W0
  have hb0 : Below w.heap.size w W0 := by rw [← hW0]; exact below_alloc w _
  have d2 : W0.cell? ⟨b, 2, none⟩ = some (.int .i64 most) := cell_later hb0 c2
  have dl : W0.cell? ⟨w.heap.size, 0, none⟩ = some (.int .i64 (n : Int)) := by rw [← hW0]; exact (Row.new w [_] 287).cell_of rfl
  have hw1 : IntKind.i64.wrap (most + 3) = most + 3 := wrapi _ (by omega) (by omega)
  have hw2 : IntKind.i64.wrap (3 * (n : Int)) = 3 * (n : Int) := wrapi _ (by omega) (by omega)
  clear hW0 c0 c2 cs
  refine rg0 (S := (fun w' => w'.cell? ⟨b, 2, none⟩ = some (.int .i64 most) ∧ w'.cell? ⟨w.heap.size, 0, none⟩ = some (.int .i64 (n : Int)) ∧ Below w.heap.size w w')) 17 rfl (by kernel_rfl) ?_ (fun hHeld => ?_)
  · exact ⟨d2, dl, hb0.drew⟩
  iterate 6 (refine tk 16 (by rfl) (by kernel_rfl) (by exact fun _ _ _ h => h) (.inl ⟨by rfl, fun w hS => by (try dsimp only at hS); go_simp; (try with_reducible rfl)⟩) (by assumption) ?_; try go_frame)
  iterate 1 (refine tk 19 (by rfl) (by kernel_rfl) (by exact fun _ _ _ h => h) (.inl ⟨by rfl, fun w hS => by (try dsimp only at hS); go_simp; (try with_reducible rfl)⟩) (by assumption) ?_; try go_frame)
  iterate 3 (refine tk 21 (by rfl) (by kernel_rfl) (by exact fun _ _ _ h => h) (.inl ⟨by rfl, fun w hS => by (try dsimp only at hS); go_simp; (try with_reducible rfl)⟩) (by assumption) ?_; try go_frame)
  refine rd1 6 (by rfl) (by kernel_rfl) (fun K hK => ?_)
  go_simp
  refine (parts_any (n : Int) _ (by omega) (by omega)).mono ?_
  rintro e w2 ⟨rfl, hb2⟩
  go_wp2_with fail
  refine hK.out _ _ ?_ (fun hHeld => ?_)
  · exact ⟨cell_later hb2 hHeld.1, cell_later hb2 hHeld.2.1, Below.next hHeld.2.2 hb2 hHeld.2.2.size⟩
  clear hK K
  (try go_frame)
  iterate 2 (refine tk 12 (by rfl) (by kernel_rfl) (by exact fun _ _ _ h => h) (.inl ⟨by rfl, fun w hS => by (try dsimp only at hS); go_simp; (try with_reducible rfl)⟩) (by assumption) ?_; try go_frame)
  refine rd1 10 (by rfl) (by kernel_rfl) (fun K hK => ?_)
  go_simp
  refine (toggleWords_any (n : Int) _ (by omega) (by omega)).mono ?_
  rintro e w3 ⟨rfl, hb3⟩
  go_wp2_with fail
  refine hK.out _ _ ?_ (fun hHeld => ?_)
  · exact ⟨cell_later hb3 hHeld.1, cell_later hb3 hHeld.2.1, Below.next hHeld.2.2 hb3 hHeld.2.2.size⟩
  clear hK K
  (try go_frame)
  iterate 1 (refine tk 13 (by rfl) (by kernel_rfl) (by exact fun _ _ _ h => h) (.inl ⟨by rfl, fun w hS => by (try dsimp only at hS); go_simp; (try with_reducible rfl)⟩) (by assumption) ?_; try go_frame)
  iterate 2 (refine tk 16 (by rfl) (by kernel_rfl) (by exact fun _ _ _ h => h) (.inl ⟨by rfl, fun w hS => by (try dsimp only at hS); go_simp; (try with_reducible rfl)⟩) (by assumption) ?_; try go_frame)
  refine wpAnyH_done (by kernel_rfl) ?_ _
  (try go_wp2_with fail)
  go_ret
  exact ⟨rfl, hHeld.2.2⟩
end Go.Proofs.YtefjhnhdagolhaaGreat.int
namespace Go.Proofs.YtefjhnhdagolhaaGreat.int
open Go.RowKit
attribute [local go_sem ↓] Go.wp_at_zero Go.wp_at_succ
set_option maxRecDepth 20000 in
set_option maxHeartbeats 1000000 in
theorem engState_new (base n : Nat) (most : Int) (oT : TypeId) (ov : Value) (fT : Nat) (rv : Value) (xs : List Int) (hm : ∀ w, (method 553 oT ov "Tell").run Tryz.prog w = .ok (fT, rv) w) (hcf : ∀ w, (callFunc fT #[rv, (.int .i64 0)]).run Tryz.prog w = .ok (.enter fT #[rv, (.int .i64 0)]) w)
    (hF : ∀ w, Calls Tryz.prog fT #[rv, (.int .i64 0)] w fun e w' => ∃ v, e = .returned v ∧ w'.ownsRow w.heap.size 3 1 v xs.length (ints xs) ∧ Below w.heap.size w w')
    (b : Nat) (w : World) (hE : EngRd base n most oT ov b w) (_hn : 1 ≤ n) (_h2 : n ≤ 64) :
    Calls Tryz.prog 194 #[.pointer (some ⟨b, 0, none⟩)] w fun e w' => ∃ v, e = .returned v ∧ w'.ownsRow w.heap.size 3 1 v xs.length (ints xs) ∧ Below w.heap.size w w' := by
  obtain ⟨bS, bTg, bAn, bP, bW, bB, bE, g, cap, gD, gG, -, -, hR, hS, -⟩ := hE
  have c0 : w.cell? ⟨b, 0, none⟩ = some (.pointer (some ⟨bS, 0, none⟩)) := hR.cell_of rfl
  have c1 : w.cell? ⟨bS, 1, none⟩ = some (.iface oT ov) := hS.1.cell_of rfl
  have HS := hide hS
  have HF := hide hF
  have hfl : ∀ W, (Instr.field 225 (.agg #[.int .i64 0, .pointer (some ⟨bB, 0, none⟩)]) 0).run Tryz.prog W = .ok (.int .i64 0) W := fun _ => by kernel_rfl
  clear hR hS hF
  go_enter Tryz.func194, Tryz.ntmps194
  go_wp2
  refine rg0 (S := (fun w' => w'.cell? ⟨b, 0, none⟩ = some (.pointer (some ⟨bS, 0, none⟩)) ∧ w'.cell? ⟨bS, 1, none⟩ = some (.iface oT ov) ∧ Below w.heap.size w w')) 17 rfl (by kernel_rfl) ?_ (fun hHeld => ?_)
  · exact ⟨c0, c1, Below.drew (Below.refl _ _)⟩
  iterate 11 (refine tk 16 (by rfl) (by kernel_rfl) (by exact fun _ _ _ h => h) (.inl ⟨by rfl, fun w hS => by (try dsimp only at hS); go_simp; (try with_reducible rfl)⟩) (by assumption) ?_; try go_frame)
  iterate 2 (refine tk 18 (by rfl) (by kernel_rfl) (by exact fun _ _ _ h => h) (.inl ⟨by rfl, fun w hS => by (try dsimp only at hS); go_simp; (try with_reducible rfl)⟩) (by assumption) ?_; try go_frame)
  refine rd1 11 (by rfl) (by kernel_rfl) (fun K hK => ?_)
  go_simp
  refine (newest_new _ bS bTg bAn bP n oT ov bW bB bE _ (HS.out.later hHeld.2.2)).mono ?_
  rintro e w2 ⟨rfl, hb2⟩
  rw [show verNew bB = [.int .i64 0] ++ [.pointer (some ⟨bB, 0, none⟩)] from rfl]
  go_wp2_with fail
  refine hK.out _ _ ?_ (fun hHeld => ?_)
  · exact ⟨cell_later hb2 hHeld.1, cell_later hb2 hHeld.2.1, Below.next hHeld.2.2 hb2 hHeld.2.2.size⟩
  clear hK K
  (try go_frame)
  iterate 1 (refine tk 14 (by rfl) (by kernel_rfl) (by exact fun _ _ _ h => h) (.inl ⟨by rfl, fun w hS => by (try dsimp only at hS); go_simp; (try with_reducible rfl)⟩) (by assumption) ?_; try go_frame)
  refine rd1 15 (by rfl) (by kernel_rfl) (fun K hK => ?_)
  go_simp
  refine (HF.out _).mono ?_
  rintro e w3 ⟨v, rfl, ho3, hb3⟩
  have HO3 := hide (owns_base ho3 hHeld.2.2.size)
  clear ho3
  go_wp2_with fail
  refine hK.out _ _ ?_ (fun hHeld => ?_)
  · exact ⟨cell_later hb3 hHeld.1, cell_later hb3 hHeld.2.1, Below.next hHeld.2.2 hb3 hHeld.2.2.size⟩
  clear hK K
  (try go_frame)
  iterate 1 (refine tk 16 (by rfl) (by kernel_rfl) (by exact fun _ _ _ h => h) (.inl ⟨by rfl, fun w hS => by (try dsimp only at hS); go_simp; (try with_reducible rfl)⟩) (by assumption) ?_; try go_frame)
  refine wpAnyH_done (by kernel_rfl) ?_ _
  (try go_wp2_with fail)
  go_ret
  exact ⟨v, rfl, HO3.out, hHeld.2.2⟩
end Go.Proofs.YtefjhnhdagolhaaGreat.int
namespace Go.Proofs.YtefjhnhdagolhaaGreat.int
open Go.RowKit
theorem eng_new (base n : Nat) (most : Int) (oT : TypeId) (ov : Value) (fT : Nat) (rv : Value) (xs : List Int) (hm : ∀ w, (method 553 oT ov "Tell").run Tryz.prog w = .ok (fT, rv) w) (hcf : ∀ w, (callFunc fT #[rv, (.int .i64 0)]).run Tryz.prog w = .ok (.enter fT #[rv, (.int .i64 0)]) w)
    (hF : ∀ w, Calls Tryz.prog fT #[rv, (.int .i64 0)] w fun e w' => ∃ v, e = .returned v ∧ w'.ownsRow w.heap.size 3 1 v xs.length (ints xs) ∧ Below w.heap.size w w')
    (b : Nat) (w : World) (hE : EngRd base n most oT ov b w) (hn : 1 ≤ n) (h2 : n ≤ 64) (h3 : 0 ≤ most) (h4 : most ≤ 64) : Eng base 183 b 189 193 194 191 n most xs w where
  mA := fun _ => by kernel_rfl
  mO := fun _ => by kernel_rfl
  mS := fun _ => by kernel_rfl
  mB := fun _ => by kernel_rfl
  cA := fun _ _ => by kernel_rfl
  cO := fun _ => by kernel_rfl
  cS := fun _ => by kernel_rfl
  cB := fun _ => by kernel_rfl
  aOut := fun t W hW ht => answer_out base n most oT ov b t W (hE.keeps hW) hn h2 ht
  aNew := fun t W hW ht => answer_new base n most oT ov b t W (hE.keeps hW) hn h2 ht
  ord := fun W hW => engOrder_new base n most oT ov b W (hE.keeps hW) hn h2
  sta := fun W hW => engState_new base n most oT ov fT rv xs hm hcf hF b W (hE.keeps hW) hn h2
  bnd := fun W hW => engBound_new base n most oT ov b W (hE.keeps hW) hn h2 h3 h4
end Go.Proofs.YtefjhnhdagolhaaGreat.int
