import Derived.Test.YtefjhnhdagolhaaGreatPKTree
import Derived.Test.YtefjhnhdagolhaaGreatPF
namespace Go.Proofs.YtefjhnhdagolhaaGreat.tree
open Go.RowKit
attribute [local go_sem ↓] Go.wp_at_zero Go.wp_at_succ

set_option maxRecDepth 20000 in
set_option maxHeartbeats 1000000 in
theorem engState_new (base n : Nat) (most : Int) (oT : TypeId) (ov : Value) (fT : Nat) (rv : Value) (xs : List Int) (hm : ∀ w, (method 553 oT ov "Tell").run Tryz.prog w = .ok (fT, rv) w) (hcf : ∀ w, (callFunc fT #[rv, (.pointer none)]).run Tryz.prog w = .ok (.enter fT #[rv, (.pointer none)]) w)
    (hF : ∀ w, Calls Tryz.prog fT #[rv, (.pointer none)] w fun e w' => ∃ v, e = .returned v ∧ w'.ownsRow w.heap.size 3 1 v xs.length (ints xs) ∧ Below w.heap.size w w')
    (b : Nat) (w : World) (hE : EngRd base n most oT ov b w) (_hn : 1 ≤ n) (_h2 : n ≤ 64) :
    Calls Tryz.prog 328 #[.pointer (some ⟨b, 0, none⟩)] w fun e w' => ∃ v, e = .returned v ∧ w'.ownsRow w.heap.size 3 1 v xs.length (ints xs) ∧ Below w.heap.size w w' := by
  obtain ⟨bS, bTg, bAn, bP, bW, bB, bE, g, cap, gD, gG, -, -, hR, hS, -⟩ := hE
  have c0 : w.cell? ⟨b, 0, none⟩ = some (.pointer (some ⟨bS, 0, none⟩)) := hR.cell_of rfl
  have c1 : w.cell? ⟨bS, 1, none⟩ = some (.iface oT ov) := hS.1.cell_of rfl
  have HS := hide hS
  have HF := hide hF
  have hfl : ∀ W, (Instr.field 267 (.agg #[.pointer none, .pointer (some ⟨bB, 0, none⟩)]) 0).run Tryz.prog W = .ok (.pointer none) W := fun _ => by kernel_rfl
  clear hR hS hF
  go_enter Tryz.func328, Tryz.ntmps328
  go_wp2
  refine wp_region_held_drew (S := (fun w' => w'.cell? ⟨b, 0, none⟩ = some (.pointer (some ⟨bS, 0, none⟩)) ∧ w'.cell? ⟨bS, 1, none⟩ = some (.iface oT ov) ∧ Below w.heap.size w w')) (by kernel_rfl) ?_ (fun hHeld => ?_)
  · exact ⟨c0, c1, Below.drew (Below.refl _ _)⟩
  refine wpAnyH_take (i := 0) (oi := { dst := some 3, op := Go.Op.move (Go.Operand.tmp 0), type := 195, pos := "engine.go:78", after := #[], guard := none }) (v := ?v549) rfl (by kernel_rfl) (by kernel_rfl) (by kernel_rfl) (fun _ _ _ h => h) (Or.inl ⟨by rfl, ?hy549⟩) (by assumption) ?rest549
  case hy549 => (intro w hSw; (try dsimp only at hSw); go_simp; (try with_reducible rfl))
  (try go_frame)
  refine wpAnyH_take (i := 1) (oi := { dst := some 4, op := Go.Op.nilCheck (Go.Operand.tmp 3), type := 0, pos := "engine.go:78", after := #[{ on := 0, ground := Go.Ground.data }], guard := none }) (v := ?v550) rfl (by kernel_rfl) (by kernel_rfl) (by kernel_rfl) (fun _ _ _ h => h) (Or.inl ⟨by rfl, ?hy550⟩) (by assumption) ?rest550
  case hy550 => (intro w hSw; (try dsimp only at hSw); go_simp; (try with_reducible rfl))
  (try go_frame)
  refine wpAnyH_take (i := 2) (oi := { dst := some 5, op := Go.Op.fieldAddr 265 (Go.Operand.tmp 4) 0, type := 0, pos := "engine.go:78", after := #[{ on := 1, ground := Go.Ground.data }], guard := none }) (v := ?v551) rfl (by kernel_rfl) (by kernel_rfl) (by kernel_rfl) (fun _ _ _ h => h) (Or.inl ⟨by rfl, ?hy551⟩) (by assumption) ?rest551
  case hy551 => (intro w hSw; (try dsimp only at hSw); go_simp; (try with_reducible rfl))
  (try go_frame)
  refine wpAnyH_take (i := 3) (oi := { dst := some 6, op := Go.Op.load 261 (Go.Operand.tmp 5), type := 261, pos := "engine.go:78", after := #[{ on := 2, ground := Go.Ground.data }], guard := none }) (v := ?v552) rfl (by kernel_rfl) (by kernel_rfl) (by kernel_rfl) (fun _ _ _ h => h) (Or.inl ⟨by rfl, ?hy552⟩) (by assumption) ?rest552
  case hy552 => (intro w hSw; (try dsimp only at hSw); go_simp; (try with_reducible rfl))
  (try go_frame)
  refine wpAnyH_take (i := 4) (oi := { dst := some 7, op := Go.Op.nilCheck (Go.Operand.tmp 6), type := 0, pos := "engine.go:78", after := #[{ on := 3, ground := Go.Ground.data }], guard := none }) (v := ?v553) rfl (by kernel_rfl) (by kernel_rfl) (by kernel_rfl) (fun _ _ _ h => h) (Or.inl ⟨by rfl, ?hy553⟩) (by assumption) ?rest553
  case hy553 => (intro w hSw; (try dsimp only at hSw); go_simp; (try with_reducible rfl))
  (try go_frame)
  refine wpAnyH_take (i := 5) (oi := { dst := some 8, op := Go.Op.fieldAddr 336 (Go.Operand.tmp 7) 1, type := 0, pos := "engine.go:78", after := #[{ on := 4, ground := Go.Ground.data }], guard := none }) (v := ?v554) rfl (by kernel_rfl) (by kernel_rfl) (by kernel_rfl) (fun _ _ _ h => h) (Or.inl ⟨by rfl, ?hy554⟩) (by assumption) ?rest554
  case hy554 => (intro w hSw; (try dsimp only at hSw); go_simp; (try with_reducible rfl))
  (try go_frame)
  refine wpAnyH_take (i := 6) (oi := { dst := some 9, op := Go.Op.load 194 (Go.Operand.tmp 8), type := 194, pos := "engine.go:78", after := #[{ on := 5, ground := Go.Ground.data }], guard := none }) (v := ?v555) rfl (by kernel_rfl) (by kernel_rfl) (by kernel_rfl) (fun _ _ _ h => h) (Or.inl ⟨by rfl, ?hy555⟩) (by assumption) ?rest555
  case hy555 => (intro w hSw; (try dsimp only at hSw); go_simp; (try with_reducible rfl))
  (try go_frame)
  refine wpAnyH_take (i := 7) (oi := { dst := some 10, op := Go.Op.move (Go.Operand.tmp 0), type := 195, pos := "engine.go:78", after := #[], guard := none }) (v := ?v556) rfl (by kernel_rfl) (by kernel_rfl) (by kernel_rfl) (fun _ _ _ h => h) (Or.inl ⟨by rfl, ?hy556⟩) (by assumption) ?rest556
  case hy556 => (intro w hSw; (try dsimp only at hSw); go_simp; (try with_reducible rfl))
  (try go_frame)
  refine wpAnyH_take (i := 8) (oi := { dst := some 11, op := Go.Op.nilCheck (Go.Operand.tmp 10), type := 0, pos := "engine.go:78", after := #[{ on := 7, ground := Go.Ground.data }], guard := none }) (v := ?v557) rfl (by kernel_rfl) (by kernel_rfl) (by kernel_rfl) (fun _ _ _ h => h) (Or.inl ⟨by rfl, ?hy557⟩) (by assumption) ?rest557
  case hy557 => (intro w hSw; (try dsimp only at hSw); go_simp; (try with_reducible rfl))
  (try go_frame)
  refine wpAnyH_take (i := 9) (oi := { dst := some 12, op := Go.Op.fieldAddr 265 (Go.Operand.tmp 11) 0, type := 0, pos := "engine.go:78", after := #[{ on := 8, ground := Go.Ground.data }], guard := none }) (v := ?v558) rfl (by kernel_rfl) (by kernel_rfl) (by kernel_rfl) (fun _ _ _ h => h) (Or.inl ⟨by rfl, ?hy558⟩) (by assumption) ?rest558
  case hy558 => (intro w hSw; (try dsimp only at hSw); go_simp; (try with_reducible rfl))
  (try go_frame)
  refine wpAnyH_take (i := 10) (oi := { dst := some 13, op := Go.Op.load 261 (Go.Operand.tmp 12), type := 261, pos := "engine.go:78", after := #[{ on := 9, ground := Go.Ground.data }], guard := none }) (v := ?v559) rfl (by kernel_rfl) (by kernel_rfl) (by kernel_rfl) (fun _ _ _ h => h) (Or.inl ⟨by rfl, ?hy559⟩) (by assumption) ?rest559
  case hy559 => (intro w hSw; (try dsimp only at hSw); go_simp; (try with_reducible rfl))
  (try go_frame)
  refine wpAnyH_take (i := 13) (oi := { dst := some 16, op := Go.Op.nilCheck (Go.Operand.tmp 9), type := 194, pos := "engine.go:78", after := #[{ on := 6, ground := Go.Ground.data }], guard := none }) (v := ?v560) rfl (by kernel_rfl) (by kernel_rfl) (by kernel_rfl) (fun _ _ _ h => h) (Or.inl ⟨by rfl, ?hy560⟩) (by assumption) ?rest560
  case hy560 => (intro w hSw; (try dsimp only at hSw); go_simp; (try with_reducible rfl))
  (try go_frame)
  refine wpAnyH_take (i := 14) (oi := { dst := some 17, op := Go.Op.move (Go.Operand.tmp 9), type := 194, pos := "engine.go:78", after := #[{ on := 6, ground := Go.Ground.data }, { on := 13, ground := Go.Ground.data }], guard := none }) (v := ?v561) rfl (by kernel_rfl) (by kernel_rfl) (by kernel_rfl) (fun _ _ _ h => h) (Or.inl ⟨by rfl, ?hy561⟩) (by assumption) ?rest561
  case hy561 => (intro w hSw; (try dsimp only at hSw); go_simp; (try with_reducible rfl))
  (try go_frame)
  refine wpAnyH_ready (rs := [11]) (by kernel_rfl) (by simp) ?_
  refine AllReadyH.cons (o := { dst := some 14, op := Go.Op.call { callee := Go.Callee.value (Go.Operand.func 335), args := #[Go.Operand.tmp 13], argTypes := #[261] }, type := 267, pos := "engine.go:78", after := #[{ on := 10, ground := Go.Ground.data }], guard := none }) (by rfl) (fun K hK => ?_) AllReadyH.nil
  go_simp
  refine (newest_new _ bS bTg bAn bP n oT ov bW bB bE _ (HS.out.later hHeld.2.2)).mono ?_
  rintro e w2 ⟨rfl, hb2⟩
  rw [show verNew bB = [.pointer none] ++ [.pointer (some ⟨bB, 0, none⟩)] from rfl]
  go_wp2_with fail
  refine hK.out _ _ ?_ (fun hHeld => ?_)
  · exact ⟨cell_later hb2 hHeld.1, cell_later hb2 hHeld.2.1, Below.next hHeld.2.2 hb2 hHeld.2.2.size⟩
  clear hK K
  (try go_frame)
  refine wpAnyH_take (i := 12) (oi := { dst := some 15, op := Go.Op.field 267 (Go.Operand.tmp 14) 0, type := 149, pos := "engine.go:78", after := #[{ on := 11, ground := Go.Ground.data }], guard := none }) (v := ?v562) rfl (by kernel_rfl) (by kernel_rfl) (by kernel_rfl) (fun _ _ _ h => h) (Or.inl ⟨by rfl, ?hy562⟩) (by assumption) ?rest562
  case hy562 => (intro w hSw; (try dsimp only at hSw); go_simp; (try with_reducible rfl))
  (try go_frame)
  refine wpAnyH_ready (rs := [15]) (by kernel_rfl) (by simp) ?_
  refine AllReadyH.cons (o := { dst := some 18, op := Go.Op.call { callee := Go.Callee.invoke (Go.Operand.tmp 17) "Tell", args := #[Go.Operand.tmp 15], argTypes := #[149] }, type := 22, pos := "engine.go:78", after := #[{ on := 14, ground := Go.Ground.data }, { on := 12, ground := Go.Ground.data }, { on := 11, ground := Go.Ground.chain }], guard := none }) (by rfl) (fun K hK => ?_) AllReadyH.nil
  go_simp
  refine (HF.out _).mono ?_
  rintro e w3 ⟨v, rfl, ho3, hb3⟩
  have HO3 := hide (owns_base ho3 hHeld.2.2.size)
  clear ho3
  go_wp2_with fail
  refine hK.out _ _ ?_ (fun hHeld => ?_)
  · exact ⟨cell_later hb3 hHeld.1, cell_later hb3 hHeld.2.1, Below.next hHeld.2.2 hb3 hHeld.2.2.size⟩
  clear hK K
  (try go_frame)
  refine wpAnyH_take (i := 16) (oi := { dst := some 2, op := Go.Op.assign (Go.Operand.tmp 18), type := 22, pos := "engine.go:78", after := #[{ on := 15, ground := Go.Ground.data }, { on := 15, ground := Go.Ground.chain }, { on := 0, ground := Go.Ground.phase }, { on := 1, ground := Go.Ground.phase }, { on := 2, ground := Go.Ground.phase }, { on := 3, ground := Go.Ground.phase }, { on := 4, ground := Go.Ground.phase }, { on := 5, ground := Go.Ground.phase }, { on := 6, ground := Go.Ground.phase }, { on := 7, ground := Go.Ground.phase }, { on := 8, ground := Go.Ground.phase }, { on := 9, ground := Go.Ground.phase }, { on := 10, ground := Go.Ground.phase }, { on := 11, ground := Go.Ground.phase }, { on := 12, ground := Go.Ground.phase }, { on := 13, ground := Go.Ground.phase }, { on := 14, ground := Go.Ground.phase }, { on := 15, ground := Go.Ground.phase }], guard := none }) (v := ?v563) rfl (by kernel_rfl) (by kernel_rfl) (by kernel_rfl) (fun _ _ _ h => h) (Or.inl ⟨by rfl, ?hy563⟩) (by assumption) ?rest563
  case hy563 => (intro w hSw; (try dsimp only at hSw); go_simp; (try with_reducible rfl))
  (try go_frame)
  refine wpAnyH_done (by kernel_rfl) ?_ _
  (try go_wp2_with fail)
  go_ret
  exact ⟨v, rfl, HO3.out, hHeld.2.2⟩

end Go.Proofs.YtefjhnhdagolhaaGreat.tree

namespace Go.Proofs.YtefjhnhdagolhaaGreat.tree
open Go.RowKit

theorem eng_new (base n : Nat) (most : Int) (oT : TypeId) (ov : Value) (fT : Nat) (rv : Value) (xs : List Int) (hm : ∀ w, (method 553 oT ov "Tell").run Tryz.prog w = .ok (fT, rv) w) (hcf : ∀ w, (callFunc fT #[rv, (.pointer none)]).run Tryz.prog w = .ok (.enter fT #[rv, (.pointer none)]) w)
    (hF : ∀ w, Calls Tryz.prog fT #[rv, (.pointer none)] w fun e w' => ∃ v, e = .returned v ∧ w'.ownsRow w.heap.size 3 1 v xs.length (ints xs) ∧ Below w.heap.size w w')
    (b : Nat) (w : World) (hE : EngRd base n most oT ov b w) (hn : 1 ≤ n) (h2 : n ≤ 64) (h3 : 0 ≤ most) (h4 : most ≤ 64) : Eng base 195 b 323 327 328 325 n most xs w where
  mA := fun _ => by kernel_rfl
  mO := fun _ => by kernel_rfl
  mS := fun _ => by kernel_rfl
  mB := fun _ => by kernel_rfl
  cA := fun _ _ => by kernel_rfl
  cO := fun _ => by kernel_rfl
  cS := fun _ => by kernel_rfl
  cB := fun _ => by kernel_rfl
  aOut := fun t W hW ht => answer_out base n most oT ov b t W (hE.keeps hW) hn h2 ht
  aNew := fun t W hW ht => answer_new base n most oT ov b t W (hE.keeps hW) hn h2 ht
  ord := fun W hW => engOrder_new base n most oT ov b W (hE.keeps hW) hn h2
  sta := fun W hW => engState_new base n most oT ov fT rv xs hm hcf hF b W (hE.keeps hW) hn h2
  bnd := fun W hW => engBound_new base n most oT ov b W (hE.keeps hW) hn h2 h3 h4

end Go.Proofs.YtefjhnhdagolhaaGreat.tree
