import Derived.Test.YtefjhnhdagolhaaGreatPKInt
import Derived.Test.YtefjhnhdagolhaaGreatPF
namespace Go.Proofs.YtefjhnhdagolhaaGreat.int
open Go.RowKit
attribute [local go_sem ↓] Go.wp_at_zero Go.wp_at_succ

set_option maxRecDepth 20000 in
set_option maxHeartbeats 1000000 in
theorem engState_new (base n : Nat) (most : Int) (oT : TypeId) (ov : Value) (fT : Nat) (rv : Value) (xs : List Int) (hm : ∀ w, (method 553 oT ov "Tell").run Tryz.prog w = .ok (fT, rv) w) (hcf : ∀ w, (callFunc fT #[rv, (.int .i64 0)]).run Tryz.prog w = .ok (.enter fT #[rv, (.int .i64 0)]) w)
    (hF : ∀ w, Calls Tryz.prog fT #[rv, (.int .i64 0)] w fun e w' => ∃ v, e = .returned v ∧ w'.ownsRow w.heap.size 3 1 v xs.length (ints xs) ∧ Below w.heap.size w w')
    (b : Nat) (w : World) (hE : EngRd base n most oT ov b w) (_hn : 1 ≤ n) (_h2 : n ≤ 64) :
    Calls Tryz.prog 194 #[.pointer (some ⟨b, 0, none⟩)] w fun e w' => ∃ v, e = .returned v ∧ w'.ownsRow w.heap.size 3 1 v xs.length (ints xs) ∧ Below w.heap.size w w' := by
  obtain ⟨bS, bTg, bAn, bP, bW, bB, bE, g, cap, gD, gG, -, -, hR, hS, -⟩ := hE
  have c0 : w.cell? ⟨b, 0, none⟩ = some (.pointer (some ⟨bS, 0, none⟩)) := hR.cell_of rfl
  have c1 : w.cell? ⟨bS, 1, none⟩ = some (.iface oT ov) := hS.1.cell_of rfl
  have HS := hide hS
  have HF := hide hF
  have hfl : ∀ W, (Instr.field 225 (.agg #[.int .i64 0, .pointer (some ⟨bB, 0, none⟩)]) 0).run Tryz.prog W = .ok (.int .i64 0) W := fun _ => by kernel_rfl
  clear hR hS hF
  go_enter Tryz.func194, Tryz.ntmps194
  go_wp2
  refine wp_region_held_drew (S := (fun w' => w'.cell? ⟨b, 0, none⟩ = some (.pointer (some ⟨bS, 0, none⟩)) ∧ w'.cell? ⟨bS, 1, none⟩ = some (.iface oT ov) ∧ Below w.heap.size w w')) (by kernel_rfl) ?_ (fun hHeld => ?_)
  · exact ⟨c0, c1, Below.drew (Below.refl _ _)⟩
  refine wpAnyH_take (i := 0) (oi := { dst := some 3, op := Go.Op.move (Go.Operand.tmp 0), type := 183, pos := "engine.go:78", after := #[], guard := none }) (v := ?v504) rfl (by kernel_rfl) (by kernel_rfl) (by kernel_rfl) (fun _ _ _ h => h) (Or.inl ⟨by rfl, ?hy504⟩) (by assumption) ?rest504
  case hy504 => (intro w hSw; (try dsimp only at hSw); go_simp; (try with_reducible rfl))
  (try go_frame)
  refine wpAnyH_take (i := 1) (oi := { dst := some 4, op := Go.Op.nilCheck (Go.Operand.tmp 3), type := 0, pos := "engine.go:78", after := #[{ on := 0, ground := Go.Ground.data }], guard := none }) (v := ?v505) rfl (by kernel_rfl) (by kernel_rfl) (by kernel_rfl) (fun _ _ _ h => h) (Or.inl ⟨by rfl, ?hy505⟩) (by assumption) ?rest505
  case hy505 => (intro w hSw; (try dsimp only at hSw); go_simp; (try with_reducible rfl))
  (try go_frame)
  refine wpAnyH_take (i := 2) (oi := { dst := some 5, op := Go.Op.fieldAddr 219 (Go.Operand.tmp 4) 0, type := 0, pos := "engine.go:78", after := #[{ on := 1, ground := Go.Ground.data }], guard := none }) (v := ?v506) rfl (by kernel_rfl) (by kernel_rfl) (by kernel_rfl) (fun _ _ _ h => h) (Or.inl ⟨by rfl, ?hy506⟩) (by assumption) ?rest506
  case hy506 => (intro w hSw; (try dsimp only at hSw); go_simp; (try with_reducible rfl))
  (try go_frame)
  refine wpAnyH_take (i := 3) (oi := { dst := some 6, op := Go.Op.load 215 (Go.Operand.tmp 5), type := 215, pos := "engine.go:78", after := #[{ on := 2, ground := Go.Ground.data }], guard := none }) (v := ?v507) rfl (by kernel_rfl) (by kernel_rfl) (by kernel_rfl) (fun _ _ _ h => h) (Or.inl ⟨by rfl, ?hy507⟩) (by assumption) ?rest507
  case hy507 => (intro w hSw; (try dsimp only at hSw); go_simp; (try with_reducible rfl))
  (try go_frame)
  refine wpAnyH_take (i := 4) (oi := { dst := some 7, op := Go.Op.nilCheck (Go.Operand.tmp 6), type := 0, pos := "engine.go:78", after := #[{ on := 3, ground := Go.Ground.data }], guard := none }) (v := ?v508) rfl (by kernel_rfl) (by kernel_rfl) (by kernel_rfl) (fun _ _ _ h => h) (Or.inl ⟨by rfl, ?hy508⟩) (by assumption) ?rest508
  case hy508 => (intro w hSw; (try dsimp only at hSw); go_simp; (try with_reducible rfl))
  (try go_frame)
  refine wpAnyH_take (i := 5) (oi := { dst := some 8, op := Go.Op.fieldAddr 296 (Go.Operand.tmp 7) 1, type := 0, pos := "engine.go:78", after := #[{ on := 4, ground := Go.Ground.data }], guard := none }) (v := ?v509) rfl (by kernel_rfl) (by kernel_rfl) (by kernel_rfl) (fun _ _ _ h => h) (Or.inl ⟨by rfl, ?hy509⟩) (by assumption) ?rest509
  case hy509 => (intro w hSw; (try dsimp only at hSw); go_simp; (try with_reducible rfl))
  (try go_frame)
  refine wpAnyH_take (i := 6) (oi := { dst := some 9, op := Go.Op.load 182 (Go.Operand.tmp 8), type := 182, pos := "engine.go:78", after := #[{ on := 5, ground := Go.Ground.data }], guard := none }) (v := ?v510) rfl (by kernel_rfl) (by kernel_rfl) (by kernel_rfl) (fun _ _ _ h => h) (Or.inl ⟨by rfl, ?hy510⟩) (by assumption) ?rest510
  case hy510 => (intro w hSw; (try dsimp only at hSw); go_simp; (try with_reducible rfl))
  (try go_frame)
  refine wpAnyH_take (i := 7) (oi := { dst := some 10, op := Go.Op.move (Go.Operand.tmp 0), type := 183, pos := "engine.go:78", after := #[], guard := none }) (v := ?v511) rfl (by kernel_rfl) (by kernel_rfl) (by kernel_rfl) (fun _ _ _ h => h) (Or.inl ⟨by rfl, ?hy511⟩) (by assumption) ?rest511
  case hy511 => (intro w hSw; (try dsimp only at hSw); go_simp; (try with_reducible rfl))
  (try go_frame)
  refine wpAnyH_take (i := 8) (oi := { dst := some 11, op := Go.Op.nilCheck (Go.Operand.tmp 10), type := 0, pos := "engine.go:78", after := #[{ on := 7, ground := Go.Ground.data }], guard := none }) (v := ?v512) rfl (by kernel_rfl) (by kernel_rfl) (by kernel_rfl) (fun _ _ _ h => h) (Or.inl ⟨by rfl, ?hy512⟩) (by assumption) ?rest512
  case hy512 => (intro w hSw; (try dsimp only at hSw); go_simp; (try with_reducible rfl))
  (try go_frame)
  refine wpAnyH_take (i := 9) (oi := { dst := some 12, op := Go.Op.fieldAddr 219 (Go.Operand.tmp 11) 0, type := 0, pos := "engine.go:78", after := #[{ on := 8, ground := Go.Ground.data }], guard := none }) (v := ?v513) rfl (by kernel_rfl) (by kernel_rfl) (by kernel_rfl) (fun _ _ _ h => h) (Or.inl ⟨by rfl, ?hy513⟩) (by assumption) ?rest513
  case hy513 => (intro w hSw; (try dsimp only at hSw); go_simp; (try with_reducible rfl))
  (try go_frame)
  refine wpAnyH_take (i := 10) (oi := { dst := some 13, op := Go.Op.load 215 (Go.Operand.tmp 12), type := 215, pos := "engine.go:78", after := #[{ on := 9, ground := Go.Ground.data }], guard := none }) (v := ?v514) rfl (by kernel_rfl) (by kernel_rfl) (by kernel_rfl) (fun _ _ _ h => h) (Or.inl ⟨by rfl, ?hy514⟩) (by assumption) ?rest514
  case hy514 => (intro w hSw; (try dsimp only at hSw); go_simp; (try with_reducible rfl))
  (try go_frame)
  refine wpAnyH_take (i := 13) (oi := { dst := some 16, op := Go.Op.nilCheck (Go.Operand.tmp 9), type := 182, pos := "engine.go:78", after := #[{ on := 6, ground := Go.Ground.data }], guard := none }) (v := ?v515) rfl (by kernel_rfl) (by kernel_rfl) (by kernel_rfl) (fun _ _ _ h => h) (Or.inl ⟨by rfl, ?hy515⟩) (by assumption) ?rest515
  case hy515 => (intro w hSw; (try dsimp only at hSw); go_simp; (try with_reducible rfl))
  (try go_frame)
  refine wpAnyH_take (i := 14) (oi := { dst := some 17, op := Go.Op.move (Go.Operand.tmp 9), type := 182, pos := "engine.go:78", after := #[{ on := 6, ground := Go.Ground.data }, { on := 13, ground := Go.Ground.data }], guard := none }) (v := ?v516) rfl (by kernel_rfl) (by kernel_rfl) (by kernel_rfl) (fun _ _ _ h => h) (Or.inl ⟨by rfl, ?hy516⟩) (by assumption) ?rest516
  case hy516 => (intro w hSw; (try dsimp only at hSw); go_simp; (try with_reducible rfl))
  (try go_frame)
  refine wpAnyH_ready (rs := [11]) (by kernel_rfl) (by simp) ?_
  refine AllReadyH.cons (o := { dst := some 14, op := Go.Op.call { callee := Go.Callee.value (Go.Operand.func 202), args := #[Go.Operand.tmp 13], argTypes := #[215] }, type := 225, pos := "engine.go:78", after := #[{ on := 10, ground := Go.Ground.data }], guard := none }) (by rfl) (fun K hK => ?_) AllReadyH.nil
  go_simp
  refine (newest_new _ bS bTg bAn bP n oT ov bW bB bE _ (HS.out.later hHeld.2.2)).mono ?_
  rintro e w2 ⟨rfl, hb2⟩
  rw [show verNew bB = [.int .i64 0] ++ [.pointer (some ⟨bB, 0, none⟩)] from rfl]
  go_wp2_with fail
  refine hK.out _ _ ?_ (fun hHeld => ?_)
  · exact ⟨cell_later hb2 hHeld.1, cell_later hb2 hHeld.2.1, Below.next hHeld.2.2 hb2 hHeld.2.2.size⟩
  clear hK K
  (try go_frame)
  refine wpAnyH_take (i := 12) (oi := { dst := some 15, op := Go.Op.field 225 (Go.Operand.tmp 14) 0, type := 3, pos := "engine.go:78", after := #[{ on := 11, ground := Go.Ground.data }], guard := none }) (v := ?v517) rfl (by kernel_rfl) (by kernel_rfl) (by kernel_rfl) (fun _ _ _ h => h) (Or.inl ⟨by rfl, ?hy517⟩) (by assumption) ?rest517
  case hy517 => (intro w hSw; (try dsimp only at hSw); go_simp; (try with_reducible rfl))
  (try go_frame)
  refine wpAnyH_ready (rs := [15]) (by kernel_rfl) (by simp) ?_
  refine AllReadyH.cons (o := { dst := some 18, op := Go.Op.call { callee := Go.Callee.invoke (Go.Operand.tmp 17) "Tell", args := #[Go.Operand.tmp 15], argTypes := #[3] }, type := 22, pos := "engine.go:78", after := #[{ on := 14, ground := Go.Ground.data }, { on := 12, ground := Go.Ground.data }, { on := 11, ground := Go.Ground.chain }], guard := none }) (by rfl) (fun K hK => ?_) AllReadyH.nil
  go_simp
  refine (HF.out _).mono ?_
  rintro e w3 ⟨v, rfl, ho3, hb3⟩
  have HO3 := hide (owns_base ho3 hHeld.2.2.size)
  clear ho3
  go_wp2_with fail
  refine hK.out _ _ ?_ (fun hHeld => ?_)
  · exact ⟨cell_later hb3 hHeld.1, cell_later hb3 hHeld.2.1, Below.next hHeld.2.2 hb3 hHeld.2.2.size⟩
  clear hK K
  (try go_frame)
  refine wpAnyH_take (i := 16) (oi := { dst := some 2, op := Go.Op.assign (Go.Operand.tmp 18), type := 22, pos := "engine.go:78", after := #[{ on := 15, ground := Go.Ground.data }, { on := 15, ground := Go.Ground.chain }, { on := 0, ground := Go.Ground.phase }, { on := 1, ground := Go.Ground.phase }, { on := 2, ground := Go.Ground.phase }, { on := 3, ground := Go.Ground.phase }, { on := 4, ground := Go.Ground.phase }, { on := 5, ground := Go.Ground.phase }, { on := 6, ground := Go.Ground.phase }, { on := 7, ground := Go.Ground.phase }, { on := 8, ground := Go.Ground.phase }, { on := 9, ground := Go.Ground.phase }, { on := 10, ground := Go.Ground.phase }, { on := 11, ground := Go.Ground.phase }, { on := 12, ground := Go.Ground.phase }, { on := 13, ground := Go.Ground.phase }, { on := 14, ground := Go.Ground.phase }, { on := 15, ground := Go.Ground.phase }], guard := none }) (v := ?v518) rfl (by kernel_rfl) (by kernel_rfl) (by kernel_rfl) (fun _ _ _ h => h) (Or.inl ⟨by rfl, ?hy518⟩) (by assumption) ?rest518
  case hy518 => (intro w hSw; (try dsimp only at hSw); go_simp; (try with_reducible rfl))
  (try go_frame)
  refine wpAnyH_done (by kernel_rfl) ?_ _
  (try go_wp2_with fail)
  go_ret
  exact ⟨v, rfl, HO3.out, hHeld.2.2⟩

end Go.Proofs.YtefjhnhdagolhaaGreat.int

namespace Go.Proofs.YtefjhnhdagolhaaGreat.int
open Go.RowKit

theorem eng_new (base n : Nat) (most : Int) (oT : TypeId) (ov : Value) (fT : Nat) (rv : Value) (xs : List Int) (hm : ∀ w, (method 553 oT ov "Tell").run Tryz.prog w = .ok (fT, rv) w) (hcf : ∀ w, (callFunc fT #[rv, (.int .i64 0)]).run Tryz.prog w = .ok (.enter fT #[rv, (.int .i64 0)]) w)
    (hF : ∀ w, Calls Tryz.prog fT #[rv, (.int .i64 0)] w fun e w' => ∃ v, e = .returned v ∧ w'.ownsRow w.heap.size 3 1 v xs.length (ints xs) ∧ Below w.heap.size w w')
    (b : Nat) (w : World) (hE : EngRd base n most oT ov b w) (hn : 1 ≤ n) (h2 : n ≤ 64) (h3 : 0 ≤ most) (h4 : most ≤ 64) : Eng base 183 b 189 193 194 191 n most xs w where
  mA := fun _ => by kernel_rfl
  mO := fun _ => by kernel_rfl
  mS := fun _ => by kernel_rfl
  mB := fun _ => by kernel_rfl
  cA := fun _ _ => by kernel_rfl
  cO := fun _ => by kernel_rfl
  cS := fun _ => by kernel_rfl
  cB := fun _ => by kernel_rfl
  aOut := fun t W hW ht => answer_out base n most oT ov b t W (hE.keeps hW) hn h2 ht
  aNew := fun t W hW ht => answer_new base n most oT ov b t W (hE.keeps hW) hn h2 ht
  ord := fun W hW => engOrder_new base n most oT ov b W (hE.keeps hW) hn h2
  sta := fun W hW => engState_new base n most oT ov fT rv xs hm hcf hF b W (hE.keeps hW) hn h2
  bnd := fun W hW => engBound_new base n most oT ov b W (hE.keeps hW) hn h2 h3 h4

end Go.Proofs.YtefjhnhdagolhaaGreat.int
