import Derived.Deep.LoopGhost
import Derived.Test.YtefjhnhdagolhaaGreatQ29
import Derived.Test.YtefjhnhdagolhaaGreatQ13
import Derived.Test.YtefjhnhdagolhaaGreatQ07
import Derived.Test.YtefjhnhdagolhaaGreatQ10
import Derived.Test.YtefjhnhdagolhaaGreatQ28
import Derived.Test.YtefjhnhdagolhaaGreatQ18
namespace Go.Proofs.YtefjhnhdagolhaaGreat.int
open Go.RowKit
open M (upd upd_same upd_other Ver ETh ESt RSt RTh wds statusAt valueAt marks tagged num YI)
attribute [local go_sem ↓] Go.wp_at_zero Go.wp_at_succ
section
variable {σ : Type} {R : SR σ} {P : M.Plain σ} {L : Lt} {S S' : Nat → Prop} {E : ESt σ} {Y Y' Y'' : RSt} {w w1 w2 : World} {t K : Nat}
theorem Both.yi (h : Both R P L S E Y w) : YI P L.n L.cap Y := ⟨E, h.inv⟩
theorem Both.stay (h : Both R P L S E Y w) (hk : ∀ k, S k → w1.heap[k]? = w.heap[k]?) (hS : ∀ k, S k → S' k) (hlt : ∀ k, S' k → k < w1.heap.size) : Both R P L S' E Y w1 := ⟨h.re.stay hk hS hlt, h.inv, h.bnd, h.szs⟩
theorem Goes.next (h : Goes R P L S w Y' w1) (h' : Goes R P L (grown S w w1) w1 Y'' w2) : Goes R P L S w Y'' w2 := by
  obtain ⟨E1, b1⟩ := h.ex
  obtain ⟨E2, b2⟩ := h'.ex
  exact Goes.left (Left.next ⟨b1.re, h.fr⟩ ⟨b2.re, h'.fr⟩) b2.inv b2.bnd b2.szs
theorem Goes.past2 (h : Goes R P L S w Y' w1) {B : Nat} (hk : ∀ k, k ≠ B → k < w1.heap.size → w2.heap[k]? = w1.heap[k]?) (ho : w2.os = w1.os ∧ w2.tape = w1.tape ∧ w2.output = w1.output) (hz : w1.heap.size ≤ w2.heap.size) (hBS : ¬ S B) (hB : B < w.heap.size) :
    (∃ E', Both R P L (grown S w w2) E' Y' w2) ∧ w2.os = w.os ∧ w2.tape = w.tape ∧ w2.output = w.output ∧ w.heap.size ≤ w2.heap.size ∧ ∀ k, k < w.heap.size → k ≠ B → ¬ L.own k → w2.heap[k]? = w.heap[k]? := by
  obtain ⟨E1, b1⟩ := h.ex
  refine ⟨⟨E1, b1.stay (fun k hS => hk k (fun e => ?_) (b1.re.lt k hS)) (fun k hS => ?_) (fun k hS => ?_)⟩, ho.1.trans h.fr.os, ho.2.1.trans h.fr.tape, ho.2.2.trans h.fr.output, Nat.le_trans h.fr.size hz, fun k hkk hne ho' => (hk k hne (Nat.lt_of_lt_of_le hkk h.fr.size)).trans (h.fr.block k hkk ho')⟩
  · subst e
    rcases hS with hS | hS
    · exact hBS hS
    · omega
  · rcases hS with hS | hS
    · exact .inl hS
    · exact .inr ⟨hS.1, Nat.lt_of_lt_of_le hS.2 hz⟩
  · rcases hS with hS | hS
    · exact Nat.lt_of_lt_of_le (b1.re.lt k (.inl hS)) hz
    · exact hS.2
theorem Goes.made {W : World} {B : Nat} (h : (∃ E', Both R P L (grown S W w2) E' Y' w2) ∧ w2.os = W.os ∧ w2.tape = W.tape ∧ w2.output = W.output ∧ W.heap.size ≤ w2.heap.size ∧ ∀ k, k < W.heap.size → k ≠ B → ¬ L.own k → w2.heap[k]? = W.heap[k]?) (hB : w.heap.size ≤ B) (hS : ∀ k, S k → k < w.heap.size) (hb : Below w.heap.size w W) : Goes R P L S w Y' w2 := by
  obtain ⟨⟨E1, b1⟩, h1, h2, h3, h4, h5⟩ := h
  have hz := hb.size
  refine ⟨⟨E1, b1.stay (fun _ _ => rfl) (fun k hk => ?_) (fun k hk => ?_)⟩, ⟨h1.trans hb.os, h2.trans hb.tape, h3.trans hb.output, Nat.le_trans hb.size h4, fun k hk ho => (h5 k (by omega) (by omega) ho).trans (hb.block k hk)⟩⟩
  · rcases hk with hk | hk
    · exact .inl hk
    · exact .inr ⟨Nat.le_trans hb.size hk.1, hk.2⟩
  · rcases hk with hk | hk
    · have := hS k hk; omega
    · exact hk.2
set_option maxRecDepth 20000 in
set_option maxHeartbeats 1000000 in
theorem Do_err (x er : Int) (o : M.Op) (her : er ≠ 0) (hS : ∀ k, S k → k < w.heap.size)
    (hc : ∀ W, Below w.heap.size w W → Calls Tryz.prog 190 #[.pointer (some ⟨L.bE, 0, none⟩), .int .i64 x, .agg #[.int .i64 o.c, .int .i64 o.a, .int .i64 o.b]] W fun e w' => e = .returned (.int .i64 er) ∧ Goes R P L S W Y w') (hown : ∀ k, L.own k → S k) :
    Calls Tryz.prog 192 #[.pointer (some ⟨L.bE, 0, none⟩), .int .i64 x, .agg #[.int .i64 o.c, .int .i64 o.a, .int .i64 o.b]] w fun e w' => e = .returned (.tuple #[.agg #[.int .i64 0, .int .i64 0], .int .i64 er]) ∧ Goes R P L S w Y w' := by
  have her' : (er == 0) = false := by simp [her]
  go_enter Tryz.func192, Tryz.ntmps192
  go_upto_region 1 with fail
  generalize hW : World.alloc (World.alloc w _) _ = W
  have hb : Below w.heap.size w W := by rw [← hW]; exact ((Below.refl _ _).alloc (Nat.le_refl _) _).alloc (by simp) _
  have r0 : Row W w.heap.size 36 [.int .i64 o.c, .int .i64 o.a, .int .i64 o.b] := by rw [← hW]; exact (Row.new' rfl).alloc _
  have r1 : Row W (w.heap.size + 1) 94 [.int .i64 0, .int .i64 0] := by rw [← hW]; exact Row.new' (by simp)
  have x0 := r0.cell_of (i := 0) rfl
  have x1 := r0.cell_of (i := 1) rfl
  have x2 := r0.cell_of (i := 2) rfl
  have hzW : w.heap.size + 1 < W.heap.size := r1.lt
  have HR1 := hide r1
  have HB := hide hb
  have HC := hide (hc W hb)
  have hnS : ¬ S (w.heap.size + 1) := fun c => by have := hS _ c; omega
  have hnO : ¬ L.own (w.heap.size + 1) := fun c => hnS (hown _ c)
  clear hW r0 r1 hb hc
  go_wp2_with fail
  refine HC.out.mono ?_
  rintro e w3 ⟨rfl, hg3⟩
  have r3 : Row w3 (w.heap.size + 1) 94 [.int .i64 0, .int .i64 0] := HR1.out.of_block (hg3.fr.block _ HR1.out.lt hnO)
  have y0 := r3.cell_of (i := 0) rfl
  have y1 := r3.cell_of (i := 1) rfl
  have z0 := r3.frozen 0
  have z1 := r3.frozen 1
  have HRo := hide (r3.set 0 (.int .i64 0) |>.set 1 (.int .i64 0))
  have HG0 := hide hg3
  clear hg3 r3
  go_wp2_with fail
  have q1 := HRo.out.cell_of (i := 0) rfl
  have q2 := HRo.out.cell_of (i := 1) rfl
  refine bodyPost_ret (v := .tuple #[.agg #[.int .i64 0, .int .i64 0], .int .i64 er]) (by simp [results, Tryz.results192, go_sem, q1, q2]) rfl ⟨rfl, ?_⟩
  refine Goes.made (W := W) (B := w.heap.size + 1) (Goes.past2 HG0.out (B := w.heap.size + 1) (fun k hk _ => ?_) ⟨rfl, rfl, rfl⟩ (by simp [World.setCell]) hnS (by omega)) (by omega) hS HB.out
  rw [Below.heap_setCell _ _ _ k hk, Below.heap_setCell _ _ _ k hk]
def DoE (R : SR σ) (P : M.Plain σ) (L : Lt) (S : Nat → Prop) (W : World) (D : DL) (t K : Nat) (Y' : RSt) (g : Nat) (w' : World) : Prop := ∃ Yc, Going P D t K Y' g Yc ∧ Goes R P L S W Yc w'
set_option maxRecDepth 20000 in
set_option maxHeartbeats 2000000 in
theorem Do_idle {fA : Nat} {rv : Value} (hA : ApOk R P L fA rv) (h : Both R P L S E Y w) (D : DL) (hDn : D.n = L.n) (hDc : D.cap = L.cap) (hK : Lim D K Y) (hK9 : K + 6000 ≤ 1000000000) (ht : t < L.n) (hp : (Y.th t).part = 0) (o : M.Op) :
    Calls Tryz.prog 192 #[.pointer (some ⟨L.bE, 0, none⟩), .int .i64 (t : Int), .agg #[.int .i64 o.c, .int .i64 o.a, .int .i64 o.b]] w fun e w' => e = .returned (.tuple #[.agg #[.int .i64 (ansD P (M.fin L.n L.cap t (M.rbegin Y t o)) t).s, .int .i64 (ansD P (M.fin L.n L.cap t (M.rbegin Y t o)) t).v], .int .i64 0]) ∧ Goes R P L S w (M.fin L.n L.cap t (M.rbegin Y t o)) w' := by
  have hn1 := h.re.ok.n1
  have hn64 := h.re.ok.n64
  have hc64 := h.re.ok.c64
  have hGo := Going.begin (L := D) (by rw [hDn, hDc]; exact h.yi) (by omega) (by omega) (by omega) hp hK o
  rw [hDn, hDc] at hGo
  have htD : t < D.n := by omega
  generalize hY1 : M.rbegin Y t o = Y1 at *
  generalize hY' : M.fin L.n L.cap t Y1 = Y' at *
  go_enter Tryz.func192, Tryz.ntmps192
  go_upto_region 1 with fail
  generalize hW : World.alloc (World.alloc w _) _ = W
  have hb : Below w.heap.size w W := by rw [← hW]; exact ((Below.refl _ _).alloc (Nat.le_refl _) _).alloc (by simp) _
  have r0 : Row W w.heap.size 36 [.int .i64 o.c, .int .i64 o.a, .int .i64 o.b] := by rw [← hW]; exact (Row.new' rfl).alloc _
  have r1 : Row W (w.heap.size + 1) 94 [.int .i64 0, .int .i64 0] := by rw [← hW]; exact Row.new' (by simp)
  have x0 := r0.cell_of (i := 0) rfl
  have x1 := r0.cell_of (i := 1) rfl
  have x2 := r0.cell_of (i := 2) rfl
  have HB := hide hb
  have hW1 : Both R P L S E Y W := h.stay (fun k hS => hb.block k (h.re.lt k hS)) (fun _ hS => hS) (fun k hS => Nat.lt_of_lt_of_le (h.re.lt k hS) hb.size)
  have HBg := hide ((Begin_b hW1 o).2 t ht)
  rw [if_pos hp, if_pos hp, hY1] at HBg
  have hnS : ¬ S (w.heap.size + 1) := fun c => by have := h.re.lt _ c; omega
  have hnO : ¬ L.own (w.heap.size + 1) := fun c => hnS (h.re.ow _ c)
  have HSL := hide h.re.lt
  have HR1 := hide r1
  have HGo := hide hGo
  have HAp := hide hA
  have ht' : (t : Int) < (L.n : Int) := by omega
  have ht0 : (0 : Int) ≤ (t : Int) := by omega
  have hzW : w.heap.size + 1 < W.heap.size := r1.lt
  clear hW r0 r1 hb h hGo hY1 hY' hK hW1 hA hp
  go_wp2_with fail
  refine HBg.out.mono ?_
  rintro e w3 ⟨rfl, hg3⟩
  have HG3 := hide hg3
  clear hg3
  go_wp2_with fail
  go_loopg [] 5000 (fun g w' => DoE R P L S W D t (K + 1) Y' g w')
  case atStart => exact ⟨Y1, HGo.out, HG3.out⟩
  case round =>
    obtain ⟨Yc, hgc, hgo⟩ := hrel
    obtain ⟨Ec, hB⟩ := hgo.ex
    have hl : Lim D 1000000000 Yc := hgc.lim.mono (by have := hgc.gl; omega)
    have hid := hB.idle ht
    have c1 : wr.cell? ⟨L.bE, 1, none⟩ = some (.slice (some ⟨L.g, 0, none⟩) L.n L.gc) := hB.re.eng.cell_of rfl
    have HBu := hide (busy_w hB.re ht)
    by_cases hpc : (Yc.th t).part = 0
    · have hYe := hgc.end hpc
      subst hYe
      have hen : (Yc.th t).ended ≠ 0 := by
        rw [hgc.yi.ok.ide t htD hpc]
        exact fun c => hgc.ops (List.eq_nil_of_length_eq_zero c)
      have HAn := hide ((Answer_b hB).2 t ht)
      rw [if_neg (by simpa using hpc), if_neg hen, show ansOf P Yc t = ansD P Yc t from rfl] at HAn
      have HPH := hide (show decide ((Ec.th t).phase ≠ 0) = false by simpa using hid.mpr hpc)
      have hr : Row wr (w.heap.size + 1) 94 [.int .i64 0, .int .i64 0] := HR1.out.of_block (hgo.fr.block _ HR1.out.lt hnO)
      have HR := hide hr
      have HGo2 := hide hgo
      clear hgc hgo hB hl hid hpc hen hr HG3 HGo
      go_wp2_with fail
      refine HBu.out.mono ?_
      rintro e w4 ⟨rfl, rfl⟩
      rw [HPH.out]
      go_wp2_with fail
      refine HAn.out.mono ?_
      rintro e w5 ⟨rfl, hb5⟩
      have r5 := HR.out.old hb5
      have y0 := r5.cell_of (i := 0) rfl
      have y1 := r5.cell_of (i := 1) rfl
      have z0 := r5.frozen 0
      have z1 := r5.frozen 1
      have HRo := hide (r5.set 0 (.int .i64 (ansD P Yc t).s) |>.set 1 (.int .i64 (ansD P Yc t).v))
      have HB5 := hide hb5
      clear hb5 r5
      go_wp2_with fail
      have q1 := HRo.out.cell_of (i := 0) rfl
      have q2 := HRo.out.cell_of (i := 1) rfl
      refine bodyPost_ret (v := .tuple #[.agg #[.int .i64 (ansD P Yc t).s, .int .i64 (ansD P Yc t).v], .int .i64 0]) (by simp [results, Tryz.results192, go_sem, q1, q2]) rfl ⟨rfl, ?_⟩
      refine Goes.made (W := W) (B := w.heap.size + 1) (Goes.past2 HGo2.out (B := w.heap.size + 1) (fun k hk hkk => ?_) ⟨HB5.out.os, HB5.out.tape, HB5.out.output⟩ (by simp [World.setCell]; exact HB5.out.size) hnS (by omega)) (by omega) HSL.out HB.out
      rw [Below.heap_setCell _ _ _ k hk, Below.heap_setCell _ _ _ k hk]
      exact HB5.out.block k hkk
    · have hph : 1 ≤ (Ec.th t).phase := by have := mt hid.mp hpc; omega
      have HPH := hide (show decide ((Ec.th t).phase ≠ 0) = true by simp; omega)
      have hN : Yc.bs.length ≤ 1000000000 := hl.2
      have hCan := hB.can ht hN
      have h13 := hB.phase ht
      have HSt := hide (step_w HAp.out hB.re ht hCan (hB.sz8 ht hN (Nat.le_trans (hB.yi.all hn64 (fun t ht => hl.1 t (by omega))) (by omega))) hph h13)
      obtain ⟨s1, -⟩ := M.sim_step (Nat.lt_of_lt_of_le (by decide) hn1) hB.inv ht hpc
      have hst := hgc.step (by omega) htD hpc
      rw [hDn, hDc] at hst
      have hgk : 0 < gk := hst.1
      have HPo := hide (show ∀ w', Left R L (grown S W wr) wr (M.step P L.n L.cap Ec t) w' → DoE R P L S W D t (K + 1) Y' (gk - 1) w' from fun w' hd => ⟨_, hst.2, hgo.next (Goes.left hd s1 (hB.bnd.step ht (hB.spare ht)) (hB.szs.step HAp.out.z hB.inv ht))⟩)
      clear hgc hgo hB hl hid hpc hN hCan h13 s1 hst hph
      go_wp2_with fail
      refine HBu.out.mono ?_
      rintro e w4 ⟨rfl, rfl⟩
      rw [HPH.out]
      go_wp2_with fail
      refine HSt.out.mono ?_
      rintro e w5 ⟨rfl, hd5⟩
      have HP := hide (HPo.out w5 hd5)
      clear hd5
      go_wp2_with fail
      go_roundg (gk - 1)
      case measure => omega
      case rel => exact HP.out
theorem Do_b {fA : Nat} {rv : Value} (hA : ApOk R P L fA rv) (h : Both R P L S E Y w) (D : DL) (hDn : D.n = L.n) (hDc : D.cap = L.cap) (hK : Lim D K Y) (hK9 : K + 6000 ≤ 1000000000) (o : M.Op) :
    (∀ x : Int, ¬ (0 ≤ x ∧ x < L.n) → Calls Tryz.prog 192 #[.pointer (some ⟨L.bE, 0, none⟩), .int .i64 x, .agg #[.int .i64 o.c, .int .i64 o.a, .int .i64 o.b]] w fun e w' => e = .returned (.tuple #[.agg #[.int .i64 0, .int .i64 0], .int .i64 3]) ∧ Goes R P L S w Y w')
    ∧ ∀ t, t < L.n → Calls Tryz.prog 192 #[.pointer (some ⟨L.bE, 0, none⟩), .int .i64 (t : Int), .agg #[.int .i64 o.c, .int .i64 o.a, .int .i64 o.b]] w fun e w' => e = .returned (doW P L.n L.cap Y t o) ∧ Goes R P L S w (doY L.n L.cap Y t o) w' := by
  have st : ∀ W, Below w.heap.size w W → Both R P L S E Y W := fun W hb => h.stay (fun k hS => hb.block k (h.re.lt k hS)) (fun _ hS => hS) (fun k hS => Nat.lt_of_lt_of_le (h.re.lt k hS) hb.size)
  refine ⟨fun x hx => Do_err x 3 o (by decide) h.re.lt (fun W hb => (Begin_b (st W hb) o).1 x hx) h.re.ow, fun t ht => ?_⟩
  unfold doW doY
  by_cases hp : (Y.th t).part = 0
  · rw [if_neg (by simpa using hp), if_neg (by simpa using hp)]
    exact Do_idle hA h D hDn hDc hK hK9 ht hp o
  · rw [if_pos hp, if_pos hp]
    refine Do_err (t : Int) 4 o (by decide) h.re.lt (fun W hb => ?_) h.re.ow
    have := (Begin_b (st W hb) o).2 t ht
    rw [if_neg hp, if_neg hp] at this
    exact this
end
end Go.Proofs.YtefjhnhdagolhaaGreat.int
namespace Go.Proofs.YtefjhnhdagolhaaGreat.int
open Go.RowKit
open M (upd upd_same upd_other Ver ETh ESt RSt RTh wds statusAt valueAt marks tagged num YI)
section
variable {σ : Type} {R : SR σ} {P : M.Plain σ} {L : Lt}
theorem Goes.xgo {S : Nat → Prop} {w w' : World} {Y' : RSt} (hS : ∀ k, L.own k → S k) (h : Goes R P L S w Y' w') : XGo (fun S Y w => ∃ E, Both R P L S E Y w) S w Y' w' :=
  ⟨h.ex, ⟨h.fr.os, h.fr.tape, h.fr.output, h.fr.size, fun k hk hn => h.fr.block k hk (fun c => hn (hS k c))⟩⟩
theorem stOf_eq (P : M.Plain σ) (Y : RSt) : (rpAt P Y Y.order.length).st = stOf P Y := by rw [order_len, rpAt_all]; rfl
theorem xok {tell : σ → List Int} {fA : Nat} {rv : Value} (hA : ApOk R P L fA rv) {fT : Nat} {rt : Value} (hT : TeOk R L tell fT rt) (D : DL) (hDn : D.n = L.n) (hDc : D.cap = L.cap) :
    XOk P tell D 183 L.bE (fun S Y w => ∃ E, Both R P L S E Y w) 190 195 189 192 193 194 191 where
  mBe _ := by kernel_rfl
  mSt _ := by kernel_rfl
  mAn _ := by kernel_rfl
  mDo _ := by kernel_rfl
  mOr _ := by kernel_rfl
  mTe _ := by kernel_rfl
  mBo _ := by kernel_rfl
  cBe _ _ _ := by kernel_rfl
  cSt _ _ := by kernel_rfl
  cAn _ _ := by kernel_rfl
  cDo _ _ _ := by kernel_rfl
  cOr _ := by kernel_rfl
  cTe _ := by kernel_rfl
  cBo _ := by kernel_rfl
  lt S Y w h := by obtain ⟨E, h⟩ := h; exact h.re.lt
  stay S S' Y w w' h hk hS hlt := by obtain ⟨E, h⟩ := h; exact ⟨E, h.stay hk hS hlt⟩
  be S Y w x o h := by
    obtain ⟨E, h⟩ := h
    rw [hDn]
    unfold beE beY
    by_cases hx : inR L.n x
    · rw [if_pos hx, if_pos hx]
      obtain ⟨t, rfl, ht, e⟩ := nat_of hx
      rw [e]
      refine ((Begin_b h o).2 t ht).mono ?_
      rintro e w' ⟨rfl, hg⟩
      exact ⟨rfl, hg.xgo h.re.ow⟩
    · rw [if_neg hx, if_neg hx]
      refine ((Begin_b h o).1 x hx).mono ?_
      rintro e w' ⟨rfl, hg⟩
      exact ⟨rfl, hg.xgo h.re.ow⟩
  st S Y w x h hK := by
    obtain ⟨E, h⟩ := h
    have hN := hK.2
    have hF : Y.bs.flatten.length ≤ 100000000000 := Nat.le_trans (h.yi.all h.re.ok.n64 (B := 1000000000) (fun t ht => hK.1 t (by omega))) (by omega)
    rw [hDn, hDc]
    unfold stA stE stY
    by_cases hx : inR L.n x
    · rw [if_pos hx, if_pos hx, if_pos hx]
      obtain ⟨t, rfl, ht, e⟩ := nat_of hx
      rw [e]
      by_cases hp : (Y.th t).part = 0
      · rw [if_pos hp, if_pos hp, if_pos hp]
        refine ((Step_b hA h hN hF).2.1 t ht hp).mono ?_
        rintro e w' ⟨rfl, hg⟩
        exact ⟨rfl, hg.xgo h.re.ow⟩
      · rw [if_neg hp, if_neg hp, if_neg hp]
        refine ((Step_b hA h hN hF).2.2 t ht hp).mono ?_
        rintro e w' ⟨rfl, hg⟩
        exact ⟨rfl, hg.xgo h.re.ow⟩
    · rw [if_neg hx, if_neg hx, if_neg hx]
      refine ((Step_b hA h hN hF).1 x hx).mono ?_
      rintro e w' ⟨rfl, hg⟩
      exact ⟨rfl, hg.xgo h.re.ow⟩
  an S Y w x h := by
    obtain ⟨E, h⟩ := h
    rw [hDn]
    unfold anT
    by_cases hx : inR L.n x
    · rw [if_pos hx]
      obtain ⟨t, rfl, ht, e⟩ := nat_of hx
      rw [e, ← ansW_tri]
      exact (Answer_b h).2 t ht
    · rw [if_neg hx]; exact (Answer_b h).1 x hx
  dd S Y w x o K h hK hK9 := by
    obtain ⟨E, h⟩ := h
    rw [hDn, hDc]
    unfold doT doZ
    by_cases hx : inR L.n x
    · rw [if_pos hx, if_pos hx]
      obtain ⟨t, rfl, ht, e⟩ := nat_of hx
      rw [e, ← doW_tri]
      refine ((Do_b hA h D hDn hDc hK hK9 o).2 t ht).mono ?_
      rintro e w' ⟨rfl, hg⟩
      exact ⟨rfl, hg.xgo h.re.ow⟩
    · rw [if_neg hx, if_neg hx]
      refine ((Do_b hA h D hDn hDc hK hK9 o).1 x hx).mono ?_
      rintro e w' ⟨rfl, hg⟩
      exact ⟨rfl, hg.xgo h.re.ow⟩
  or S Y w h hK := by
    obtain ⟨E, h⟩ := h
    have := h.yi.all h.re.ok.n64 (B := 1000000000) (fun t ht => hK.1 t (by omega))
    exact Order_b h hK.2 (by omega)
  te S Y w h hK := by
    obtain ⟨E, h⟩ := h
    rw [stOf_eq]
    exact State_b hT hA.z h hK.2 (Nat.le_trans (h.yi.all h.re.ok.n64 (B := 1000000000) (fun t ht => hK.1 t (by omega))) (by omega))
  bo S Y w h := by
    obtain ⟨E, h⟩ := h
    rw [hDn, hDc]
    exact Bound_b h
end
end Go.Proofs.YtefjhnhdagolhaaGreat.int
namespace Go.Proofs.YtefjhnhdagolhaaGreat.int
open Go.RowKit
open M (upd upd_same upd_other Ver ETh ESt RSt RTh wds statusAt valueAt)
theorem zeros_fn {w : World} {b : Nat} {t : TypeId} {m : Nat} (h : Row w b t (zeros (.int .i64 0) m)) : Fn w b t m (fun _ => .int .i64 0) := by
  have e : zeros (.int .i64 0) m = (List.range m).map (fun _ => Value.int .i64 0) := by
    apply List.ext_getElem
    · simp [zeros]
    · intro i h1 h2; simp [zeros]
  unfold Fn
  rw [← e]
  exact h
theorem cur_fn {w : World} {g : Nat} {e : TypeId} {cur : Array Value} {m c : Nat} (h : w.heap[g]? = some (.cells cur e (0, 0))) (hs : cur.size = m * c) : Fn2 w g e m c (fun i j => (cur.toList[i * c + j]?).getD (.int .i64 0)) := by
  have q : cur.toList = (List.range (m * c)).map (fun k => (fun i j => (cur.toList[i * c + j]?).getD (Value.int .i64 0)) (k / c) (k % c)) := by
    apply List.ext_getElem
    · simp [hs]
    · intro i h1 h2
      have : i / c * c + i % c = i := Nat.div_add_mod' i c
      simp only [List.getElem_map, List.getElem_range, this]
      rw [List.getElem?_eq_getElem h1]
      rfl
  unfold Fn2 Fn Row
  rw [← q]
  simpa using h
theorem pool_fn {w : World} {b e rw n bE : Nat} {bW : Nat → Nat} (h : Row w b e ((poolAt (2 * n + 1) rw (2 * n + 1) bW).set 1 (.pointer (some ⟨bE, 0, none⟩)))) :
    Fn2 w b e (2 * n + 1) 2 (fun r j => if j = 0 then .slice (some ⟨bW r, 0, none⟩) rw rw else .pointer ((if r = 0 then some bE else none).map fun b => ⟨b, 0, none⟩)) := by
  have q : (poolAt (2 * n + 1) rw (2 * n + 1) bW).set 1 (.pointer (some ⟨bE, 0, none⟩)) = (List.range ((2 * n + 1) * 2)).map (fun k => (fun (r j : Nat) => if j = 0 then Value.slice (some ⟨bW r, 0, none⟩) rw rw else .pointer ((if r = 0 then some bE else none).map fun b => ⟨b, 0, none⟩)) (k / 2) (k % 2)) := by
    apply List.ext_getElem
    · simp [length_poolAt]; omega
    · intro i h1 h2
      have hi : i < (2 * n + 1) * 2 := by simpa using h2
      rw [List.getElem_set]
      simp only [List.getElem_map, List.getElem_range, poolAt]
      by_cases c1 : 1 = i
      · subst c1; simp
      · rw [if_neg c1]
        by_cases c2 : i % 2 = 0
        · rw [if_pos c2, if_pos c2, if_pos (by omega)]
        · rw [if_neg c2, if_neg c2, if_neg (by omega)]
          rfl
  unfold Fn2 Fn
  rw [← q]
  exact h
section
variable {σ : Type} {R : SR σ} {P : M.Plain σ}
theorem thNew_cells (L : Lt) (t : Nat) (f : Ver σ) : thCells L t ((M.E0 P f).th t) ([.int .i64 0] ++ [.pointer none]) ([.int .i64 0] ++ [.pointer none]) (.slice none 0 0) = thNew L.bS (t : Int) (L.cap : Int) (L.gD t) (rwn L.n) (L.gG t) (tw L.n) := by
  simp [thCells, thNew, M.E0, rwn, wds, M.tw, tw]
end
end Go.Proofs.YtefjhnhdagolhaaGreat.int
namespace Go.Proofs.YtefjhnhdagolhaaGreat.int
open Go.RowKit
open M (upd upd_same upd_other Ver ETh ESt RSt RTh wds statusAt valueAt)
section
variable {σ : Type} {R : SR σ} {P : M.Plain σ}
theorem RE.new2 {w0 w : World} {x : Nat} {xl : List Value} (hx : Row w x 74 xl) {n cap : Nat} {oT : TypeId} {ov : Value} {b : Nat} (h : EngNew w0 n (cap : Int) oT ov b w) (hn : 1 ≤ n) (h64 : n ≤ 64) (hc : cap ≤ 64) {G : Nat → Prop} (hGl : ∀ k, G k → k < w0.heap.size) (hz : ∀ I : Nat → Prop, (∀ k, G k → I k) → R.rep I w P.first [.int .i64 0]) :
    ∃ L : Lt, L.n = n ∧ L.cap = cap ∧ L.oT = oT ∧ L.ov = ov ∧ L.bE = b ∧ RE R L (fun k => ((w0.heap.size ≤ k ∧ k < w.heap.size) ∧ k ≠ x) ∨ G k) (M.E0 P ⟨P.first, []⟩) w := by
  obtain ⟨W1, bS, bTg, bAn, bP, bW, bB, bE, v, gD, gG, rfl, h2, h3, h4⟩ := h
  obtain ⟨hE, hO, hG, hD, hB⟩ := h4
  have hz0 := h3.size
  have hz1 := hB.size
  obtain ⟨hl, ⟨rfl, hn0⟩ | ⟨g, gc, cur, rfl, hgb, hg, hnc, hcm, hcs, htk⟩⟩ := hO
  · omega
  · have lS := h2.1.lt
    have h2' := h2.later hB
    obtain ⟨a1, a2, a3, a4, a5, a6, a7, a8, z1, z2, z3, z4, z5, z6, z7, z8, z9, z10⟩ := h2'
    have lB : bB < W1.heap.size := h2.2.2.2.2.2.2.1.lt
    have lE : bE < W1.heap.size := h2.2.2.2.2.2.2.2.1.lt
    have lg : g < w.heap.size := by have := Array.getElem?_eq_some_iff.mp hg; exact this.1
    obtain ⟨-, y1, y2⟩ := a5 0 (by omega)
    let L : Lt := { n := n, cap := cap, oT := oT, ov := ov, bE := W1.heap.size, bS := bS, bTg := bTg, bAn := bAn, bP := bP, bW := bW, g := g, gc := gc, gD := gD, gG := gG }
    have hown : ∀ k, L.own k → w0.heap.size ≤ k ∧ k < w.heap.size ∧ k ≠ W1.heap.size ∧ k ≠ bB ∧ k ≠ bE := by
      rintro k (q | q | q | q | ⟨r, hr, q⟩ | q | ⟨t, ht, q | q⟩)
      · have q : k = bS := q; omega
      · have q : k = bTg := q; omega
      · have q : k = bAn := q; omega
      · have q : k = bP := q; omega
      · have := (a5 r hr).2
        have q : k = bW r := q; omega
      · have q : k = g := q; omega
      · obtain ⟨r1, r2, r3, r4, -⟩ := hG t ht
        have := r1.lt
        have q : k = gD t := q; omega
      · obtain ⟨r1, r2, r3, r4, -⟩ := hG t ht
        have := r2.lt
        have q : k = gG t := q; omega
    have hownx : ∀ k, L.own k → k ≠ x := by
      rintro k (q | q | q | q | ⟨r, hr, q⟩ | q | ⟨t, ht, q | q⟩)
      · have q : k = bS := q; subst q; exact Row.apart a1 hx (by decide)
      · have q : k = bTg := q; subst q; exact Row.apart a2 hx (by decide)
      · have q : k = bAn := q; subst q; exact Row.apart a3 hx (by decide)
      · have q : k = bP := q; subst q; exact Row.apart a4 hx (by decide)
      · have q : k = bW r := q; subst q; exact Row.apart (a5 r hr).1 hx (by decide)
      · have q : k = g := q; subst q; exact Row.apart (show Row w k _ cur.toList by simpa [Row] using hg) hx (by decide)
      · have q : k = gD t := q; subst q; exact Row.apart (hG t ht).1 hx (by decide)
      · have q : k = gG t := q; subst q; exact Row.apart (hG t ht).2.1 hx (by decide)
    have iB : (((w0.heap.size ≤ bB ∧ bB < w.heap.size) ∧ bB ≠ x) ∨ G bB) ∧ ¬ L.own bB := ⟨.inl ⟨by omega, Row.apart a7 hx (by decide)⟩, fun c => (hown _ c).2.2.2.1 rfl⟩
    have iE : (((w0.heap.size ≤ bE ∧ bE < w.heap.size) ∧ bE ≠ x) ∨ G bE) ∧ ¬ L.own bE := ⟨.inl ⟨by omega, Row.apart a8 hx (by decide)⟩, fun c => (hown _ c).2.2.2.2 rfl⟩
    have a1' : Row w bS 296 [.int .i64 (n : Int), .iface oT ov, .slice (some ⟨bTg, 0, none⟩) (tw n) (tw n), .slice (some ⟨bAn, 0, none⟩) n n, .slice (some ⟨bP, 0, none⟩) (2 * n + 1) (2 * n + 1), .int .i64 (((0 : Nat) : Int) * 129 + ((0 : Nat) : Int))] := by simpa using a1
    have a8' : Row w bE 227 (([.int .i64 0] ++ [.pointer (some ⟨bB, 0, none⟩)]) ++ ([.int .i64 0] ++ [.pointer (some ⟨bB, 0, none⟩)])) := by simpa [edNew] using a8
    have hV : VRep R (fun k => (((w0.heap.size ≤ k ∧ k < w.heap.size) ∧ k ≠ x) ∨ G k) ∧ ¬ L.own k) w (⟨P.first, []⟩ : Ver σ) ([.int .i64 0] ++ [.pointer (some ⟨bB, 0, none⟩)]) := ⟨[.int .i64 0], bB, rfl, hz _ (fun k hk => ⟨.inr hk, fun c => by have := (hown k c).1; have := hGl k hk; omega⟩), iB, a7⟩
    refine ⟨L, rfl, rfl, rfl, rfl, rfl, { ok := ?ok, eng := hE, enS := ⟨.inl ⟨⟨hz0, hE.lt⟩, Row.apart hE hx (by decide)⟩, fun c => (hown _ c).2.2.1 rfl⟩, sh := a1', tg := zeros_fn a2, an := zeros_fn a3, po := ⟨_, pool_fn a4, ?ed⟩, rw := fun r hr => zeros_fn (a5 r hr).1, th := ⟨_, cur_fn hg hcs, ?th⟩, gd := fun t ht => zeros_fn (hG t ht).1, gg := fun t ht => zeros_fn (hG t ht).2.1, ow := fun k hk => .inl ⟨⟨(hown k hk).1, (hown k hk).2.1⟩, hownx k hk⟩, lt := ?lt }⟩
    case lt =>
      rintro k (hk | hk)
      · exact hk.1.2
      · have := hGl k hk; omega
    case ok =>
      have hlt : ∀ r s, r < 2 * n + 1 → s < 2 * n + 1 → bW r = bW s → r = s := by
        intro r s hr hs q
        rcases Nat.lt_trichotomy r s with c | c | c
        · have := a6 r s c hs; omega
        · exact c
        · have := a6 s r c hr; omega
      refine { n1 := hn, n64 := h64, c64 := hc, gn := hnc, tw := fun r hr => ?_, ww := hlt, dg := fun t u ht hu => ?_, dd := fun t u ht hu q => ?_, gg := fun t u ht hu q => ?_ }
      · have := (a5 r hr).2.1
        show bTg ≠ bW r
        omega
      · show gD t ≠ gG u
        rcases Nat.lt_trichotomy t u with c | c | c
        · exact (hD t u c hu).2.1
        · subst c; exact (hG t ht).2.2.2.2.2.2
        · exact Ne.symm (hD u t c ht).2.2.1
      · rcases Nat.lt_trichotomy t u with c | c | c
        · exact absurd q (hD t u c hu).1
        · exact c
        · exact absurd q.symm (hD u t c ht).1
      · rcases Nat.lt_trichotomy t u with c | c | c
        · exact absurd q (hD t u c hu).2.2.2
        · exact c
        · exact absurd q.symm (hD u t c ht).2.2.2
    case ed =>
      intro r hr v' f' hq
      by_cases c : r = 0
      · subst c
        simp only [M.E0, if_true, Option.some.injEq, Prod.mk.injEq] at hq
        obtain ⟨rfl, rfl⟩ := hq
        exact ⟨bE, [.int .i64 0] ++ [.pointer (some ⟨bB, 0, none⟩)], [.int .i64 0] ++ [.pointer (some ⟨bB, 0, none⟩)], by simp, iE, a8', hV, hV⟩
      · simp [M.E0, c] at hq
    case th =>
      intro t ht
      refine ⟨[.int .i64 0] ++ [.pointer none], [.int .i64 0] ++ [.pointer none], .slice none 0 0, ?_, ⟨rfl, fun u hu => nomatch hu⟩, ⟨rfl, fun u hu => nomatch hu⟩, .inl ⟨rfl, rfl⟩⟩
      intro j v' hv
      have hj : j < 28 := by
        have := (List.getElem?_eq_some_iff.mp hv).1
        simpa [thCells] using this
      rw [thNew_cells L t] at hv
      show (cur.toList[t * 28 + j]?).getD (.int .i64 0) = v'
      rw [← thAll_get bS n (cap : Int) gD gG n t j ht hj, ← htk, List.getElem?_take] at hv
      split at hv
      · rw [hv]; rfl
      · cases hv
theorem Both.new2 {w0 w : World} {x : Nat} {xl : List Value} (hx : Row w x 74 xl) {n cap : Nat} {oT : TypeId} {ov : Value} {b : Nat} (h : EngNew w0 n (cap : Int) oT ov b w) (hn : 1 ≤ n) (h64 : n ≤ 64) (hc : cap ≤ 64) {G : Nat → Prop} (hGl : ∀ k, G k → k < w0.heap.size) (hz : ∀ I : Nat → Prop, (∀ k, G k → I k) → R.rep I w P.first [.int .i64 0]) :
    ∃ L : Lt, L.n = n ∧ L.cap = cap ∧ L.oT = oT ∧ L.ov = ov ∧ L.bE = b ∧ Both R P L (fun k => ((w0.heap.size ≤ k ∧ k < w.heap.size) ∧ k ≠ x) ∨ G k) (M.E0 P ⟨P.first, []⟩) M.Y0 w := by
  obtain ⟨L, e1, e2, e3, e4, e5, r⟩ := RE.new2 (P := P) hx h hn h64 hc hGl hz
  exact ⟨L, e1, e2, e3, e4, e5, r, M.inv_new P L.n L.cap _, M.bnd_new P L.n _, M.szs_new _ P L.n _⟩
end
end Go.Proofs.YtefjhnhdagolhaaGreat.int
namespace Go.Proofs.YtefjhnhdagolhaaGreat.int
open Go.RowKit
open M (upd upd_same upd_other Ver ETh ESt RSt RTh wds statusAt valueAt marks tagged num YI)
section
variable {σ : Type} {P : M.Plain σ} {tell : σ → List Int}
theorem xnew {n cap : Nat} {oT : TypeId} {fA fT : Nat} {w b w'} (hn : 1 ≤ n) (h64 : n ≤ 64) (hc : cap ≤ 64)
    (h : ∃ (w1 : World) (G : Nat → Prop) (R : SR σ) (ov rv rt : Value), Below w.heap.size w w1 ∧ ObjNew w1 n (cap : Int) oT ov b w' ∧ (∀ k, G k → w.heap.size ≤ k ∧ k < w1.heap.size) ∧ (∀ I : Nat → Prop, (∀ k, G k → I k) → R.rep I w' P.first [.int .i64 0]) ∧ (∀ L : Lt, L.oT = oT → L.ov = ov → ApOk R P L fA rv) ∧ ∀ L : Lt, L.oT = oT → L.ov = ov → TeOk R L tell fT rt) : XNew P tell n cap w b w' := by
  obtain ⟨wg, G, R, ov, rv, rt, hbg, ⟨bN', hr', hE, hge⟩, hG, hz, hA, hT⟩ := h
  obtain ⟨L, e1, e2, e3, e4, rfl, hB⟩ := Both.new2 (P := P) hr' hE hn h64 hc (fun k hk => (hG k hk).2) hz
  have z3 := hbg.size
  have z5 := hE.below.1.size
  refine ⟨_, L.bE, _, _, _, _, _, _, _, _, _, fun D d1 d2 => xok (hA L e3 e4) (hT L e3 e4) D (d1.trans e1.symm) (d2.trans e2.symm), ⟨_, hB⟩, hr', ?_, by omega, Below.next hbg hE.below.1 hbg.size⟩
  rintro k (c | c)
  · exact ⟨by omega, c.1.2, c.2⟩
  · have := hG k c
    exact ⟨by omega, by omega, by omega⟩
end
end Go.Proofs.YtefjhnhdagolhaaGreat.int
