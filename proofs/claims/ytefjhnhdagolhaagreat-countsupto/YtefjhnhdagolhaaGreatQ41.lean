import Derived.Test.YtefjhnhdagolhaaGreatQ39
namespace Go.Proofs.YtefjhnhdagolhaaGreat
open Go.RowKit
open M (upd upd_same upd_other RSt RTh cnt marks tagged num)
attribute [local go_sem ↓] Go.wp_at_zero Go.wp_at_succ
theorem order_len (Y : RSt) : Y.order.length = Y.bs.flatten.length := by
  unfold M.RSt.order
  rw [M.marks_len]
  have := congrArg List.length Y.all_snd
  simpa using this
theorem order_get (Y : RSt) (u : Nat) (hu : u < Y.order.length) (hf : u < Y.bs.flatten.length) : (Y.order[u]).t = Y.bs.flatten[u] ∧ (Y.order[u]).s = (Y.bs.flatten.take u).count Y.bs.flatten[u] := by
  have ha := Y.all_snd
  have hl : u < Y.all.length := by have := congrArg List.length ha; rw [List.length_map] at this; omega
  have e1 : (Y.all[u]).2 = Y.bs.flatten[u] := by
    have : (Y.all.map Prod.snd)[u]'(by simpa using hl) = Y.bs.flatten[u] := by simp only [ha]
    simpa using this
  have e2 : (Y.all.take u).map Prod.snd = Y.bs.flatten.take u := by rw [List.map_take, ha]
  have e3 : Y.order[u] = ⟨(Y.all[u]).1, (Y.all[u]).2, ((Y.all.take u).map Prod.snd).count (Y.all[u]).2⟩ := by
    have : Y.order[u]? = some ⟨(Y.all[u]).1, (Y.all[u]).2, ((Y.all.take u).map Prod.snd).count (Y.all[u]).2⟩ := by
      unfold M.RSt.order marks
      rw [List.getElem?_mapIdx, List.getElem?_eq_getElem hl]
      rfl
    rw [List.getElem?_eq_getElem hu] at this
    injection this
  rw [e3]
  dsimp only
  rw [e2, e1]
  exact ⟨rfl, rfl⟩
section
variable {σ : Type}
def rpAt (P : M.Plain σ) (Y : RSt) (u : Nat) : M.Rp σ := (M.Rp.new P).run P (fun k i => ((Y.th k).ops).getD i ⟨0, 0, 0⟩) (Y.bs.flatten.take u)
theorem rpAt_succ (P : M.Plain σ) (Y : RSt) (u : Nat) (hu : u < Y.bs.flatten.length) : rpAt P Y (u + 1) = (rpAt P Y u).next P (fun k i => ((Y.th k).ops).getD i ⟨0, 0, 0⟩) Y.bs.flatten[u] := by
  unfold rpAt
  rw [List.take_succ_eq_append_getElem hu, M.run_snoc]
theorem rpAt_c (P : M.Plain σ) (Y : RSt) (u k : Nat) : (rpAt P Y u).c k = (Y.bs.flatten.take u).count k := by
  unfold rpAt
  rw [M.run_c]
  simp [M.Rp.new]
theorem rpAt_all (P : M.Plain σ) (Y : RSt) : rpAt P Y Y.bs.flatten.length = M.replay P (fun k i => ((Y.th k).ops).getD i ⟨0, 0, 0⟩) Y.bs := by
  unfold rpAt M.replay
  rw [List.take_length]
end
structure RpJ {σ : Type} (L : DL) (HM : World → Value → σ → Prop) (Y : RSt) (w : World) (b8 : Nat) (vl : Value) (s : σ) (vh : Value) (an : M.Ans) (w' : World) : Prop where
  below : Below w.heap.size w w'
  pl : Row w' b8 159 (plc L vh)
  hm : HM w' vh s
  vhb : ∀ k, vh.ownBlock = some k → w.heap.size + 2 ≤ k ∧ k ≠ b8 ∧ k ≠ b8 + 1 ∧ vl.ownBlock ≠ some k
  b8w : w.heap.size + 2 ≤ b8
  ar : Row w' (b8 + 1) 94 [.int .i64 an.s, .int .i64 an.v]
  r6 : Row w' w.heap.size 159 [.int .i64 0, .int .i64 0, .int .i64 0, .slice none 0 0, .slice none 0 0, .slice none 0 0]
  r7 : Row w' (w.heap.size + 1) 94 [.int .i64 0, .int .i64 0]
  ml : w'.ownsRow (b8 + 2) 81 3 vl Y.order.length (markcs Y.order)
section
variable {σ : Type} {L : DL} {P : M.Plain σ} {tell : σ → List Int} {sz : σ → Nat} {HM : World → Value → σ → Prop} {Au : Nat → World → Prop} {Y : RSt} {w w1 w2 : World} {b8 : Nat} {vl vh : Value} {s : σ} {an : M.Ans}
def RpJ.K (w : World) (b8 : Nat) (vl vh : Value) (k : Nat) : Prop := k < w.heap.size + 2 ∨ k = b8 ∨ k = b8 + 1 ∨ vh.ownBlock = some k ∨ vl.ownBlock = some k
theorem RpJ.stay (hD : DOk L P tell sz HM Au) (h : RpJ L HM Y w b8 vl s vh an w1) (hk : ∀ k, RpJ.K w b8 vl vh k → w2.heap[k]? = w1.heap[k]?) (ho : w2.os = w1.os ∧ w2.tape = w1.tape ∧ w2.output = w1.output) (hz : w1.heap.size ≤ w2.heap.size) : RpJ L HM Y w b8 vl s vh an w2 where
  below := ⟨ho.1.trans h.below.os, ho.2.1.trans h.below.tape, ho.2.2.trans h.below.output, Nat.le_trans h.below.size hz, fun k hkk => (hk k (.inl (by omega))).trans (h.below.block k hkk)⟩
  pl := h.pl.of_block (hk _ (.inr (.inl rfl)))
  hm := hD.stay _ _ _ _ h.hm fun k e => hk k (.inr (.inr (.inr (.inl e))))
  vhb := h.vhb
  b8w := h.b8w
  ar := h.ar.of_block (hk _ (.inr (.inr (.inl rfl))))
  r6 := h.r6.of_block (hk _ (.inl (by omega)))
  r7 := h.r7.of_block (hk _ (.inl (by omega)))
  ml := owns_block h.ml fun k e => hk k (.inr (.inr (.inr (.inr e))))
theorem RpJ.lt (hD : DOk L P tell sz HM Au) (h : RpJ L HM Y w b8 vl s vh an w1) : ∀ k, RpJ.K w b8 vl vh k → k < w1.heap.size := fun k hk => by
  have h7 := h.r7.lt
  rcases hk with q | q | q | q | q
  · omega
  · rw [q]; exact h.pl.lt
  · rw [q]; exact h.ar.lt
  · exact hD.lt _ _ _ h.hm k q
  · exact (h.ml.lt k q).2
theorem RpJ.later (hD : DOk L P tell sz HM Au) (h : RpJ L HM Y w b8 vl s vh an w1) (hb : Below w1.heap.size w1 w2) : RpJ L HM Y w b8 vl s vh an w2 :=
  h.stay hD (fun k hk => hb.block k (h.lt hD k hk)) ⟨hb.os, hb.tape, hb.output⟩ hb.size
theorem RpJ.does (h : RpJ L HM Y w b8 vl s vh an w1) {s' : σ} {vh' : Value} (hr : Row w2 b8 159 (plc L vh')) (hm : HM w2 vh' s') (hv : ∀ k, vh'.ownBlock = some k → k ≠ b8 ∧ (vh.ownBlock = some k ∨ w1.heap.size ≤ k)) (hf : Fr (fun k => k = b8 ∨ vh.ownBlock = some k) w1 w2) : RpJ L HM Y w b8 vl s' vh' an w2 := by
  have old : ∀ k, k < w1.heap.size → k ≠ b8 → vh.ownBlock ≠ some k → w2.heap[k]? = w1.heap[k]? := fun k hk h1 h2 => hf.block k hk fun c => by rcases c with c | c; exact h1 c; exact h2 c
  have h8 := h.b8w
  have hz := h.below.size
  have h7 := h.r7.lt
  have hml := h.ml.lt
  exact {
    below := ⟨hf.os.trans h.below.os, hf.tape.trans h.below.tape, hf.output.trans h.below.output, Nat.le_trans hz hf.size, fun k hk => (old k (by omega) (by omega) (fun e => by have := h.vhb k e; omega)).trans (h.below.block k hk)⟩
    pl := hr
    hm := hm
    vhb := fun k e => by
      obtain ⟨q1, q2⟩ := hv k e
      rcases q2 with q2 | q2
      · exact h.vhb k q2
      · have h9 := h.ar.lt
        exact ⟨by omega, q1, by omega, fun c => by have := (hml k c).2; omega⟩
    b8w := h.b8w
    ar := h.ar.of_block (old _ h.ar.lt (by omega) (fun e => (h.vhb _ e).2.2.1 rfl))
    r6 := h.r6.of_block (old _ h.r6.lt (by omega) (fun e => by have := (h.vhb _ e).1; omega))
    r7 := h.r7.of_block (old _ h.r7.lt (by omega) (fun e => by have := (h.vhb _ e).1; omega))
    ml := owns_block h.ml fun k e => old k (hml k e).2 (fun c => by have := (hml k e).1; omega) (fun c => (h.vhb k c).2.2.2 e) }
theorem RpJ.write (hD : DOk L P tell sz HM Au) (h : RpJ L HM Y w b8 vl s vh an w1) (an' : M.Ans) : RpJ L HM Y w b8 vl s vh an' (w1.setCells (b8 + 1) 0 [.int .i64 an'.s, .int .i64 an'.v]) := by
  have old : ∀ k, k ≠ b8 + 1 → (w1.setCells (b8 + 1) 0 [.int .i64 an'.s, .int .i64 an'.v]).heap[k]? = w1.heap[k]? := fun k hk => by
    simp only [World.setCells]
    rw [Below.heap_setCell _ _ _ k hk, Below.heap_setCell _ _ _ k hk]
  have h8 := h.b8w
  exact {
    below := below_setCells (by omega) _ _ _ h.below
    pl := h.pl.of_block (old _ (by omega))
    hm := hD.stay _ _ _ _ h.hm fun k e => old k (fun c => (h.vhb k e).2.2.1 c)
    vhb := h.vhb
    b8w := h.b8w
    ar := by simp only [World.setCells]; exact (h.ar.set 0 _).set 1 _
    r6 := h.r6.of_block (old _ (by omega))
    r7 := h.r7.of_block (old _ (by omega))
    ml := owns_block h.ml fun k e => old k (by have := (h.ml.lt k e).1; omega) }
end
end Go.Proofs.YtefjhnhdagolhaaGreat
