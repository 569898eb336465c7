import Derived.Test.YtefjhnhdagolhaaGreatQ00
import Derived.Deep.DeepAppendRoom
import Derived.Test.YtefjhnhdagolhaaGreatQ13
import Derived.Test.YtefjhnhdagolhaaGreatProg
import Derived.Test.YtefjhnhdagolhaaGreatQ10
import Derived.Test.YtefjhnhdagolhaaGreatQ05
import Derived.Laws.CopyOwn
import Derived.Test.YtefjhnhdagolhaaGreatQ06
import Derived.Test.YtefjhnhdagolhaaGreatQ01
namespace Go.Proofs.YtefjhnhdagolhaaGreat
open Go.RowKit
section
variable {P : Program} (w : World)
theorem run_append_keep (t ty : TypeId) (base : Nat) (e : TypeId) (i : TypeInfo) (z : Value) (size bytes : Nat) (ht : P.underlying t = some (.slice e)) (hi : P.info? e = some i) (hz : i.zero = some z)
    (hsize : i.size = size) (hby : i.bytes = bytes) (hzs : z.cells.size = size) (hsz : 0 < size)
    (v : Value) (n : Nat) (xs : List Value) (hown : w.ownsRow base e size v n xs)
    (ad : Addr) (m c : Nat) (news : List Value) (hl : news.length = m * size) (hnews : ∀ j u, news[j]? = some u → w.cell? (ad.add j) = some u) (h1 : ∀ u ∈ news, u.oneCell' = true)
    (hm : 0 < m) (h63 : n + m ≤ maxLen) (hbytes : (n + m) * bytes ≤ 140737488355328) (hbase : base ≤ w.heap.size) :
    ∃ g cap w', (Builtin.append_ #[t, t] ty #[v, .slice (some ad) m c]).run P w = .ok (.slice (some ⟨g, 0, none⟩) (n + m) cap) w' ∧
      w'.ownsRow base e size (.slice (some ⟨g, 0, none⟩) (n + m) cap) (n + m) (xs ++ news) ∧ w.grownBy w' v.ownBlock ∧ g < w'.heap.size ∧
      (v.ownBlock = some g ∨ (g = w.heap.size ∧ ∀ k, k < w.heap.size → w'.heap[k]? = w.heap[k]?)) := by
  obtain ⟨g, cap, w', hr, h2, h3, h4, h5⟩ := run_append_lies (P := P) w t ty base e i z size bytes ht hi hz hsize hby hzs hsz v n xs hown ad m c news hl hnews h1 hm h63 hbytes hbase w.heap.size rfl
  refine ⟨g, cap, w', hr, h2, h3, h5, ?_⟩
  have h63' : ((n + m : Nat) : Int) ≤ 9223372036854775807 := by unfold maxLen at h63; omega
  have alloc_old : ∀ (o : Obj) (k : Nat), k < w.heap.size → (w.drew.alloc o).heap[k]? = w.heap[k]? := fun o k hk => (below_alloc w.drew o).block k hk
  rcases hown.2 with ⟨rfl, rfl⟩ | ⟨g0, cap0, cur, rfl, hb, hg, hnc, hcm, hcs, htk⟩
  · have hq := run_append_nil (P := P) w t ty e i z ht hi hz ad m c news (by rw [hsize]; exact hl) hnews hm (by omega) (by rw [hby]; rw [Nat.zero_add] at hbytes; omega)
    rw [hr] at hq
    injection hq with q1 q2
    injection q1 with q3 q4
    injection q3 with q5
    injection q5 with q6
    subst q2
    exact .inr ⟨q6, alloc_old _⟩
  · by_cases hroom : n + m ≤ cap0
    · obtain ⟨w2, hq, -⟩ := run_append_own_spare (P := P) w base t ty e i size ht hi hsize g0 n cap0 xs hown ad m c news hl hnews h1 hroom
      rw [hr] at hq
      injection hq with q1 q2
      injection q1 with q3 q4
      injection q3 with q5
      injection q5 with q6
      exact .inl (by rw [q6]; rfl)
    · have hc : ∀ j u, xs[j]? = some u → w.cell? ((⟨g0, 0, none⟩ : Addr).add j) = some u := fun j u hj => by
        have := hown.cells (g := g0) rfl j u hj
        simpa [Addr.add] using this
      have hq := run_append_grow (P := P) w t ty e i z ht hi hz ⟨g0, 0, none⟩ n cap0 xs (by rw [hsize]; exact hown.1) hc ad m c news (by rw [hsize]; exact hl) hnews (by omega) h63' (by rw [hby]; exact growslice_fits (by omega) hbytes)
      rw [hr] at hq
      injection hq with q1 q2
      injection q1 with q3 q4
      injection q3 with q5
      injection q5 with q6
      subst q2
      exact .inr ⟨q6, alloc_old _⟩
theorem wpList_append_keep {ops : Array Oper} {rest : List Oper} {o : Oper} {a : Act} {Q : Exit → Act → World → Prop} (hgd : o.guard = none) (s x : Operand) (t : TypeId)
    (ho : o.op = .call { callee := .builtin .append, args := #[s, x], argTypes := #[t, t] })
    (base : Nat) (e : TypeId) (i : TypeInfo) (z : Value) (size bytes : Nat) (ht : P.underlying t = some (.slice e)) (hi : P.info? e = some i) (hz : i.zero = some z)
    (hsize : i.size = size) (hby : i.bytes = bytes) (hzs : z.cells.size = size) (hsz : 0 < size)
    (v : Value) (n : Nat) (xs : List Value) (hs : a.eval s = v) (hown : w.ownsRow base e size v n xs)
    (ad : Addr) (m c : Nat) (news : List Value) (hx : a.eval x = .slice (some ad) m c) (hl : news.length = m * size) (hnews : ∀ j u, news[j]? = some u → w.cell? (ad.add j) = some u) (h1 : ∀ u ∈ news, u.oneCell' = true)
    (hm : 0 < m) (h63 : n + m ≤ maxLen) (hbytes : (n + m) * bytes ≤ 140737488355328) (hbase : base ≤ w.heap.size)
    (h : ∀ g cap w', w'.ownsRow base e size (.slice (some ⟨g, 0, none⟩) (n + m) cap) (n + m) (xs ++ news) → w.grownBy w' v.ownBlock → g < w'.heap.size → (v.ownBlock = some g ∨ (g = w.heap.size ∧ ∀ k, k < w.heap.size → w'.heap[k]? = w.heap[k]?)) → wpList P ops Q rest (a.put o.dst (.slice (some ⟨g, 0, none⟩) (n + m) cap)) w') : wpList P ops Q (o :: rest) a w :=
  wpList_plain hgd fun _ hK => by
    obtain ⟨g, cap, w', hr, h2, h3, h4, h5⟩ := run_append_keep (P := P) w t o.type base e i z size bytes ht hi hz hsize hby hzs hsz v n xs hown ad m c news hl hnews h1 hm h63 hbytes hbase
    unfold Oper.wp execOp
    simp only [ho, resolve, invoke, builtin, Sem.run_bind, Sem.run_pure, Result.andThen_ok, List.map_toArray, List.map_cons, List.map_nil, hs, hx, hr]
    exact hK _ _ (h g cap w' h2 h3 h4 h5)
end
end Go.Proofs.YtefjhnhdagolhaaGreat
namespace Go.Proofs.YtefjhnhdagolhaaGreat
open Go.RowKit
def Reads (mk : Nat → Value) (sz i : Nat) (s : Value) (W : World) : Prop :=
  s = .slice none 0 0 ∨ ∃ g j c, s = .slice (some ⟨g, 0, none⟩) j c ∧ j ≤ i ∧ j ≤ c ∧ g < W.heap.size ∧ ∀ p, p < j * sz → W.cell? ⟨g, p, none⟩ = some (mk p)
theorem Reads.append {mk : Nat → Value} {sz i : Nat} {s : Value} {W W' : World} (h : Reads mk sz i s W) {v : Value} {g cap base : Nat} {e : TypeId} {xs : List Value} (hgr : W.grownBy W' v.ownBlock)
    (hown : W'.ownsRow base e sz (.slice (some ⟨g, 0, none⟩) (i + 1) cap) (i + 1) xs) (hx : ∀ p, p < (i + 1) * sz → xs[p]? = some (mk p))
    (hk : v.ownBlock = some g ∨ ∀ k, k < W.heap.size → W'.heap[k]? = W.heap[k]?) : Reads mk sz (i + 1) s W' := by
  rcases h with h | ⟨gs, j, c, rfl, h1, h2, h3, h4⟩
  · exact .inl h
  · have hz : W.heap.size ≤ W'.heap.size := hgr.size
    refine .inr ⟨gs, j, c, rfl, by omega, h2, by omega, fun p hp => ?_⟩
    by_cases e1 : v.ownBlock = some gs
    · rcases hk with hk | hk
      · have : gs = g := by rw [e1] at hk; injection hk
        subst this
        have hlt : p < (i + 1) * sz := Nat.lt_of_lt_of_le hp (Nat.mul_le_mul_right sz (by omega))
        have := hown.cells (g := gs) rfl p _ (hx p hlt)
        rw [show (⟨gs, 0, none⟩ : Addr).add p = ⟨gs, p, none⟩ by by_cases q : p = 0 <;> simp [Addr.add, q]] at this
        exact this
      · rw [World.cell?_of_block (w := W) (a := ⟨gs, p, none⟩) (hk gs h3)]; exact h4 p hp
    · exact hgr.cell (h4 p hp) (fun q => e1 q.symm)
theorem Reads.grown {mk : Nat → Value} {sz i : Nat} {s : Value} {W W' : World} (h : Reads mk sz i s W) {row : Option Nat} (hgr : W.grownBy W' row) (hne : ∀ g j c, s = .slice (some ⟨g, 0, none⟩) j c → row ≠ some g) : Reads mk sz i s W' := by
  rcases h with h | ⟨gs, j, c, rfl, h1, h2, h3, h4⟩
  · exact .inl h
  · have hz : W.heap.size ≤ W'.heap.size := hgr.size
    exact .inr ⟨gs, j, c, rfl, h1, h2, by omega, fun p hp => hgr.cell (h4 p hp) (fun q => hne gs j c rfl q.symm)⟩
end Go.Proofs.YtefjhnhdagolhaaGreat
namespace Go.Proofs.YtefjhnhdagolhaaGreat
open Go.RowKit
theorem grown_below {w w' : World} (h : Below w.heap.size w w') : w.grownBy w' none := ⟨h.os, h.tape, h.output, h.size, fun k hk _ => h.block k hk⟩
section
variable {w : World} {bL : Nat} {tW tO tL : TypeId} {sz : Nat} {u mk : Value} {cs : Value → List Value} {i k : Nat} {l : Value} {gm cm : Nat} {ss : List Value} {W W' : World}
end
end Go.Proofs.YtefjhnhdagolhaaGreat
namespace Go.Proofs.YtefjhnhdagolhaaGreat
open Go.RowKit
attribute [local go_sem ↓] Go.wp_at_zero Go.wp_at_succ
theorem info_mout : (Tryz.prog.info? 99).map (fun i => (i.zero, i.size, i.bytes)) = some (some (.agg #[.slice none 0 0, .int .i64 0]), 2, 32) := by kernel_rfl
theorem info_mark : (Tryz.prog.info? 81).map (fun i => (i.zero, i.size, i.bytes)) = some (some (.agg #[.int .i64 0, .int .i64 0, .int .i64 0]), 3, 24) := by kernel_rfl
end Go.Proofs.YtefjhnhdagolhaaGreat
namespace Go.Proofs.YtefjhnhdagolhaaGreat
open Go.RowKit
attribute [local go_sem ↓] Go.wp_at_zero Go.wp_at_succ
theorem info_iout : (Tryz.prog.info? 102).map (fun i => (i.zero, i.size, i.bytes)) = some (some (.agg #[.slice none 0 0, .int .i64 0]), 2, 32) := by kernel_rfl
theorem info_i3 : (Tryz.prog.info? 3).map (fun i => (i.zero, i.size, i.bytes)) = some (some (.int .i64 0), 1, 8) := by kernel_rfl
end Go.Proofs.YtefjhnhdagolhaaGreat
namespace Go.Proofs.YtefjhnhdagolhaaGreat
open Go.RowKit
attribute [local go_sem ↓] Go.wp_at_zero Go.wp_at_succ
set_option maxRecDepth 20000 in
set_option maxHeartbeats 1000000 in
theorem index_w (xs : List Int) (v : Value) (x : Int) (w : World) (hs : Sl w v (ints xs)) (hl : xs.length ≤ 1048576) :
    Calls Tryz.prog 243 #[v, .int .i64 x] w fun e w' => ∃ r : Int, e = .returned (.int .i64 r) ∧ (0 ≤ r ↔ x ∈ xs) ∧ w' = w := by
  obtain ⟨a, c, rfl, hca, hcm, hop⟩ := hs.open_ints
  have HS := hide hop
  clear hs hop
  go_enter Tryz.func243, Tryz.ntmps243
  go_wp2
  go_loopw [8] (fun i w' => ∃ k : Nat, k ≤ xs.length ∧ i = .int .i64 (k : Int) ∧ (∀ j, j < k → xs[j]? ≠ some x) ∧ w = w') (fun i _ => xs.length - (intOf i).toNat)
  case atStart => exact ⟨0, Nat.zero_le _, rfl, fun j hj => absurd hj (Nat.not_lt_zero _), rfl⟩
  case round =>
    obtain ⟨k, hk, rfl, hno, rfl⟩ := hrel
    have HNO := hide hno
    clear hno
    by_cases hlt : k < xs.length
    · have hlt' : (k : Int) < (xs.length : Int) := by omega
      obtain ⟨g, off, rfl, hcell⟩ := HS.out k hlt
      have hg : xs[k]? = some xs[k] := List.getElem?_eq_getElem hlt
      generalize xs[k] = y at hcell hg
      have HG := hide hg
      clear hg
      by_cases hxy : x = y
      · subst hxy
        go_wp2
        go_ret
        exact ⟨(k : Int), rfl, ⟨fun _ => List.mem_of_getElem? HG.out, fun _ => by omega⟩, rfl⟩
      · have hne : (x == y) = false := by simpa using hxy
        have HX := hide hxy
        clear hxy
        go_wp2
        go_roundw
        case rel =>
          refine ⟨k + 1, by omega, by go_num, fun j hj => ?_, by trivial⟩
          by_cases q : j = k
          · rw [q, HG.out]
            intro e
            injection e with e
            exact HX.out e.symm
          · exact HNO.out j (by omega)
        case measure => simp [intOf]; omega
    · have hlt' : ¬ (k : Int) < (xs.length : Int) := by omega
      go_wp2
      go_ret
      refine ⟨-1, rfl, ⟨fun q => absurd q (by decide), fun hm => ?_⟩, rfl⟩
      obtain ⟨j, hj, e⟩ := List.getElem_of_mem hm
      exact absurd (by rw [List.getElem?_eq_getElem hj, e]) (HNO.out j (by omega))
set_option maxHeartbeats 1000000 in
theorem contains_w (xs : List Int) (v : Value) (x : Int) (w : World) (hs : Sl w v (ints xs)) (hl : xs.length ≤ 1048576) :
    Calls Tryz.prog 229 #[v, .int .i64 x] w fun e w' => e = .returned (.bool (decide (x ∈ xs))) ∧ w' = w := by
  have HS := hide hs
  clear hs
  go_enter Tryz.func229, Tryz.ntmps229
  go_wp2_with fail
  refine (index_w xs v x w HS.out hl).mono ?_
  rintro e w1 ⟨r, rfl, hr, rfl⟩
  have HR := hide hr
  clear hr
  go_wp2_with fail
  go_ret
  refine ⟨ret_bool ?_, rfl⟩
  by_cases q : 0 ≤ r
  · simp [q, HR.out.1 q]
  · have : ¬ x ∈ xs := fun m => q (HR.out.2 m)
    simp [q, this]
end Go.Proofs.YtefjhnhdagolhaaGreat
namespace Go.Proofs.YtefjhnhdagolhaaGreat
open Go.RowKit
attribute [local go_sem ↓] Go.wp_at_zero Go.wp_at_succ
def Entries (W : World) (v : Value) (es : List (Value × Nat)) : Prop :=
  ∃ a c, v = .slice a es.length c ∧ (0 < es.length → ∃ g, a = some ⟨g, 0, none⟩ ∧ g < W.heap.size ∧ ∀ (t : Nat) (s : Value) (k : Nat), es[t]? = some (s, k) → W.cell? ⟨g, t * 2, none⟩ = some s ∧ W.cell? ⟨g, t * 2 + 1, none⟩ = some (.int .i64 (k : Int)))
theorem Reads.open {mk : Nat → Value} {sz i : Nat} {s : Value} {W : World} (h : Reads mk sz i s W) :
    ∃ a j c, s = .slice a j c ∧ j ≤ i ∧ (0 < j → ∃ g, a = some ⟨g, 0, none⟩ ∧ g < W.heap.size ∧ ∀ p, p < j * sz → W.cell? ⟨g, p, none⟩ = some (mk p)) := by
  rcases h with rfl | ⟨g, j, c, rfl, h1, -, h3, h4⟩
  · exact ⟨none, 0, 0, rfl, Nat.zero_le _, fun h => absurd h (by decide)⟩
  · exact ⟨_, j, c, rfl, h1, fun _ => ⟨g, rfl, h3, h4⟩⟩
def markCell (k : Nat) (p : Nat) : Value := .int .i64 (if p % 3 = 0 then -1 - (k : Int) else -1)
def intCell (k : Nat) (_ : Nat) : Value := .int .i64 (-1 - (k : Int))
def OAt (W : World) (b : Nat) (s : Value) (m : Nat) (w' : World) : Prop := Below W.heap.size W w' ∧ w'.cell? ⟨b, 0, none⟩ = some s ∧ w'.cell? ⟨b, 1, none⟩ = some (.int .i64 (m : Int)) ∧ b < w'.heap.size
theorem OAt.next {W : World} {b : Nat} {s : Value} {m : Nat} {w1 w2 : World} (h : OAt W b s m w1) (hb : Below w1.heap.size w1 w2) : OAt W b s m w2 :=
  ⟨Below.next h.1 hb h.1.size, cell_later hb h.2.1, cell_later hb h.2.2.1, Nat.lt_of_lt_of_le h.2.2.2 hb.size⟩
theorem OAt.drewN {W : World} {b : Nat} {s : Value} {m : Nat} {w1 : World} (h : OAt W b s m w1) (n : Nat) : OAt W b s m (w1.drewN n) := h.next (Below.drewN (Below.refl _ _) n)
set_option maxRecDepth 20000 in
set_option maxHeartbeats 4000000 in
theorem looks_any (bL : Nat) (x y ms is : Value) (es1 es2 : List (Value × Nat)) (J : Nat) (hJ : J ≤ 1099511627776) (W : World) (hR : Row W bL 90 [x, y, ms, is]) (h1 : Entries W ms es1) (h2 : Entries W is es2) (l1 : es1.length ≤ 1099511627776) (l2 : es2.length ≤ 1099511627776)
    (r1 : ∀ s k, (s, k) ∈ es1 → k ≤ 1099511627776 ∧ Reads (markCell k) 3 J s W) (r2 : ∀ s k, (s, k) ∈ es2 → k ≤ 1099511627776 ∧ Reads (intCell k) 1 J s W) :
    Calls Tryz.prog 19 #[.pointer (some ⟨bL, 0, none⟩)] W fun e w' => e = .returned (.bool true) ∧ Below W.heap.size W w' := by
  obtain ⟨am, cm, rfl, hm⟩ := h1
  obtain ⟨ai, ci, rfl, hi⟩ := h2
  have HM := hide hm
  have HI := hide hi
  have R1 := hide r1
  have R2 := hide r2
  have HR := hide hR
  clear hm hi r1 r2 hR
  go_enter Tryz.func19, Tryz.ntmps19
  go_wp2
  go_loopw [3] (fun i w' => ∃ k : Nat, k ≤ es1.length ∧ i = .int .i64 (k : Int) ∧ Below W.heap.size W w') (fun i _ => es1.length - (intOf i).toNat)
  case atStart => exact ⟨0, Nat.zero_le _, rfl, Below.refl _ _⟩
  case round =>
    obtain ⟨k, hk, rfl, hB⟩ := hrel
    have c2 : wr.cell? ⟨bL, 2, none⟩ = some (.slice am es1.length cm) := (HR.out.old hB).cell_of rfl
    by_cases hlt : k < es1.length
    · have hlt' : (k : Int) < (es1.length : Int) := by omega
      have hk0 : (0 : Int) ≤ (k : Int) := by omega
      obtain ⟨g, rfl, hg, hcs⟩ := HM.out (by omega)
      have he : es1[k]? = some (es1[k].1, es1[k].2) := List.getElem?_eq_getElem hlt
      obtain ⟨hc1, hc2⟩ := hcs k _ _ he
      obtain ⟨hkm, hrd⟩ := R1.out _ _ (List.mem_of_getElem? he)
      generalize es1[k].2 = m at he hc2 hkm hrd
      generalize es1[k].1 = s at he hc1 hrd
      obtain ⟨a, j, c, rfl, hj, hrs⟩ := hrd.open
      have d1 : wr.cell? ⟨g, k * 2, none⟩ = some (.slice a j c) := cell_later hB hc1
      have d2 : wr.cell? ⟨g, k * 2 + 1, none⟩ = some (.int .i64 (m : Int)) := cell_later hB hc2
      have HB := hide hB
      have HRS := hide hrs
      have HO := hide (fun (W' : World) (hw : W' = wr.alloc (.cells #[.slice a j c, .int .i64 (m : Int)] 99)) => (show OAt W wr.heap.size (.slice a j c) m W' by
        subst hw
        exact ⟨Below.next hB (below_alloc _ _) hB.size, (Row.new wr [_, _] 99).cell_of rfl, (Row.new wr [_, _] 99).cell_of rfl, by simp⟩))
      clear hB hrs hrd hc1 hc2 hcs he
      go_wp2
      go_loopw [5] (fun i w' => ∃ q : Nat, q ≤ j ∧ i = .int .i64 (q : Int) ∧ OAt W wr.heap.size (.slice a j c) m w') (fun i _ => j - (intOf i).toNat)
      case atStart => exact ⟨0, Nat.zero_le _, rfl, HO.out _ (by first | rfl | simp)⟩
      case round =>
        obtain ⟨q, hq, rfl, hO⟩ := hrel
        have o1 := hO.2.1
        have o2 := hO.2.2.1
        have o3 := hO.2.2.2
        by_cases hlt2 : q < j
        · obtain ⟨g2, rfl, hg2, hcell⟩ := HRS.out (by omega)
          have hlt2' : (q : Int) < (j : Int) := by omega
          have hq0 : (0 : Int) ≤ (q : Int) := by omega
          have e0 : wr.cell? ⟨g2, q * 3, none⟩ = some (.int .i64 (-1 - (m : Int))) := by
            rw [cell_later hO.1 (hcell (q * 3) (by omega)), markCell, if_pos (by omega)]
          have e1 : wr.cell? ⟨g2, q * 3 + 1, none⟩ = some (.int .i64 (-1)) := by
            rw [cell_later hO.1 (hcell (q * 3 + 1) (by omega)), markCell, if_neg (by omega)]
          have e2 : wr.cell? ⟨g2, q * 3 + 2, none⟩ = some (.int .i64 (-1)) := by
            rw [cell_later hO.1 (hcell (q * 3 + 2) (by omega)), markCell, if_neg (by omega)]
          have hgw : g2 < wr.heap.size := Nat.lt_of_lt_of_le hg2 hO.1.size
          have HO2 := hide hO
          clear hO hcell
          go_wp2
          go_region_with (first | (go_at_call 52; refine (markOf_any (m : Int) _ (by omega) (by omega)).mono ?_; rintro e w' ⟨rfl, hb⟩; have e0' := cell_later hb e0; have e1' := cell_later hb e1; have e2' := cell_later hb e2; have o1' := cell_later hb o1; have o2' := cell_later hb o2; have HB' := hide hb; clear hb))
          all_goals go_wp2
          all_goals go_roundw
          all_goals first | exact ⟨q + 1, by omega, by go_num, HO2.out.next (by first | exact HB'.out | exact Below.drewN HB'.out _ | (repeat (first | exact HB'.out | refine Below.drewN ?_ _ | refine Below.drew ?_ | refine Below.undrew ?_)))⟩ | (simp [intOf]; omega)
        · have hlt2' : ¬ (q : Int) < (j : Int) := by omega
          have HO2 := hide hO
          clear hO
          go_wp2
          go_roundw
          case rel => exact ⟨k + 1, by omega, by go_num, HO2.out.1⟩
          case measure => simp [intOf]; omega
    · have hlt' : ¬ (k : Int) < (es1.length : Int) := by omega
      have HB := hide hB
      clear hB
      go_wp2
      go_loopw [6] (fun i w' => ∃ k : Nat, k ≤ es2.length ∧ i = .int .i64 (k : Int) ∧ Below W.heap.size W w') (fun i _ => es2.length - (intOf i).toNat)
      case atStart => exact ⟨0, Nat.zero_le _, rfl, HB.out⟩
      case round =>
        obtain ⟨k, hk, rfl, hB⟩ := hrel
        have c3 : wr.cell? ⟨bL, 3, none⟩ = some (.slice ai es2.length ci) := (HR.out.old hB).cell_of rfl
        by_cases hlt : k < es2.length
        · have hlt' : (k : Int) < (es2.length : Int) := by omega
          have hk0 : (0 : Int) ≤ (k : Int) := by omega
          obtain ⟨g, rfl, hg, hcs⟩ := HI.out (by omega)
          have he : es2[k]? = some (es2[k].1, es2[k].2) := List.getElem?_eq_getElem hlt
          obtain ⟨hc1, hc2⟩ := hcs k _ _ he
          obtain ⟨hkm, hrd⟩ := R2.out _ _ (List.mem_of_getElem? he)
          generalize es2[k].2 = m at he hc2 hkm hrd
          generalize es2[k].1 = s at he hc1 hrd
          obtain ⟨a, j, c, rfl, hj, hrs⟩ := hrd.open
          have d1 : wr.cell? ⟨g, k * 2, none⟩ = some (.slice a j c) := cell_later hB hc1
          have d2 : wr.cell? ⟨g, k * 2 + 1, none⟩ = some (.int .i64 (m : Int)) := cell_later hB hc2
          have HB := hide hB
          have HRS := hide hrs
          have HO := hide (fun (W' : World) (hw : W' = wr.alloc (.cells #[.slice a j c, .int .i64 (m : Int)] 102)) => (show OAt W wr.heap.size (.slice a j c) m W' by
            subst hw
            exact ⟨Below.next hB (below_alloc _ _) hB.size, (Row.new wr [_, _] 102).cell_of rfl, (Row.new wr [_, _] 102).cell_of rfl, by simp⟩))
          clear hB hrs hrd hc1 hc2 hcs he
          go_wp2
          go_loopw [8] (fun i w' => ∃ q : Nat, q ≤ j ∧ i = .int .i64 (q : Int) ∧ OAt W wr.heap.size (.slice a j c) m w') (fun i _ => j - (intOf i).toNat)
          case atStart => exact ⟨0, Nat.zero_le _, rfl, HO.out _ (by first | rfl | simp)⟩
          case round =>
            obtain ⟨q, hq, rfl, hO⟩ := hrel
            have o1 := hO.2.1
            have o2 := hO.2.2.1
            have o3 := hO.2.2.2
            by_cases hlt2 : q < j
            · obtain ⟨g2, rfl, hg2, hcell⟩ := HRS.out (by omega)
              have hlt2' : (q : Int) < (j : Int) := by omega
              have hq0 : (0 : Int) ≤ (q : Int) := by omega
              have e0 : wr.cell? ⟨g2, q, none⟩ = some (.int .i64 (-1 - (m : Int))) := by
                rw [cell_later hO.1 (hcell q (by omega)), intCell]
              have HO2 := hide hO
              clear hO hcell
              go_wp2
              go_quiet (fail)
              go_wp2
              go_roundw
              case rel => exact ⟨q + 1, by omega, by go_num, HO2.out.drewN _⟩
              case measure => simp [intOf]; omega
            · have hlt2' : ¬ (q : Int) < (j : Int) := by omega
              have HO2 := hide hO
              clear hO
              go_wp2
              go_roundw
              case rel => exact ⟨k + 1, by omega, by go_num, HO2.out.1⟩
              case measure => simp [intOf]; omega
        · have hlt' : ¬ (k : Int) < (es2.length : Int) := by omega
          have HB := hide hB
          clear hB
          go_wp2
          go_ret
          exact ⟨rfl, HB.out⟩
end Go.Proofs.YtefjhnhdagolhaaGreat
namespace Go.Proofs.YtefjhnhdagolhaaGreat
open Go.RowKit
attribute [local go_sem ↓] Go.wp_at_zero Go.wp_at_succ
theorem results_agg2 {P : Program} {fn : Func} {tmps : Array Value} {a a' : Tmp} {t t' : TypeId} {w : World} {b o b' o' : Nat} {cs cs' : List Value} {d d' : TypeDesc} (hr : fn.results = #[.cell a t, .cell a' t']) (ha : tmps.getD a undef = .pointer (some ⟨b, o, none⟩)) (ha' : tmps.getD a' undef = .pointer (some ⟨b', o', none⟩))
    (hc : w.rangeAt b o cs) (hc' : w.rangeAt b' o' cs') (hu : P.underlying t = some d) (hd : d.isRow = true) (hi : (P.info? t).map (·.size) = some cs.length) (hu' : P.underlying t' = some d') (hd' : d'.isRow = true) (hi' : (P.info? t').map (·.size) = some cs'.length) :
    (results fn tmps).run P w = .ok (.tuple #[.agg cs.toArray, .agg cs'.toArray]) w := by
  rw [Array.getD_eq_getD_getElem?] at ha ha'
  unfold results
  simp [hr, ha, ha', asAddr, run_loadVar_mid w b o t cs d hc hu hd hi, run_loadVar_mid w b' o' t' cs' d' hc' hu' hd' hi']
end Go.Proofs.YtefjhnhdagolhaaGreat
namespace Go.Proofs.YtefjhnhdagolhaaGreat
open Go.RowKit
theorem step_copy_set {P : Program} {ops : Array Oper} {o : Oper} {a : Act} {w : World} {K : Act → World → Prop} {Q : Exit → Act → World → Prop} {E : Prop} (hgd : o.guard = none) (d s : Operand) (dT sT : TypeId)
    (ho : o.op = .call { callee := .builtin .copy, args := #[d, s], argTypes := #[dT, sT] }) (elem : TypeId) (hu : P.underlying dT = some (.slice elem)) (hsz : (P.info? elem).map (·.size) = some 1)
    (b off dLen dCap : Nat) (ad : Addr) (sLen sCap : Nat) (hd : a.eval d = .slice (some ⟨b, off, none⟩) dLen dCap) (hs : a.eval s = .slice (some ad) sLen sCap)
    (cs : List Value) (hn : cs.length = Nat.min sLen dLen) (hsrc : ∀ j v, cs[j]? = some v → w.cell? (ad.add j) = some v) (hc : ∀ j, j < cs.length → (w.cell? ⟨b, off + j, none⟩).isSome = true) (hf : ∀ j, j < cs.length → w.frozen? ⟨b, off + j, none⟩ = false) (h1 : ∀ v ∈ cs, v.oneCell' = true)
    (h : K (a.put o.dst (goInt cs.length)) (w.setCells b off cs)) : if Region.wanted o (yielded ops a.tmps) = true then Oper.wp P o a w K Q else E := by
  have hw : Region.wanted o (yielded ops a.tmps) = true := by simp [Region.wanted, hgd]
  rw [if_pos hw]
  have hrun := run_copy_cells (P := P) w dT sT o.type elem b off dLen dCap ad sLen sCap cs hu hsz hn hsrc hc hf h1
  unfold Oper.wp
  simp [execOp, ho, resolve, invoke, builtin, hd, hs, hrun, Result.andThen]
  exact h
theorem list_one {l : List Value} (h : l.length = 1) : ∃ a, l = [a] := by
  match l, h with
  | [a], _ => exact ⟨a, rfl⟩
end Go.Proofs.YtefjhnhdagolhaaGreat
namespace Go.Proofs.YtefjhnhdagolhaaGreat
open Go.RowKit
attribute [local go_sem ↓] Go.wp_at_zero Go.wp_at_succ
set_option maxHeartbeats 1000000 in
theorem badOp_w (w : World) : Calls Tryz.prog 363 #[] w fun e w' => e = .returned (.agg #[.int .i64 4, .int .i64 0]) ∧ Below w.heap.size w w' := by
  go_enter Tryz.func363, Tryz.ntmps363
  go_wp2
  exact bodyPost_ret (v := .agg #[.int .i64 4, .int .i64 0]) (by simp [results, Tryz.results363, go_sem]) rfl ⟨rfl, below_alloc _ _⟩
set_option maxHeartbeats 1000000 in
theorem done_w (x : Int) (w : World) : Calls Tryz.prog 364 #[.int .i64 x] w fun e w' => e = .returned (.agg #[.int .i64 1, .int .i64 x]) ∧ Below w.heap.size w w' := by
  go_enter Tryz.func364, Tryz.ntmps364
  go_wp2
  exact bodyPost_ret (v := .agg #[.int .i64 1, .int .i64 x]) (by simp [results, Tryz.results364, go_sem]) rfl ⟨rfl, below_alloc _ _⟩
end Go.Proofs.YtefjhnhdagolhaaGreat
