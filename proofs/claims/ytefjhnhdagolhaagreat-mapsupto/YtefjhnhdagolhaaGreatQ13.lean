import Derived.Test.YtefjhnhdagolhaaGreatQ10
import Derived.Test.YtefjhnhdagolhaaGreatQ00
import Derived.Deep.DeepAppendRoom
namespace Go.Proofs.YtefjhnhdagolhaaGreat
open Go.RowKit
attribute [local go_sem ↓] Go.wp_at_zero Go.wp_at_succ
structure RefRd (b n g gc : Nat) (bT : Nat → Nat) (kind cap st co : Int) (vn vo : Value) (w : World) : Prop where
  row : Row w b 105 (ccs kind n cap st co vn vo ++ [.slice (some ⟨g, 0, none⟩) n gc, .slice none 0 0])
  ptr : ∀ t, t < n → w.cell? ⟨g, t, none⟩ = some (.pointer (some ⟨bT t, 0, none⟩))
  ended : ∀ t, t < n → w.cell? ⟨bT t, 1, none⟩ = some (.int .i64 0)
  part : ∀ t, t < n → w.cell? ⟨bT t, 3, none⟩ = some (.int .i64 0)
theorem RefMade.reads {w0 : World} {kind : Int} {n : Nat} {cap st co : Int} {nx ou : List Int} {vn vo : Value} {b : Nat} {w : World} (h : RefMade w0 kind n cap st co nx ou vn vo b w) (hn : 1 ≤ n) :
    ∃ g gc bT vn' vo', RefRd b n g gc bT kind cap st co vn' vo' w ∧ Below w0.heap.size w0 w := by
  obtain ⟨W1, vn', vo', v, bT, bF, rfl, hb, hI, -⟩ := h
  obtain ⟨hE, hO, hT, -, hB⟩ := hI
  obtain ⟨hl, ⟨rfl, hn0⟩ | ⟨g, gc, cur, rfl, -, hg, hnc, hcm, hcs, htk⟩⟩ := hO
  · omega
  · refine ⟨g, gc, bT, vn', vo', ⟨hE, fun t ht => ?_, fun t ht => (hT t ht).1.cell_of rfl, fun t ht => (hT t ht).1.cell_of rfl⟩, Below.next hb hB hb.size⟩
    rw [cell_of_row w g _ cur _ _ hg]
    have : (ptrs bT n)[t]? = some (.pointer (some ⟨bT t, 0, none⟩)) := by simp [ptrs, List.getElem?_range ht]
    rw [← htk, List.getElem?_take] at this
    split at this
    · simpa using this
    · cases this
section
variable {b n g gc : Nat} {bT : Nat → Nat} {kind cap st co : Int} {vn vo : Value} (w : World)
end
end Go.Proofs.YtefjhnhdagolhaaGreat
namespace Go.Proofs.YtefjhnhdagolhaaGreat
open Go.RowKit
attribute [local go_sem ↓] Go.wp_at_zero Go.wp_at_succ
section
variable (kind n cap st co : Int) (a1 : Option Addr) (l1 c1 : Nat) (a2 : Option Addr) (l2 c2 : Nat) (w : World)
set_option maxHeartbeats 1000000 in
theorem start_list (h1 : 2 ≤ kind) (h2 : kind ≤ 4) :
    Calls Tryz.prog 113 #[.agg #[.int .i64 kind, .int .i64 n, .int .i64 cap, .int .i64 st, .int .i64 co, .slice a1 l1 c1, .slice a2 l2 c2]] w fun e w' => e = .returned (.agg #[.int .i64 kind, .int .i64 st, .int .i64 co, .slice a1 l1 c1, .slice a2 l2 c2, .slice none 0 0]) ∧
      Below w.heap.size w w' := by
  have k1 : (kind == 1) = false := beq_eq_false_iff_ne.2 (by omega)
  have k2 : (kind == 5) = false := beq_eq_false_iff_ne.2 (by omega)
  go_enter Tryz.func113, Tryz.ntmps113
  go_wp2
  refine bodyPost_ret (v := .agg #[.int .i64 kind, .int .i64 st, .int .i64 co, .slice a1 l1 c1, .slice a2 l2 c2, .slice none 0 0]) (by simp [results, Tryz.results113, go_sem]) rfl ⟨rfl, ?_⟩
  exact (by repeat (first | exact Below.refl _ _ | refine Below.drewN ?_ _ | refine Below.drew ?_ | refine Below.alloc ?_ (by first | (simp; done) | (simp; omega)) _ | refine Below.next ?_ (by assumption) (by first | (simp; done) | (simp; omega))))
end
end Go.Proofs.YtefjhnhdagolhaaGreat
namespace Go.Proofs.YtefjhnhdagolhaaGreat
open Go.RowKit
section
variable {P : Program} (w : World)
theorem run_append_keep (t ty : TypeId) (base : Nat) (e : TypeId) (i : TypeInfo) (z : Value) (size bytes : Nat) (ht : P.underlying t = some (.slice e)) (hi : P.info? e = some i) (hz : i.zero = some z)
    (hsize : i.size = size) (hby : i.bytes = bytes) (hzs : z.cells.size = size) (hsz : 0 < size)
    (v : Value) (n : Nat) (xs : List Value) (hown : w.ownsRow base e size v n xs)
    (ad : Addr) (m c : Nat) (news : List Value) (hl : news.length = m * size) (hnews : ∀ j u, news[j]? = some u → w.cell? (ad.add j) = some u) (h1 : ∀ u ∈ news, u.oneCell' = true)
    (hm : 0 < m) (h63 : n + m ≤ maxLen) (hbytes : (n + m) * bytes ≤ 140737488355328) (hbase : base ≤ w.heap.size) :
    ∃ g cap w', (Builtin.append_ #[t, t] ty #[v, .slice (some ad) m c]).run P w = .ok (.slice (some ⟨g, 0, none⟩) (n + m) cap) w' ∧
      w'.ownsRow base e size (.slice (some ⟨g, 0, none⟩) (n + m) cap) (n + m) (xs ++ news) ∧ w.grownBy w' v.ownBlock ∧ g < w'.heap.size ∧
      (v.ownBlock = some g ∨ (g = w.heap.size ∧ ∀ k, k < w.heap.size → w'.heap[k]? = w.heap[k]?)) := by
  obtain ⟨g, cap, w', hr, h2, h3, h4, h5⟩ := run_append_lies (P := P) w t ty base e i z size bytes ht hi hz hsize hby hzs hsz v n xs hown ad m c news hl hnews h1 hm h63 hbytes hbase w.heap.size rfl
  refine ⟨g, cap, w', hr, h2, h3, h5, ?_⟩
  have h63' : ((n + m : Nat) : Int) ≤ 9223372036854775807 := by unfold maxLen at h63; omega
  have alloc_old : ∀ (o : Obj) (k : Nat), k < w.heap.size → (w.drew.alloc o).heap[k]? = w.heap[k]? := fun o k hk => (below_alloc w.drew o).block k hk
  rcases hown.2 with ⟨rfl, rfl⟩ | ⟨g0, cap0, cur, rfl, hb, hg, hnc, hcm, hcs, htk⟩
  · have hq := run_append_nil (P := P) w t ty e i z ht hi hz ad m c news (by rw [hsize]; exact hl) hnews hm (by omega) (by rw [hby]; rw [Nat.zero_add] at hbytes; omega)
    rw [hr] at hq
    injection hq with q1 q2
    injection q1 with q3 q4
    injection q3 with q5
    injection q5 with q6
    subst q2
    exact .inr ⟨q6, alloc_old _⟩
  · by_cases hroom : n + m ≤ cap0
    · obtain ⟨w2, hq, -⟩ := run_append_own_spare (P := P) w base t ty e i size ht hi hsize g0 n cap0 xs hown ad m c news hl hnews h1 hroom
      rw [hr] at hq
      injection hq with q1 q2
      injection q1 with q3 q4
      injection q3 with q5
      injection q5 with q6
      exact .inl (by rw [q6]; rfl)
    · have hc : ∀ j u, xs[j]? = some u → w.cell? ((⟨g0, 0, none⟩ : Addr).add j) = some u := fun j u hj => by
        have := hown.cells (g := g0) rfl j u hj
        simpa [Addr.add] using this
      have hq := run_append_grow (P := P) w t ty e i z ht hi hz ⟨g0, 0, none⟩ n cap0 xs (by rw [hsize]; exact hown.1) hc ad m c news (by rw [hsize]; exact hl) hnews (by omega) h63' (by rw [hby]; exact growslice_fits (by omega) hbytes)
      rw [hr] at hq
      injection hq with q1 q2
      injection q1 with q3 q4
      injection q3 with q5
      injection q5 with q6
      subst q2
      exact .inr ⟨q6, alloc_old _⟩
theorem wpList_append_keep {ops : Array Oper} {rest : List Oper} {o : Oper} {a : Act} {Q : Exit → Act → World → Prop} (hgd : o.guard = none) (s x : Operand) (t : TypeId)
    (ho : o.op = .call { callee := .builtin .append, args := #[s, x], argTypes := #[t, t] })
    (base : Nat) (e : TypeId) (i : TypeInfo) (z : Value) (size bytes : Nat) (ht : P.underlying t = some (.slice e)) (hi : P.info? e = some i) (hz : i.zero = some z)
    (hsize : i.size = size) (hby : i.bytes = bytes) (hzs : z.cells.size = size) (hsz : 0 < size)
    (v : Value) (n : Nat) (xs : List Value) (hs : a.eval s = v) (hown : w.ownsRow base e size v n xs)
    (ad : Addr) (m c : Nat) (news : List Value) (hx : a.eval x = .slice (some ad) m c) (hl : news.length = m * size) (hnews : ∀ j u, news[j]? = some u → w.cell? (ad.add j) = some u) (h1 : ∀ u ∈ news, u.oneCell' = true)
    (hm : 0 < m) (h63 : n + m ≤ maxLen) (hbytes : (n + m) * bytes ≤ 140737488355328) (hbase : base ≤ w.heap.size)
    (h : ∀ g cap w', w'.ownsRow base e size (.slice (some ⟨g, 0, none⟩) (n + m) cap) (n + m) (xs ++ news) → w.grownBy w' v.ownBlock → g < w'.heap.size → (v.ownBlock = some g ∨ (g = w.heap.size ∧ ∀ k, k < w.heap.size → w'.heap[k]? = w.heap[k]?)) → wpList P ops Q rest (a.put o.dst (.slice (some ⟨g, 0, none⟩) (n + m) cap)) w') : wpList P ops Q (o :: rest) a w :=
  wpList_plain hgd fun _ hK => by
    obtain ⟨g, cap, w', hr, h2, h3, h4, h5⟩ := run_append_keep (P := P) w t o.type base e i z size bytes ht hi hz hsize hby hzs hsz v n xs hown ad m c news hl hnews h1 hm h63 hbytes hbase
    unfold Oper.wp execOp
    simp only [ho, resolve, invoke, builtin, Sem.run_bind, Sem.run_pure, Result.andThen_ok, List.map_toArray, List.map_cons, List.map_nil, hs, hx, hr]
    exact hK _ _ (h g cap w' h2 h3 h4 h5)
end
end Go.Proofs.YtefjhnhdagolhaaGreat
namespace Go.Proofs.YtefjhnhdagolhaaGreat
open Go.RowKit
def Reads (mk : Nat → Value) (sz i : Nat) (s : Value) (W : World) : Prop :=
  s = .slice none 0 0 ∨ ∃ g j c, s = .slice (some ⟨g, 0, none⟩) j c ∧ j ≤ i ∧ j ≤ c ∧ g < W.heap.size ∧ ∀ p, p < j * sz → W.cell? ⟨g, p, none⟩ = some (mk p)
theorem Reads.append {mk : Nat → Value} {sz i : Nat} {s : Value} {W W' : World} (h : Reads mk sz i s W) {v : Value} {g cap base : Nat} {e : TypeId} {xs : List Value} (hgr : W.grownBy W' v.ownBlock)
    (hown : W'.ownsRow base e sz (.slice (some ⟨g, 0, none⟩) (i + 1) cap) (i + 1) xs) (hx : ∀ p, p < (i + 1) * sz → xs[p]? = some (mk p))
    (hk : v.ownBlock = some g ∨ ∀ k, k < W.heap.size → W'.heap[k]? = W.heap[k]?) : Reads mk sz (i + 1) s W' := by
  rcases h with h | ⟨gs, j, c, rfl, h1, h2, h3, h4⟩
  · exact .inl h
  · have hz : W.heap.size ≤ W'.heap.size := hgr.size
    refine .inr ⟨gs, j, c, rfl, by omega, h2, by omega, fun p hp => ?_⟩
    by_cases e1 : v.ownBlock = some gs
    · rcases hk with hk | hk
      · have : gs = g := by rw [e1] at hk; injection hk
        subst this
        have hlt : p < (i + 1) * sz := Nat.lt_of_lt_of_le hp (Nat.mul_le_mul_right sz (by omega))
        have := hown.cells (g := gs) rfl p _ (hx p hlt)
        rw [show (⟨gs, 0, none⟩ : Addr).add p = ⟨gs, p, none⟩ by by_cases q : p = 0 <;> simp [Addr.add, q]] at this
        exact this
      · rw [World.cell?_of_block (w := W) (a := ⟨gs, p, none⟩) (hk gs h3)]; exact h4 p hp
    · exact hgr.cell (h4 p hp) (fun q => e1 q.symm)
theorem Reads.grown {mk : Nat → Value} {sz i : Nat} {s : Value} {W W' : World} (h : Reads mk sz i s W) {row : Option Nat} (hgr : W.grownBy W' row) (hne : ∀ g j c, s = .slice (some ⟨g, 0, none⟩) j c → row ≠ some g) : Reads mk sz i s W' := by
  rcases h with h | ⟨gs, j, c, rfl, h1, h2, h3, h4⟩
  · exact .inl h
  · have hz : W.heap.size ≤ W'.heap.size := hgr.size
    exact .inr ⟨gs, j, c, rfl, h1, h2, by omega, fun p hp => hgr.cell (h4 p hp) (fun q => hne gs j c rfl q.symm)⟩
end Go.Proofs.YtefjhnhdagolhaaGreat
namespace Go.Proofs.YtefjhnhdagolhaaGreat
open Go.RowKit
theorem grown_below {w w' : World} (h : Below w.heap.size w w') : w.grownBy w' none := ⟨h.os, h.tape, h.output, h.size, fun k hk _ => h.block k hk⟩
section
variable {w : World} {bL : Nat} {tW tO tL : TypeId} {sz : Nat} {u mk : Value} {cs : Value → List Value} {i k : Nat} {l : Value} {gm cm : Nat} {ss : List Value} {W W' : World}
end
end Go.Proofs.YtefjhnhdagolhaaGreat
