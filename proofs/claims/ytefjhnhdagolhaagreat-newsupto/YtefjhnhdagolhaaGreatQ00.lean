import Derived.WalkKit
import Derived.WalkSpells
import Derived.WalkLawsBesides
import Derived.BigQuiet
import Derived.Deep.QuietTactic
import Derived.Deep.DrawnRows
import Derived.Deep.RegionHeld3
import Derived.Laws.CopyOwn
import Derived.Deep.AppendLies
import Derived.Deep.OwnRows
import Derived.OwnWalk
import Derived.Maps.RangeWalk
import Derived.Laws.BitsLemmas
import Derived.Deep.DeepAppendRoom
import Derived.Test.YtefjhnhdagolhaaGreatProg
namespace Go.Proofs.YtefjhnhdagolhaaGreat
open Go.RowKit
theorem hide {p : Prop} (h : p) : Hid p := h
theorem unhide {p : Prop} (h : Hid p) : p := h
theorem ret_bool {a b : Bool} (h : a = b) : Ending.returned (.bool a) = .returned (.bool b) := by rw [h]
theorem ret_int {k : IntKind} {a b : Int} (h : a = b) : Ending.returned (.int k a) = .returned (.int k b) := by rw [h]
def ints (xs : List Int) : List Value := xs.map (Value.int .i64 ·)
theorem length_ints (xs : List Int) : (ints xs).length = xs.length := by simp [ints]
theorem getElem?_ints (xs : List Int) (j : Nat) : (ints xs)[j]? = xs[j]?.map (Value.int .i64 ·) := by simp [ints]
def Sl (w : World) (v : Value) (xs : List Value) : Prop :=
  ∃ a cap, v = .slice a xs.length cap ∧ xs.length ≤ cap ∧ cap ≤ maxLen ∧ (xs = [] ∨ ∃ g off, a = some ⟨g, off, none⟩ ∧ ∀ j x, xs[j]? = some x → w.cell? ⟨g, off + j, none⟩ = some x)
theorem Sl.nil (w : World) : Sl w (.slice none 0 0) [] := ⟨none, 0, rfl, Nat.le_refl _, Nat.zero_le _, .inl rfl⟩
theorem Sl.below {w w' : World} {v : Value} {xs : List Value} (h : Sl w v xs) (hb : Below w.heap.size w w') : Sl w' v xs := by
  obtain ⟨a, cap, hv, h1, h2, h3⟩ := h
  refine ⟨a, cap, hv, h1, h2, ?_⟩
  rcases h3 with h3 | ⟨g, off, ha, h3⟩
  · exact .inl h3
  · refine .inr ⟨g, off, ha, fun j x hj => ?_⟩
    have hc := h3 j x hj
    rw [hb.cell (p := ⟨g, off + j, none⟩) (World.block_lt_of_cell? w _ hc)]
    exact hc
theorem bcell {W w1 : World} (hb : Below W.heap.size W w1) : (∀ b o, b < W.heap.size → w1.cell? ⟨b, o, none⟩ = W.cell? ⟨b, o, none⟩) ∧ (∀ b o, b < W.heap.size → w1.frozen? ⟨b, o, none⟩ = W.frozen? ⟨b, o, none⟩) :=
  ⟨fun b o h => hb.cell (p := ⟨b, o, none⟩) h, fun b o h => hb.frozen (p := ⟨b, o, none⟩) h⟩
theorem Below.drewN {B : Nat} {a w : World} (h : Below B a w) (n : Nat) : Below B a (w.drewN n) := ⟨h.os, h.tape, h.output, h.size, h.block⟩
theorem Sl.open_ints {w : World} {v : Value} {xs : List Int} (h : Sl w v (ints xs)) :
    ∃ a cap, v = .slice a xs.length cap ∧ xs.length ≤ cap ∧ cap ≤ maxLen ∧ ∀ k (hk : k < xs.length), ∃ g off, a = some ⟨g, off, none⟩ ∧ w.cell? ⟨g, off + k, none⟩ = some (.int .i64 xs[k]) := by
  obtain ⟨a, cap, hv, h1, h2, h3⟩ := h
  rw [length_ints] at hv h1
  refine ⟨a, cap, hv, h1, h2, fun k hk => ?_⟩
  rcases h3 with h3 | ⟨g, off, ha, h3⟩
  · have : xs.length = 0 := by rw [← length_ints, h3]; rfl
    omega
  · exact ⟨g, off, ha, h3 k _ (by simp [ints, List.getElem?_eq_getElem hk])⟩
def Row (w : World) (g : Nat) (t : TypeId) (xs : List Value) : Prop := w.heap[g]? = some (.cells xs.toArray t (0, 0))
namespace Row
variable {w w' : World} {g : Nat} {t : TypeId} {xs : List Value}
theorem cell (h : Row w g t xs) (i : Nat) : w.cell? ⟨g, i, none⟩ = xs[i]? := by
  have h' : w.heap[g]? = some (.cells xs.toArray t (0, 0)) := h
  simp [World.cell?, h']
theorem cell_of (h : Row w g t xs) {i : Nat} {v : Value} (hv : xs[i]? = some v) : w.cell? ⟨g, i, none⟩ = some v := by rw [h.cell, hv]
theorem frozen (h : Row w g t xs) (i : Nat) : w.frozen? ⟨g, i, none⟩ = false := by
  have h' : w.heap[g]? = some (.cells xs.toArray t (0, 0)) := h
  simp [World.frozen?, h']
theorem lt (h : Row w g t xs) : g < w.heap.size := by
  obtain ⟨hlt, _⟩ := Array.getElem?_eq_some_iff.1 (show w.heap[g]? = _ from h)
  exact hlt
theorem set (h : Row w g t xs) (i : Nat) (v : Value) : Row (w.setCell ⟨g, i, none⟩ v) g t (xs.set i v) := by
  have h' : w.heap[g]? = some (.cells xs.toArray t (0, 0)) := h
  show (w.setCell ⟨g, i, none⟩ v).heap[g]? = _
  simp [World.setCell, Array.getElem?_modify, h']
theorem of_block (h : Row w g t xs) (e : w'.heap[g]? = w.heap[g]?) : Row w' g t xs := e.trans h
theorem setOther (h : Row w g t xs) {a : Addr} (ha : g ≠ a.block) (v : Value) : Row (w.setCell a v) g t xs := h.of_block (Below.heap_setCell w a v g ha)
theorem alloc (h : Row w g t xs) (o : Obj) : Row (w.alloc o) g t xs := h.of_block (Below.heap_alloc w o g h.lt)
theorem drewN (h : Row w g t xs) (n : Nat) : Row (w.drewN n) g t xs := h
theorem below (h : Row w g t xs) {B : Nat} (hb : Below B w w') (hg : g < B) : Row w' g t xs := h.of_block (hb.block g hg)
theorem old (h : Row w g t xs) (hb : Below w.heap.size w w') : Row w' g t xs := h.below hb h.lt
theorem new (w : World) (xs : List Value) (t : TypeId) : Row (w.alloc (.cells xs.toArray t)) w.heap.size t xs := heap_alloc_new w _
theorem sl (h : Row w g t xs) {n cap : Nat} {ys : List Value} (hy : xs.take n = ys) (hn : n ≤ xs.length) (hc : n ≤ cap) (hm : cap ≤ maxLen) : Sl w (.slice (some ⟨g, 0, none⟩) n cap) ys := by
  have hl : ys.length = n := by rw [← hy, List.length_take]; omega
  refine ⟨some ⟨g, 0, none⟩, cap, by rw [hl], by rw [hl]; exact hc, hm, .inr ⟨g, 0, rfl, fun j x hj => ?_⟩⟩
  rw [Nat.zero_add, h.cell, ← hj, ← hy, List.getElem?_take]
  split
  · rfl
  · rename_i hjn
    rw [← hy, List.getElem?_take, if_neg hjn] at hj
    cases hj
end Row
def zeros (z : Value) (n : Nat) : List Value := List.replicate n z
theorem length_zeros (z : Value) (n : Nat) : (zeros z n).length = n := by simp [zeros]
theorem madeCells_zeros (z : Value) (n : Nat) : madeCells #[z] n = (zeros z n).toArray := by
  apply Array.ext
  · simp [madeCells, zeros]
  · intro i h1 h2
    simp [madeCells, zeros, Nat.mod_one]
theorem run_make_zeros {P : Program} (t e : TypeId) (z : Value) (bytes : Nat) (ht : P.underlying t = some (.slice e)) (hinfo : (P.info? e).map (fun i => (i.zero, i.size, i.bytes)) = some (some z, 1, bytes)) (hz1 : z.cells = #[z])
    (k : Int) (n : Nat) (hk : k = n) (hbytes : bytes * n ≤ 281474976710656) (h63 : n ≤ 9223372036854775807) (w : World) :
    (Instr.makeSlice t (.int .i64 k) (.int .i64 k)).run P w = .ok (.slice (some ⟨w.heap.size, 0, none⟩) n n) (w.alloc (.cells (zeros z n).toArray e)) := by
  subst hk
  rw [run_make_row' (P := P) t e z bytes ht hinfo hz1 .i64 .i64 n hbytes h63 w, madeCells_zeros]
theorem addr_add (g off j : Nat) : (⟨g, off, none⟩ : Addr).add j = ⟨g, off + j, none⟩ := by
  unfold Addr.add
  split
  · subst_vars; rfl
  · rfl
theorem cell_new {w : World} {g o : Nat} {v : Value} (h : w.cell? ⟨g, o, none⟩ = some v) (ob : Obj) : (w.alloc ob).cell? ⟨g, o, none⟩ = some v := by
  have hb : Below w.heap.size w (w.alloc ob) := (Below.refl _ _).alloc (Nat.le_refl _) ob
  rw [hb.cell (p := ⟨g, o, none⟩) (World.block_lt_of_cell? w _ h)]
  exact h
theorem one_ints (xs : List Int) : ∀ v ∈ ints xs, v.oneCell' = true := by
  intro v hv
  obtain ⟨x, _, rfl⟩ := List.mem_map.1 hv
  rfl
theorem wrapi (n : Int) (h0 : -9223372036854775808 ≤ n) (h1 : n ≤ 9223372036854775807) : IntKind.i64.wrap n = n := by
  rw [IntKind.wrap_i64]; omega
theorem Below.next {B : Nat} {a w w' : World} (h : Below B a w) (hb : Below w.heap.size w w') (hB : B ≤ w.heap.size) : Below B a w' := h.trans (hb.mono hB)
theorem there_later {w wx : World} {b o n : Nat} (hb : Below w.heap.size w wx) (h : w.there b o n) : wx.there b o n := fun j hj => by
  obtain ⟨h1, h2⟩ := h j hj
  obtain ⟨v, hv⟩ := Option.isSome_iff_exists.1 h1
  have hlt := World.block_lt_of_cell? w _ hv
  rw [hb.cell (p := ⟨b, o + j, none⟩) hlt, hb.frozen (p := ⟨b, o + j, none⟩) hlt]
  exact ⟨h1, h2⟩
theorem Row.there {w : World} {b : Nat} {t : TypeId} {xs : List Value} (h : Row w b t xs) {o n : Nat} (hn : o + n ≤ xs.length) : w.there b o n := fun j hj => by
  rw [h.cell, h.frozen]
  exact ⟨by rw [List.getElem?_eq_getElem (by omega)]; rfl, rfl⟩
theorem below_alloc (w : World) (o : Obj) : Below w.heap.size w (w.alloc o) := (Below.refl _ _).alloc (Nat.le_refl _) o
theorem below_setCells {B b : Nat} {w : World} (hB : B ≤ b) : ∀ (vs : List Value) (o : Nat) (w' : World), Below B w w' → Below B w (w'.setCells b o vs)
  | [], _, _, h => h
  | v :: vs, o, _, h => below_setCells hB vs (o + 1) _ (h.setCell (p := ⟨b, o, none⟩) hB v)
theorem keepI {w W0 : World} {a : Addr} {v : Value} {n : Nat} (hb : Below w.heap.size w W0) (hc : w.cell? a = some v) (ht : W0.there w.heap.size 0 n) : Below w.heap.size w W0.drew ∧ W0.drew.cell? a = some v ∧ W0.drew.there w.heap.size 0 n :=
  ⟨hb.drew, cell_later hb.drew hc, ht⟩
theorem keepA {w w' : World} {a : Addr} {v : Value} {b n : Nat} (h : Below w.heap.size w w' ∧ w'.cell? a = some v ∧ w'.there b 0 n) (ob : Obj) : Below w.heap.size w (w'.alloc ob) ∧ (w'.alloc ob).cell? a = some v ∧ (w'.alloc ob).there b 0 n :=
  ⟨h.1.alloc h.1.size ob, cell_later (below_alloc w' ob) h.2.1, World.there_alloc h.2.2 ob⟩
theorem keepC {w w' w2 : World} {a : Addr} {v : Value} {b n : Nat} (h : Below w.heap.size w w' ∧ w'.cell? a = some v ∧ w'.there b 0 n) (hb : Below w'.heap.size w' w2) : Below w.heap.size w w2 ∧ w2.cell? a = some v ∧ w2.there b 0 n :=
  ⟨Below.next h.1 hb h.1.size, cell_later hb h.2.1, there_later hb h.2.2⟩
theorem keepS {w w' : World} {bS oS : Nat} {v : Value} {n : Nat} (h : Below w.heap.size w w' ∧ w'.cell? ⟨bS, oS, none⟩ = some v ∧ w'.there w.heap.size 0 n) (hne : bS < w.heap.size) (vs : List Value) :
    Below w.heap.size w (w'.setCells w.heap.size 0 vs) ∧ (w'.setCells w.heap.size 0 vs).cell? ⟨bS, oS, none⟩ = some v ∧ (w'.setCells w.heap.size 0 vs).there w.heap.size 0 n := by
  have hb := below_setCells (Nat.le_refl w.heap.size) vs 0 w' h.1
  refine ⟨hb, ?_, World.there_setCells h.2.2 _ _ _⟩
  rw [hb.cell (p := ⟨bS, oS, none⟩) hne, ← h.1.cell (p := ⟨bS, oS, none⟩) hne]
  exact h.2.1
theorem results_agg {P : Program} {fn : Func} {tmps : Array Value} {a : Tmp} {t : TypeId} {w : World} {b o : Nat} {cs : List Value} {d : TypeDesc} (hr : fn.results = #[.cell a t]) (ha : tmps.getD a undef = .pointer (some ⟨b, o, none⟩))
    (hc : w.rangeAt b o cs) (hu : P.underlying t = some d) (hd : d.isRow = true) (hi : (P.info? t).map (·.size) = some cs.length) : (results fn tmps).run P w = .ok (.agg cs.toArray) w := by
  rw [Array.getD_eq_getD_getElem?] at ha
  unfold results
  simp [hr, ha, asAddr, run_loadVar_mid w b o t cs d hc hu hd hi]
theorem Row.setCells {w : World} {g : Nat} {t : TypeId} {xs : List Value} (h : Row w g t xs) {b : Nat} (hne : g ≠ b) : ∀ (vs : List Value) (o : Nat) (w' : World), w'.heap[g]? = w.heap[g]? → Row (w'.setCells b o vs) g t xs
  | [], _, _, e => h.of_block e
  | v :: vs, o, w', e => Row.setCells h hne vs (o + 1) _ ((Below.heap_setCell w' ⟨b, o, none⟩ v g hne).trans e)
theorem Row.new' {w : World} {xs : List Value} {t : TypeId} {g : Nat} (h : g = w.heap.size) : Row (w.alloc (.cells xs.toArray t)) g t xs := by subst h; exact Row.new w xs t
theorem Row.setCells' {w : World} {g : Nat} {t : TypeId} {xs : List Value} {b : Nat} (hne : g ≠ b) (vs : List Value) (o : Nat) (h : Row w g t xs) : Row (w.setCells b o vs) g t xs := Row.setCells h hne vs o w rfl
theorem take_eq_succ {α : Type} {xs ys : List α} {k : Nat} (h : xs.take k = ys.take k) (hx : k < xs.length) (hy : k < ys.length) (e : xs[k] = ys[k]) : xs.take (k + 1) = ys.take (k + 1) := by
  rw [List.take_succ_eq_append_getElem hx, List.take_succ_eq_append_getElem hy, h, e]
theorem get_of_drop {ops : Array Oper} {i : Nat} {o : Oper} {rest : List Oper} (h : ops.toList.drop i = o :: rest) : ops[i]? = some o := by
  rw [← Array.getElem?_toList]
  have := congrArg List.head? h
  rwa [List.head?_drop] at this
section
variable {P : Program} {md : Region.Mode} {ops : Array Oper} {Q : Exit → Act → World → Prop} {S : World → Prop} {a : Act} {w : World} {oi : Oper} {rest : List Oper} {v : Value} {fuel : Nat} {listed : Array Bool}
theorem rg0 {id : Nat} (n : Nat) (hn : ops.size = n) (hm : P.follows .mixedOrders = true) (hS : S w.drew)
    (h : S w.drew → wpAnyH P .any ops Q S n (Array.replicate n false) a w.drew) : (Code.region id ops true).wp P Q a w := by
  subst hn
  exact wp_region_held_drew hm hS h
theorem tk (m : Nat) (hi : ops.toList.drop (m - fuel) = oi :: rest) (hs : (Region.noSelect ops && (Region.free md ops listed (m - fuel) && (Region.ready md ops listed).contains (m - fuel))) = true)
    (hQ : ∀ c a w, Q (.panic c) (a.put oi.dst v) w → Q (.panic c) a w) (hy : YieldsIf P ops S oi v a) (hS : S w) (h : wpAnyH P md ops Q S fuel (listed.setIfInBounds (m - fuel) true) (a.put oi.dst v) w) : wpAnyH P md ops Q S (fuel + 1) listed a w := by
  rw [Bool.and_eq_true, Bool.and_eq_true] at hs
  exact wpAnyH_take (i := m - fuel) (oi := oi) (v := v) (get_of_drop hi) hs.1 hs.2.1 hs.2.2 hQ hy hS h
theorem rc {i : Nat} {rs : List Nat} (ho : ops.toList.drop i = oi :: rest)
    (h : ∀ K' : Act → World → Prop, Shut (∀ a w, S w → (S w → wpAnyH P md ops Q S fuel (listed.setIfInBounds i true) a w) → K' a w) → if Region.wanted oi (yielded ops a.tmps) = true then Oper.wp P oi a w K' Q else K' (a.put oi.dst undef) w)
    (hs : AllReadyH P md ops Q S fuel listed a w rs) : AllReadyH P md ops Q S fuel listed a w (i :: rs) := AllReadyH.cons (get_of_drop ho) h hs
theorem rd1 (i : Nat) (ho : ops.toList.drop i = oi :: rest) (hr : Region.ready md ops listed = [i])
    (h : ∀ K' : Act → World → Prop, Shut (∀ a w, S w → (S w → wpAnyH P md ops Q S fuel (listed.setIfInBounds i true) a w) → K' a w) → if Region.wanted oi (yielded ops a.tmps) = true then Oper.wp P oi a w K' Q else K' (a.put oi.dst undef) w) : wpAnyH P md ops Q S (fuel + 1) listed a w :=
  wpAnyH_ready hr (List.cons_ne_nil _ _) (rc ho h AllReadyH.nil)
end
end Go.Proofs.YtefjhnhdagolhaaGreat
namespace Go.Proofs.YtefjhnhdagolhaaGreat
open Go.RowKit
section
variable {P : Program} (w : World)
theorem run_append_keep (t ty : TypeId) (base : Nat) (e : TypeId) (i : TypeInfo) (z : Value) (size bytes : Nat) (ht : P.underlying t = some (.slice e)) (hi : P.info? e = some i) (hz : i.zero = some z)
    (hsize : i.size = size) (hby : i.bytes = bytes) (hzs : z.cells.size = size) (hsz : 0 < size)
    (v : Value) (n : Nat) (xs : List Value) (hown : w.ownsRow base e size v n xs)
    (ad : Addr) (m c : Nat) (news : List Value) (hl : news.length = m * size) (hnews : ∀ j u, news[j]? = some u → w.cell? (ad.add j) = some u) (h1 : ∀ u ∈ news, u.oneCell' = true)
    (hm : 0 < m) (h63 : n + m ≤ maxLen) (hbytes : (n + m) * bytes ≤ 140737488355328) (hbase : base ≤ w.heap.size) :
    ∃ g cap w', (Builtin.append_ #[t, t] ty #[v, .slice (some ad) m c]).run P w = .ok (.slice (some ⟨g, 0, none⟩) (n + m) cap) w' ∧
      w'.ownsRow base e size (.slice (some ⟨g, 0, none⟩) (n + m) cap) (n + m) (xs ++ news) ∧ w.grownBy w' v.ownBlock ∧ g < w'.heap.size ∧
      (v.ownBlock = some g ∨ (g = w.heap.size ∧ ∀ k, k < w.heap.size → w'.heap[k]? = w.heap[k]?)) := by
  obtain ⟨g, cap, w', hr, h2, h3, h4, h5⟩ := run_append_lies (P := P) w t ty base e i z size bytes ht hi hz hsize hby hzs hsz v n xs hown ad m c news hl hnews h1 hm h63 hbytes hbase w.heap.size rfl
  refine ⟨g, cap, w', hr, h2, h3, h5, ?_⟩
  have h63' : ((n + m : Nat) : Int) ≤ 9223372036854775807 := by unfold maxLen at h63; omega
  have alloc_old : ∀ (o : Obj) (k : Nat), k < w.heap.size → (w.drew.alloc o).heap[k]? = w.heap[k]? := fun o k hk => (below_alloc w.drew o).block k hk
  rcases hown.2 with ⟨rfl, rfl⟩ | ⟨g0, cap0, cur, rfl, hb, hg, hnc, hcm, hcs, htk⟩
  · have hq := run_append_nil (P := P) w t ty e i z ht hi hz ad m c news (by rw [hsize]; exact hl) hnews hm (by omega) (by rw [hby]; rw [Nat.zero_add] at hbytes; omega)
    rw [hr] at hq
    injection hq with q1 q2
    injection q1 with q3 q4
    injection q3 with q5
    injection q5 with q6
    subst q2
    exact .inr ⟨q6, alloc_old _⟩
  · by_cases hroom : n + m ≤ cap0
    · obtain ⟨w2, hq, -⟩ := run_append_own_spare (P := P) w base t ty e i size ht hi hsize g0 n cap0 xs hown ad m c news hl hnews h1 hroom
      rw [hr] at hq
      injection hq with q1 q2
      injection q1 with q3 q4
      injection q3 with q5
      injection q5 with q6
      exact .inl (by rw [q6]; rfl)
    · have hc : ∀ j u, xs[j]? = some u → w.cell? ((⟨g0, 0, none⟩ : Addr).add j) = some u := fun j u hj => by
        have := hown.cells (g := g0) rfl j u hj
        simpa [Addr.add] using this
      have hq := run_append_grow (P := P) w t ty e i z ht hi hz ⟨g0, 0, none⟩ n cap0 xs (by rw [hsize]; exact hown.1) hc ad m c news (by rw [hsize]; exact hl) hnews (by omega) h63' (by rw [hby]; exact growslice_fits (by omega) hbytes)
      rw [hr] at hq
      injection hq with q1 q2
      injection q1 with q3 q4
      injection q3 with q5
      injection q5 with q6
      subst q2
      exact .inr ⟨q6, alloc_old _⟩
theorem wpList_append_keep {ops : Array Oper} {rest : List Oper} {o : Oper} {a : Act} {Q : Exit → Act → World → Prop} (hgd : o.guard = none) (s x : Operand) (t : TypeId)
    (ho : o.op = .call { callee := .builtin .append, args := #[s, x], argTypes := #[t, t] })
    (base : Nat) (e : TypeId) (i : TypeInfo) (z : Value) (size bytes : Nat) (ht : P.underlying t = some (.slice e)) (hi : P.info? e = some i) (hz : i.zero = some z)
    (hsize : i.size = size) (hby : i.bytes = bytes) (hzs : z.cells.size = size) (hsz : 0 < size)
    (v : Value) (n : Nat) (xs : List Value) (hs : a.eval s = v) (hown : w.ownsRow base e size v n xs)
    (ad : Addr) (m c : Nat) (news : List Value) (hx : a.eval x = .slice (some ad) m c) (hl : news.length = m * size) (hnews : ∀ j u, news[j]? = some u → w.cell? (ad.add j) = some u) (h1 : ∀ u ∈ news, u.oneCell' = true)
    (hm : 0 < m) (h63 : n + m ≤ maxLen) (hbytes : (n + m) * bytes ≤ 140737488355328) (hbase : base ≤ w.heap.size)
    (h : ∀ g cap w', w'.ownsRow base e size (.slice (some ⟨g, 0, none⟩) (n + m) cap) (n + m) (xs ++ news) → w.grownBy w' v.ownBlock → g < w'.heap.size → (v.ownBlock = some g ∨ (g = w.heap.size ∧ ∀ k, k < w.heap.size → w'.heap[k]? = w.heap[k]?)) → wpList P ops Q rest (a.put o.dst (.slice (some ⟨g, 0, none⟩) (n + m) cap)) w') : wpList P ops Q (o :: rest) a w :=
  wpList_plain hgd fun _ hK => by
    obtain ⟨g, cap, w', hr, h2, h3, h4, h5⟩ := run_append_keep (P := P) w t o.type base e i z size bytes ht hi hz hsize hby hzs hsz v n xs hown ad m c news hl hnews h1 hm h63 hbytes hbase
    unfold Oper.wp execOp
    simp only [ho, resolve, invoke, builtin, Sem.run_bind, Sem.run_pure, Result.andThen_ok, List.map_toArray, List.map_cons, List.map_nil, hs, hx, hr]
    exact hK _ _ (h g cap w' h2 h3 h4 h5)
end
end Go.Proofs.YtefjhnhdagolhaaGreat
namespace Go.Proofs.YtefjhnhdagolhaaGreat
open Go.RowKit
def Reads (mk : Nat → Value) (sz i : Nat) (s : Value) (W : World) : Prop :=
  s = .slice none 0 0 ∨ ∃ g j c, s = .slice (some ⟨g, 0, none⟩) j c ∧ j ≤ i ∧ j ≤ c ∧ g < W.heap.size ∧ ∀ p, p < j * sz → W.cell? ⟨g, p, none⟩ = some (mk p)
theorem Reads.append {mk : Nat → Value} {sz i : Nat} {s : Value} {W W' : World} (h : Reads mk sz i s W) {v : Value} {g cap base : Nat} {e : TypeId} {xs : List Value} (hgr : W.grownBy W' v.ownBlock)
    (hown : W'.ownsRow base e sz (.slice (some ⟨g, 0, none⟩) (i + 1) cap) (i + 1) xs) (hx : ∀ p, p < (i + 1) * sz → xs[p]? = some (mk p))
    (hk : v.ownBlock = some g ∨ ∀ k, k < W.heap.size → W'.heap[k]? = W.heap[k]?) : Reads mk sz (i + 1) s W' := by
  rcases h with h | ⟨gs, j, c, rfl, h1, h2, h3, h4⟩
  · exact .inl h
  · have hz : W.heap.size ≤ W'.heap.size := hgr.size
    refine .inr ⟨gs, j, c, rfl, by omega, h2, by omega, fun p hp => ?_⟩
    by_cases e1 : v.ownBlock = some gs
    · rcases hk with hk | hk
      · have : gs = g := by rw [e1] at hk; injection hk
        subst this
        have hlt : p < (i + 1) * sz := Nat.lt_of_lt_of_le hp (Nat.mul_le_mul_right sz (by omega))
        have := hown.cells (g := gs) rfl p _ (hx p hlt)
        rw [show (⟨gs, 0, none⟩ : Addr).add p = ⟨gs, p, none⟩ by by_cases q : p = 0 <;> simp [Addr.add, q]] at this
        exact this
      · rw [World.cell?_of_block (w := W) (a := ⟨gs, p, none⟩) (hk gs h3)]; exact h4 p hp
    · exact hgr.cell (h4 p hp) (fun q => e1 q.symm)
theorem Reads.grown {mk : Nat → Value} {sz i : Nat} {s : Value} {W W' : World} (h : Reads mk sz i s W) {row : Option Nat} (hgr : W.grownBy W' row) (hne : ∀ g j c, s = .slice (some ⟨g, 0, none⟩) j c → row ≠ some g) : Reads mk sz i s W' := by
  rcases h with h | ⟨gs, j, c, rfl, h1, h2, h3, h4⟩
  · exact .inl h
  · have hz : W.heap.size ≤ W'.heap.size := hgr.size
    exact .inr ⟨gs, j, c, rfl, h1, h2, by omega, fun p hp => hgr.cell (h4 p hp) (fun q => hne gs j c rfl q.symm)⟩
theorem Reads.set {mk : Nat → Value} {sz i : Nat} {s : Value} {W : World} (h : Reads mk sz i s W) {a : Addr} (v : Value) (hne : ∀ g j c, s = .slice (some ⟨g, 0, none⟩) j c → g ≠ a.block) : Reads mk sz i s (W.setCell a v) := by
  rcases h with h | ⟨gs, j, c, rfl, h1, h2, h3, h4⟩
  · exact .inl h
  · refine .inr ⟨gs, j, c, rfl, h1, h2, by simpa [World.setCell] using h3, fun p hp => ?_⟩
    rw [World.cell?_of_block (w := W) (a := ⟨gs, p, none⟩) (Below.heap_setCell W a v gs (hne gs j c rfl))]; exact h4 p hp
end Go.Proofs.YtefjhnhdagolhaaGreat
namespace Go.Proofs.YtefjhnhdagolhaaGreat
open Go.RowKit
structure Lay (w : World) (bL : Nat) (tW tO tL : TypeId) (sz : Nat) (u mk : Value) (cs : Value → List Value) (i k : Nat) (l : Value) (gm cm : Nat) (ss : List Value) (W : World) : Prop where
  len : ss.length = i + 1
  lt : bL < w.heap.size
  row : Row W bL tW (cs (.slice (some ⟨gm, 0, none⟩) (i + 1) cm))
  own : W.ownsRow w.heap.size tO 2 (.slice (some ⟨gm, 0, none⟩) (i + 1) cm) (i + 1) (ss.flatMap fun s => [s, mk])
  lis : W.ownsRow w.heap.size tL sz l k (List.replicate (k * sz) u)
  rds : ∀ s ∈ ss, Reads (fun _ => u) sz k s W ∧ ∀ g j c, s = .slice (some ⟨g, 0, none⟩) j c → w.heap.size ≤ g ∧ g ≠ gm
  ne : l.ownBlock ≠ some gm
  gr : w.grownBy W (some bL)
theorem grown_trans {w w1 w2 : World} {row row' : Option Nat} (h : w.grownBy w1 row) (h' : w1.grownBy w2 row') (hr : ∀ k, row' = some k → w.heap.size ≤ k) : w.grownBy w2 row :=
  ⟨h'.os.trans h.os, h'.tape.trans h.tape, h'.output.trans h.output, Nat.le_trans h.size h'.size, fun k hk hn => (h'.block k (Nat.lt_of_lt_of_le hk h.size) (fun e => by have := hr k e.symm; omega)).trans (h.block k hk hn)⟩
theorem grown_below {w w' : World} (h : Below w.heap.size w w') : w.grownBy w' none := ⟨h.os, h.tape, h.output, h.size, fun k hk _ => h.block k hk⟩
theorem grown_set {w w1 : World} {bL i : Nat} (h : w.grownBy w1 (some bL)) (v : Value) : w.grownBy (w1.setCell ⟨bL, i, none⟩ v) (some bL) :=
  ⟨h.os, h.tape, h.output, by simpa [World.setCell] using h.size, fun k hk hn => (Below.heap_setCell w1 ⟨bL, i, none⟩ v k (fun e => hn (by rw [e]))).trans (h.block k hk hn)⟩
theorem owns_set {w : World} {base : Nat} {e : TypeId} {size : Nat} {v : Value} {n : Nat} {xs : List Value} (h : w.ownsRow base e size v n xs) {a : Addr} (ha : a.block < base) (u : Value) : (w.setCell a u).ownsRow base e size v n xs := by
  refine ⟨h.1, ?_⟩
  rcases h.2 with hn | ⟨g, cap, cur, rfl, hb, hgg, rest⟩
  · exact .inl hn
  · exact .inr ⟨g, cap, cur, rfl, hb, (Below.heap_setCell w a u g (by omega)).trans hgg, rest⟩
section
variable {w : World} {bL : Nat} {tW tO tL : TypeId} {sz : Nat} {u mk : Value} {cs : Value → List Value} {i k : Nat} {l : Value} {gm cm : Nat} {ss : List Value} {W W' : World}
theorem Lay.next (h : Lay w bL tW tO tL sz u mk cs i k l gm cm ss W) (hb : Below W.heap.size W W') : Lay w bL tW tO tL sz u mk cs i k l gm cm ss W' :=
  ⟨h.len, h.lt, h.row.old hb, h.own.kept (grown_below hb) (.inr (by simp [Value.ownBlock])), h.lis.kept (grown_below hb) (by cases l.ownBlock <;> simp), fun s hs => ⟨(h.rds s hs).1.grown (grown_below hb) (by simp), (h.rds s hs).2⟩, h.ne, grown_trans h.gr (grown_below hb) (by simp)⟩
theorem Lay.more (h : Lay w bL tW tO tL sz u mk cs i k l gm cm ss W) {g cap : Nat} (hown : W'.ownsRow w.heap.size tL sz (.slice (some ⟨g, 0, none⟩) (k + 1) cap) (k + 1) (List.replicate (k * sz) u ++ List.replicate sz u)) (hgr : W.grownBy W' l.ownBlock)
    (hk : l.ownBlock = some g ∨ (g = W.heap.size ∧ ∀ q, q < W.heap.size → W'.heap[q]? = W.heap[q]?)) : Lay w bL tW tO tL sz u mk cs i (k + 1) (.slice (some ⟨g, 0, none⟩) (k + 1) cap) gm cm ss W' := by
  have e : List.replicate (k * sz) u ++ List.replicate sz u = List.replicate ((k + 1) * sz) u := by rw [List.replicate_append_replicate, Nat.add_mul, Nat.one_mul]
  rw [e] at hown
  have hl := h.lis.lt
  have hgm := h.own.lt gm rfl
  have hne : g ≠ gm := by
    rcases hk with hk | ⟨rfl, -⟩
    · rintro rfl; exact h.ne hk
    · omega
  refine ⟨h.len, h.lt, h.row.of_block (hgr.block bL h.row.lt (fun q => by have := (hl bL q.symm).1; have := h.lt; omega)), h.own.kept hgr (.inr (fun q => h.ne q.symm)), hown, fun s hs => ⟨(h.rds s hs).1.append hgr hown (fun p hp => by simp [hp]) (hk.imp id And.right), (h.rds s hs).2⟩, by simpa [Value.ownBlock] using hne, grown_trans h.gr hgr (fun q hq => (hl q hq).1)⟩
theorem Lay.laid (h : Lay w bL tW tO tL sz u mk cs i k l gm cm ss W) {f : Nat} (hcs : ∀ v v', (cs v).set f v' = cs v') {g cap : Nat} (hown : W'.ownsRow w.heap.size tO 2 (.slice (some ⟨g, 0, none⟩) (i + 2) cap) (i + 2) ((ss.flatMap fun s => [s, mk]) ++ [l, mk])) (hgr : W.grownBy W' (some gm))
    (hg : g = gm ∨ g = W.heap.size) (hlk : l = .slice none 0 0 ∨ ∃ g c, l = .slice (some ⟨g, 0, none⟩) k c ∧ k ≤ c) : Lay w bL tW tO tL sz u mk cs (i + 1) k l g cap (ss ++ [l]) (W'.setCell ⟨bL, f, none⟩ (.slice (some ⟨g, 0, none⟩) (i + 2) cap)) := by
  have hgm := h.own.lt gm rfl
  have hl := h.lis.lt
  have hlt := h.lt
  have hbm : bL ≠ gm := by omega
  have hlw : W'.ownsRow w.heap.size tL sz l k (List.replicate (k * sz) u) := h.lis.kept hgr (.inr h.ne)
  have hrl : Reads (fun _ => u) sz k l W' ∧ ∀ g' j c, l = .slice (some ⟨g', 0, none⟩) j c → w.heap.size ≤ g' ∧ g' ≠ g := by
    rcases hlk with rfl | ⟨g', c, rfl, hc⟩
    · exact ⟨.inl rfl, by simp⟩
    · have h5 := hl g' rfl
      have h6 : g' ≠ gm := fun q => h.ne (by rw [q]; rfl)
      refine ⟨.inr ⟨g', k, c, rfl, Nat.le_refl _, hc, by have := hgr.size; omega, fun p hp => ?_⟩, ?_⟩
      · have := hlw.cells (g := g') rfl p u (by simp [hp])
        rw [show (⟨g', 0, none⟩ : Addr).add p = ⟨g', p, none⟩ by by_cases q : p = 0 <;> simp [Addr.add, q]] at this
        exact this
      · intro g2 j c2 q
        injection q with q1; injection q1 with q2; injection q2 with q3
        subst q3
        exact ⟨h5.1, by rcases hg with rfl | rfl <;> omega⟩
  refine ⟨by simp [h.len], h.lt, ?_, ?_, owns_set hlw h.lt _, ?_, ?_, grown_set (grown_trans h.gr hgr (fun q hq => by injection hq with hq; omega)) _⟩
  · have hr := (h.row.of_block (hgr.block bL h.row.lt (fun q => hbm (by injection q)))).set f (.slice (some ⟨g, 0, none⟩) (i + 2) cap)
    rw [hcs] at hr
    exact hr
  · rw [List.flatMap_append]
    exact owns_set (by simpa using hown) h.lt _
  · intro s hs
    rcases List.mem_append.1 hs with hs | hs
    · obtain ⟨r1, r2⟩ := h.rds s hs
      refine ⟨(r1.grown hgr (fun g' j c q e => (r2 g' j c q).2 (by injection e with e; exact e.symm))).set _ (fun g' j c q => by have := (r2 g' j c q).1; show g' ≠ bL; omega), fun g' j c q => ⟨(r2 g' j c q).1, ?_⟩⟩
      rcases hg with rfl | rfl
      · exact (r2 g' j c q).2
      · rcases r1 with r1 | ⟨g3, j3, c3, r3, -, -, r4, -⟩
        · rw [r1] at q; simp at q
        · rw [r3] at q; injection q with q1; injection q1 with q2; injection q2 with q3; omega
    · rw [List.mem_singleton.1 hs]
      exact ⟨hrl.1.set _ (fun g' j c q => by have := (hrl.2 g' j c q).1; show g' ≠ bL; omega), hrl.2⟩
  · rcases hlk with rfl | ⟨g', c, rfl, hc⟩
    · simp [Value.ownBlock]
    · have := (hrl.2 g' k c rfl).2
      simpa [Value.ownBlock] using this
end
end Go.Proofs.YtefjhnhdagolhaaGreat
namespace Go.Proofs.YtefjhnhdagolhaaGreat
open Go.RowKit
set_option maxHeartbeats 400000 in
theorem sameInts_len (a b : Option Addr) (n m ca cb : Nat) (w : World) (hne : n ≠ m) (_hn : n ≤ maxLen) (_hm : m ≤ maxLen) :
    Calls Tryz.prog 28 #[.slice a n ca, .slice b m cb] w fun e w' => e = .returned (.bool false) ∧ ∃ k, w' = w.drewN k := by
  unfold maxLen at *
  have h1 : ((n : Int) != (m : Int)) = true := by rw [bne_iff_ne]; omega
  go_enter Tryz.func28, Tryz.ntmps28
  go_wp2
  go_ret
  exact ⟨rfl, 0, rfl⟩
set_option maxHeartbeats 800000 in
theorem sameInts_same (xs ys : List Int) (va vb : Value) (w : World) (ha : Sl w va (ints xs)) (hb : Sl w vb (ints ys)) (hl : xs.length = ys.length) :
    Calls Tryz.prog 28 #[va, vb] w fun e w' => e = .returned (.bool (decide (xs = ys))) ∧ ∃ k, w' = w.drewN k := by
  obtain ⟨a, ca, rfl, h1, h2, h3⟩ := ha.open_ints
  obtain ⟨b, cb, rfl, h4, h5, h6⟩ := hb.open_ints
  clear ha hb
  rw [← hl] at h4 ⊢
  have hmax : xs.length ≤ maxLen := Nat.le_trans h1 h2
  unfold maxLen at hmax
  have HL : Hid (xs.length = ys.length) := hl
  have H3 := hide h3
  have H6 := hide h6
  clear hl h3 h6 h2 h5
  have h0 : ((xs.length : Int) != (xs.length : Int)) = false := by simp
  go_enter Tryz.func28, Tryz.ntmps28
  go_wp2
  go_loopw [5] (fun i w' => ∃ k : Nat, k ≤ xs.length ∧ i = .int .i64 k ∧ xs.take k = ys.take k ∧ ∃ q, w' = w.drewN q) (fun i _ => xs.length - (intOf i).toNat)
  case atStart => exact ⟨0, Nat.zero_le _, rfl, by simp, 0, rfl⟩
  case round =>
    obtain ⟨k, hk, rfl, heq, q, rfl⟩ := hrel
    have HE := hide heq
    clear heq
    by_cases hlt : k < xs.length
    · obtain ⟨g, off, rfl, hc⟩ := (unhide H3) k hlt
      obtain ⟨g', off', rfl, hc'⟩ := (unhide H6) k (by rw [← HL.out]; exact hlt)
      have hlt' : (k : Int) < (xs.length : Int) := by omega
      have hk0 : (0 : Int) ≤ (k : Int) := by omega
      by_cases hx : xs[k] = ys[k]'(by rw [← HL.out]; exact hlt)
      · have HX := hide hx
        clear hx
        have hn : (xs[k] != ys[k]'(by rw [← HL.out]; exact hlt)) = false := by simp [HX.out]
        go_wp2
        go_quiet (fail)
        go_wp2
        go_roundw
        case rel => exact ⟨k + 1, by omega, by go_num, take_eq_succ HE.out hlt (by rw [← HL.out]; exact hlt) HX.out, q + nq, by first | rfl | rw [World.drewN_drewN]⟩
        case measure => simp [intOf]; omega
      · have HX := hide hx
        clear hx
        have hn : (xs[k] != ys[k]'(by rw [← HL.out]; exact hlt)) = true := by simpa using HX.out
        go_wp2
        go_quiet (fail)
        go_wp2
        go_ret
        have hd : decide (xs = ys) = false := by
          rw [decide_eq_false_iff_not]; rintro rfl; exact HX.out rfl
        exact ⟨ret_bool hd.symm, q + nq, by first | rfl | rw [World.drewN_drewN]⟩
    · go_wp2
      go_ret
      have hd : decide (xs = ys) = true := by
        rw [decide_eq_true_eq]
        have := HE.out
        rwa [List.take_of_length_le (by omega), List.take_of_length_le (by have := HL.out; omega)] at this
      exact ⟨ret_bool hd.symm, _, rfl⟩
theorem sameInts_any (xs ys : List Int) (va vb : Value) (w : World) (ha : Sl w va (ints xs)) (hb : Sl w vb (ints ys)) :
    Calls Tryz.prog 28 #[va, vb] w fun e w' => e = .returned (.bool (decide (xs = ys))) ∧ ∃ k, w' = w.drewN k := by
  by_cases hl : xs.length = ys.length
  · exact sameInts_same xs ys va vb w ha hb hl
  · have hd : decide (xs = ys) = false := by rw [decide_eq_false_iff_not]; rintro rfl; exact hl rfl
    rw [hd]
    obtain ⟨a, ca, rfl, h1, h2, h3⟩ := ha.open_ints
    obtain ⟨b, cb, rfl, h4, h5, h6⟩ := hb.open_ints
    exact sameInts_len a b _ _ ca cb w hl (Nat.le_trans h1 h2) (Nat.le_trans h4 h5)
end Go.Proofs.YtefjhnhdagolhaaGreat
namespace Go.Proofs.YtefjhnhdagolhaaGreat
open Go.RowKit
theorem info_int : (Tryz.prog.info? 3).map (fun i => (i.zero, i.size, i.bytes)) = some (some (.int .i64 0), 1, 8) := by kernel_rfl
theorem size_int : (Tryz.prog.info? 3).map (·.size) = some 1 := by kernel_rfl
set_option maxHeartbeats 800000 in
theorem handed_any (xs : List Int) (v : Value) (w : World) (hv : Sl w v (ints xs)) (hn : xs.length ≤ 1048576) :
    Calls Tryz.prog 24 #[v] w fun e w' => ∃ g, e = .returned (.slice (some ⟨g, 0, none⟩) (xs.length + 2) (xs.length + 2)) ∧ w.heap.size ≤ g ∧
      w'.heap[g]? = some (.cells (ints (xs ++ [-77, -77])).toArray 3 (0, 0)) ∧ Below w.heap.size w w' := by
  obtain ⟨a, ca, rfl, h1, h2, h3⟩ := hv.open_ints
  have hmk := run_make_zeros (P := Tryz.prog) 22 3 (.int .i64 0) 8 Tryz.underlying22 info_int rfl ((xs.length : Int) + 2) (xs.length + 2) (by omega) (by omega) (by omega)
  clear h1 h2
  have H3 := hide h3
  clear h3
  clear hv
  have hb0 : ∀ o, Below w.heap.size w (w.alloc o) := fun o => (Below.refl _ _).alloc (Nat.le_refl _) o
  go_enter Tryz.func24, Tryz.ntmps24
  go_wp2_with (with_reducible refine wpList_copy_splice rfl (.tmp 10) (.tmp 11) 22 22 rfl 3 Tryz.underlying22 size_int _ _ _ _ _ _ rfl rfl w.heap.size 0 (zeros (.int .i64 0) (xs.length + 2)) 3 ?hg (ints xs) ?hn ?hpos ?hfit ?h1 w.heap.size w ?hb ?hBg ?hk)
  case hg => exact Row.new _ _ _
  case hn => simp [length_ints]
  case hpos =>
    intro hp
    rw [length_ints] at hp
    obtain ⟨g, off, rfl, -⟩ := (unhide H3) 0 hp
    refine ⟨_, rfl, fun j v hj => ?_⟩
    have hj' : j < xs.length := by rw [← length_ints]; exact (List.getElem?_eq_some_iff.1 hj).1
    obtain ⟨g', off', he, hc⟩ := (unhide H3) j hj'
    cases he
    rw [getElem?_ints, List.getElem?_eq_getElem hj'] at hj
    cases hj
    rw [addr_add]
    exact cell_new hc _
  case hfit => simp [length_ints, length_zeros]
  case h1 => exact one_ints xs
  case hb => exact hb0 _
  case hBg => exact Nat.le_refl _
  case hk =>
    intro w2 HG2 hB2
    have HG3 : Row w2 w.heap.size 3 (splice (zeros (.int .i64 0) (xs.length + 2)) 0 (ints xs)) := HG2.out
    have hs : splice (zeros (.int .i64 0) (xs.length + 2)) 0 (ints xs) = ints xs ++ [.int .i64 0, .int .i64 0] := by
      simp [splice, zeros, length_ints]
    rw [hs] at HG3
    clear hs HG2
    have hc1 : w2.cell? ⟨w.heap.size, xs.length, none⟩ = some (.int .i64 0) := HG3.cell_of (by rw [List.getElem?_append_right (by simp [length_ints])]; simp [length_ints])
    have hc2 : w2.cell? ⟨w.heap.size, xs.length + 1, none⟩ = some (.int .i64 0) := HG3.cell_of (by rw [List.getElem?_append_right (by simp [length_ints])]; simp [length_ints])
    have hf := HG3.frozen
    have hx1 : (0 : Int) ≤ (xs.length : Int) := by omega
    have hx2 : (xs.length : Int) < (xs.length + 2 : Nat) := by omega
    have hx3 : (xs.length : Int) + 1 < (xs.length + 2 : Nat) := by omega
    go_wp2
    go_ret
    refine ⟨w.heap.size, rfl, Nat.le_refl _, ?_, (hB2.setCell (Nat.le_refl _) _).setCell (Nat.le_refl _) _⟩
    have h9 := (HG3.set xs.length (.int .i64 (-77))).set (xs.length + 1) (.int .i64 (-77))
    have he : ((ints xs ++ [Value.int .i64 0, .int .i64 0]).set xs.length (.int .i64 (-77))).set (xs.length + 1) (.int .i64 (-77)) = ints (xs ++ [-77, -77]) := by
      rw [List.set_append_right _ _ (by simp [length_ints])]
      rw [List.set_append_right _ _ (by simp [length_ints])]
      simp [ints]
    rw [he] at h9
    exact h9
end Go.Proofs.YtefjhnhdagolhaaGreat
namespace Go.Proofs.YtefjhnhdagolhaaGreat
open Go.RowKit
def tableOk (st co : Int) (nx ou : List Int) : Bool :=
  decide (1 ≤ st) && decide (st ≤ 64) && decide (1 ≤ co) && decide (co ≤ 16) && decide ((nx.length : Int) = st * co) && decide ((ou.length : Int) = st * co) && nx.all fun x => decide (0 ≤ x) && decide (x < st)
theorem all_take_succ {nx : List Int} {p : Int → Bool} {k : Nat} (h : (nx.take k).all p = true) (hk : k < nx.length) (hp : p nx[k] = true) : (nx.take (k + 1)).all p = true := by
  rw [List.take_succ_eq_append_getElem hk, List.all_append, h]; simp [hp]
theorem all_false {nx : List Int} {p : Int → Bool} {k : Nat} (hk : k < nx.length) (hp : p nx[k] = false) : nx.all p = false := by
  rw [List.all_eq_false]
  exact ⟨nx[k], List.getElem_mem hk, by simp [hp]⟩
theorem prod_bd {st co : Int} (h1 : 1 ≤ st) (h2 : st ≤ 64) (h3 : 1 ≤ co) (h4 : co ≤ 16) : 1 ≤ st * co ∧ st * co ≤ 1024 := by
  constructor
  · have := Int.mul_le_mul h1 h3 (by omega) (by omega); omega
  · have := Int.mul_le_mul h2 h4 (by omega) (by omega); omega
set_option maxHeartbeats 1000000 in
theorem refTable_any (st co : Int) (nx ou : List Int) (vn vo : Value) (w : World) (hn : Sl w vn (ints nx)) (ho : Sl w vo (ints ou)) :
    Calls Tryz.prog 74 #[.agg #[.int .i64 st, .int .i64 co, vn, vo]] w fun e w' => e = .returned (.bool (tableOk st co nx ou)) ∧ Below w.heap.size w w' := by
  obtain ⟨a, ca, rfl, h1, h2, h3⟩ := hn.open_ints
  obtain ⟨b, cb, rfl, h4, h5, h6⟩ := ho.open_ints
  clear hn ho h6
  have H3 := hide h3
  clear h3
  have hmax : nx.length ≤ maxLen := Nat.le_trans h1 h2
  have hmax2 : ou.length ≤ maxLen := Nat.le_trans h4 h5
  unfold maxLen at *
  by_cases c1 : st < 1
  · rw [show tableOk st co nx ou = false from by simp [tableOk]; omega]
    go_enter Tryz.func74, Tryz.ntmps74
    go_wp2
    go_ret
    exact ⟨rfl, (by repeat (first | exact Below.refl _ _ | assumption | refine Below.drewN ?_ _ | refine Below.alloc ?_ (by simp) _))⟩
  by_cases c2 : 64 < st
  · rw [show tableOk st co nx ou = false from by simp [tableOk]; omega]
    go_enter Tryz.func74, Tryz.ntmps74
    go_wp2
    go_ret
    exact ⟨rfl, (by repeat (first | exact Below.refl _ _ | assumption | refine Below.drewN ?_ _ | refine Below.alloc ?_ (by simp) _))⟩
  by_cases c3 : co < 1
  · rw [show tableOk st co nx ou = false from by simp [tableOk]; omega]
    go_enter Tryz.func74, Tryz.ntmps74
    go_wp2
    go_ret
    exact ⟨rfl, (by repeat (first | exact Below.refl _ _ | assumption | refine Below.drewN ?_ _ | refine Below.alloc ?_ (by simp) _))⟩
  by_cases c4 : 16 < co
  · rw [show tableOk st co nx ou = false from by simp [tableOk]; omega]
    go_enter Tryz.func74, Tryz.ntmps74
    go_wp2
    go_ret
    exact ⟨rfl, (by repeat (first | exact Below.refl _ _ | assumption | refine Below.drewN ?_ _ | refine Below.alloc ?_ (by simp) _))⟩
  have hp := prod_bd (st := st) (co := co) (by omega) (by omega) (by omega) (by omega)
  by_cases c5 : (nx.length : Int) ≠ st * co
  · rw [show tableOk st co nx ou = false from by simp [tableOk]; omega]
    have c5' : ((nx.length : Int) != st * co) = true := by rw [bne_iff_ne]; exact c5
    clear c5
    go_enter Tryz.func74, Tryz.ntmps74
    go_wp2
    go_ret
    exact ⟨rfl, (by repeat (first | exact Below.refl _ _ | assumption | refine Below.drewN ?_ _ | refine Below.alloc ?_ (by simp) _))⟩
  replace c5 : (nx.length : Int) = st * co := Decidable.of_not_not c5
  by_cases c6 : (ou.length : Int) ≠ st * co
  · rw [show tableOk st co nx ou = false from by simp [tableOk]; omega]
    have c5' : ((nx.length : Int) != st * co) = false := by rw [bne_eq_false_iff_eq]; exact c5
    have c6' : ((ou.length : Int) != st * co) = true := by rw [bne_iff_ne]; exact c6
    clear c5 c6
    go_enter Tryz.func74, Tryz.ntmps74
    go_wp2
    go_ret
    exact ⟨rfl, (by repeat (first | exact Below.refl _ _ | assumption | refine Below.drewN ?_ _ | refine Below.alloc ?_ (by simp) _))⟩
  replace c6 : (ou.length : Int) = st * co := Decidable.of_not_not c6
  have hT : tableOk st co nx ou = nx.all fun x => decide (0 ≤ x) && decide (x < st) := by
    simp only [tableOk]
    rw [decide_eq_true (show 1 ≤ st by omega), decide_eq_true (show st ≤ 64 by omega), decide_eq_true (show 1 ≤ co by omega), decide_eq_true (show co ≤ 16 by omega), decide_eq_true c5, decide_eq_true c6]
    rfl
  rw [hT]
  clear hT
  have c5' : ((nx.length : Int) != st * co) = false := by rw [bne_eq_false_iff_eq]; exact c5
  have c6' : ((ou.length : Int) != st * co) = false := by rw [bne_eq_false_iff_eq]; exact c6
  have C5 := hide c5
  clear c5 c6
  go_enter Tryz.func74, Tryz.ntmps74
  go_wp2
  go_loopw [4] (fun i w' => ∃ k : Nat, k ≤ nx.length ∧ i = .int .i64 k ∧ (nx.take k).all (fun x => decide (0 ≤ x) && decide (x < st)) = true ∧ ∃ q, w' = (w.alloc (.cells #[.int .i64 st, .int .i64 co, .slice a nx.length ca, .slice b ou.length cb] 24)).drewN q) (fun i _ => nx.length - (intOf i).toNat)
  case atStart => exact ⟨0, Nat.zero_le _, rfl, by simp, 0, rfl⟩
  case round =>
    obtain ⟨k, hk, rfl, hall, q, rfl⟩ := hrel
    have HE := hide hall
    clear hall
    by_cases hlt : k < nx.length
    · obtain ⟨g, off, rfl, hc⟩ := (unhide H3) k hlt
      have hlt' : (k : Int) < (nx.length : Int) := by omega
      have hlt'' : (k : Int) < st * co := by have := C5.out; omega
      have hk0 : (0 : Int) ≤ (k : Int) := by omega
      have hc' := fun ob => cell_new hc ob
      by_cases hx : nx[k] < 0
      · go_wp2
        go_quiet (fail)
        go_wp2
        go_ret
        exact ⟨ret_bool (all_false (p := fun x => decide (0 ≤ x) && decide (x < st)) hlt (by simp; omega)).symm, (by repeat (first | exact Below.refl _ _ | assumption | refine Below.drewN ?_ _ | refine Below.alloc ?_ (by simp) _))⟩
      · by_cases hy : nx[k] < st
        · go_wp2
          go_quiet (fail)
          go_wp2
          go_roundw
          case rel => exact ⟨k + 1, by omega, by go_num, all_take_succ HE.out hlt (by simp; omega), q + nq, by first | rfl | rw [World.drewN_drewN]⟩
          case measure => simp [intOf]; omega
        · have hy' : st ≤ nx[k] := by omega
          go_wp2
          go_quiet (fail)
          go_wp2
          go_ret
          exact ⟨ret_bool (all_false (p := fun x => decide (0 ≤ x) && decide (x < st)) hlt (by simp; omega)).symm, (by repeat (first | exact Below.refl _ _ | assumption | refine Below.drewN ?_ _ | refine Below.alloc ?_ (by simp) _))⟩
    · have hlt'' : ¬ (k : Int) < st * co := by have := C5.out; omega
      go_wp2
      go_ret
      have := HE.out
      rw [List.take_of_length_le (by omega)] at this
      exact ⟨ret_bool this.symm, (by repeat (first | exact Below.refl _ _ | assumption | refine Below.drewN ?_ _ | refine Below.alloc ?_ (by simp) _))⟩
set_option maxHeartbeats 400000 in
theorem within_any (n a b : Int) (w : World) :
    Calls Tryz.prog 95 #[.int .i64 n, .int .i64 a, .int .i64 b] w fun e w' => e = .returned (.bool (decide (a ≤ n) && decide (n ≤ b))) ∧ w' = w := by
  by_cases h1 : a ≤ n
  · rw [decide_eq_true h1, Bool.true_and]
    go_enter Tryz.func95, Tryz.ntmps95
    go_wp2
    go_ret
    exact ⟨rfl, rfl⟩
  · rw [decide_eq_false h1, Bool.false_and]
    have h1' : decide (a ≤ n) = false := decide_eq_false h1
    go_enter Tryz.func95, Tryz.ntmps95
    go_wp2
    go_ret
    exact ⟨rfl, rfl⟩
theorem within_yes (n a b : Int) (w : World) (h1 : a ≤ n) (h2 : n ≤ b) :
    Calls Tryz.prog 95 #[.int .i64 n, .int .i64 a, .int .i64 b] w fun e w' => e = .returned (.bool true) ∧ w' = w := by
  have := within_any n a b w
  rwa [decide_eq_true h1, decide_eq_true h2] at this
theorem within_no (n a b : Int) (w : World) (h : n < a ∨ b < n) :
    Calls Tryz.prog 95 #[.int .i64 n, .int .i64 a, .int .i64 b] w fun e w' => e = .returned (.bool false) ∧ w' = w := by
  have := within_any n a b w
  rwa [show (decide (a ≤ n) && decide (n ≤ b)) = false from by simp; omega] at this
end Go.Proofs.YtefjhnhdagolhaaGreat
namespace Go.Proofs.YtefjhnhdagolhaaGreat
open Go.RowKit
set_option maxHeartbeats 1000000 in
theorem isTable_any (st co : Int) (nx ou : List Int) (vn vo : Value) (w : World) (hn : Sl w vn (ints nx)) (ho : Sl w vo (ints ou)) :
    Calls Tryz.prog 103 #[.agg #[.int .i64 st, .int .i64 co, vn, vo]] w fun e w' => e = .returned (.bool (tableOk st co nx ou)) ∧ Below w.heap.size w w' := by
  obtain ⟨a, ca, rfl, h1, h2, h3⟩ := hn.open_ints
  obtain ⟨b, cb, rfl, h4, h5, h6⟩ := ho.open_ints
  clear hn ho h6
  have H3 := hide h3
  clear h3
  have hmax : nx.length ≤ maxLen := Nat.le_trans h1 h2
  have hmax2 : ou.length ≤ maxLen := Nat.le_trans h4 h5
  unfold maxLen at *
  by_cases c1 : st < 1 ∨ 64 < st
  · rw [show tableOk st co nx ou = false from by simp [tableOk]; omega]
    go_enter Tryz.func103, Tryz.ntmps103
    go_wp2_with (go_at_call 95; refine (within_no _ _ _ _ c1).mono ?_; rintro e w' ⟨rfl, rfl⟩)
    go_ret
    exact ⟨rfl, (by repeat (first | exact Below.refl _ _ | assumption | refine Below.drewN ?_ _ | refine Below.alloc ?_ (by simp) _))⟩
  have c1' : 1 ≤ st ∧ st ≤ 64 := by omega
  clear c1
  by_cases c3 : co < 1 ∨ 16 < co
  · rw [show tableOk st co nx ou = false from by simp [tableOk]; omega]
    go_enter Tryz.func103, Tryz.ntmps103
    go_wp2_with fail
    refine (within_yes _ _ _ _ c1'.1 c1'.2).mono ?_
    rintro e w' ⟨rfl, rfl⟩
    go_wp2_with fail
    refine (within_no _ _ _ _ c3).mono ?_
    rintro e w' ⟨rfl, rfl⟩
    go_wp2
    go_ret
    exact ⟨rfl, (by repeat (first | exact Below.refl _ _ | assumption | refine Below.drewN ?_ _ | refine Below.alloc ?_ (by simp) _))⟩
  have c3' : 1 ≤ co ∧ co ≤ 16 := by omega
  clear c3
  obtain ⟨s1, s2⟩ := c1'
  obtain ⟨s3, s4⟩ := c3'
  have hp := prod_bd s1 s2 s3 s4
  by_cases c5 : (nx.length : Int) ≠ st * co
  · rw [show tableOk st co nx ou = false from by simp [tableOk]; omega]
    have c5' : ((nx.length : Int) != st * co) = true := by rw [bne_iff_ne]; exact c5
    clear c5
    go_enter Tryz.func103, Tryz.ntmps103
    go_wp2_with fail
    refine (within_yes _ _ _ _ s1 s2).mono ?_
    rintro e w' ⟨rfl, rfl⟩
    go_wp2_with fail
    refine (within_yes _ _ _ _ s3 s4).mono ?_
    rintro e w' ⟨rfl, rfl⟩
    go_wp2
    go_ret
    exact ⟨rfl, (by repeat (first | exact Below.refl _ _ | assumption | refine Below.drewN ?_ _ | refine Below.alloc ?_ (by simp) _))⟩
  replace c5 : (nx.length : Int) = st * co := Decidable.of_not_not c5
  by_cases c6 : (ou.length : Int) ≠ st * co
  · rw [show tableOk st co nx ou = false from by simp [tableOk]; omega]
    have c5' : ((nx.length : Int) != st * co) = false := by rw [bne_eq_false_iff_eq]; exact c5
    have c6' : ((ou.length : Int) != st * co) = true := by rw [bne_iff_ne]; exact c6
    clear c5 c6
    go_enter Tryz.func103, Tryz.ntmps103
    go_wp2_with fail
    refine (within_yes _ _ _ _ s1 s2).mono ?_
    rintro e w' ⟨rfl, rfl⟩
    go_wp2_with fail
    refine (within_yes _ _ _ _ s3 s4).mono ?_
    rintro e w' ⟨rfl, rfl⟩
    go_wp2
    go_ret
    exact ⟨rfl, (by repeat (first | exact Below.refl _ _ | assumption | refine Below.drewN ?_ _ | refine Below.alloc ?_ (by simp) _))⟩
  replace c6 : (ou.length : Int) = st * co := Decidable.of_not_not c6
  have hT : tableOk st co nx ou = nx.all fun x => decide (0 ≤ x) && decide (x < st) := by
    simp only [tableOk]
    rw [decide_eq_true (show 1 ≤ st by omega), decide_eq_true (show st ≤ 64 by omega), decide_eq_true (show 1 ≤ co by omega), decide_eq_true (show co ≤ 16 by omega), decide_eq_true c5, decide_eq_true c6]
    rfl
  rw [hT]
  clear hT
  have c5' : ((nx.length : Int) != st * co) = false := by rw [bne_eq_false_iff_eq]; exact c5
  have c6' : ((ou.length : Int) != st * co) = false := by rw [bne_eq_false_iff_eq]; exact c6
  clear c5 c6
  go_enter Tryz.func103, Tryz.ntmps103
  go_wp2_with fail
  refine (within_yes _ _ _ _ s1 s2).mono ?_
  rintro e w' ⟨rfl, rfl⟩
  go_wp2_with fail
  refine (within_yes _ _ _ _ s3 s4).mono ?_
  rintro e w' ⟨rfl, rfl⟩
  go_wp2
  go_loop [36] (fun i => ∃ k : Nat, k ≤ nx.length ∧ i = .int .i64 k ∧ (nx.take k).all (fun x => decide (0 ≤ x) && decide (x < st)) = true) (fun i => nx.length - (intOf i).toNat)
  case atStart => exact ⟨0, Nat.zero_le _, rfl, by simp⟩
  case round =>
    obtain ⟨k, hk, rfl, hall⟩ := hrel
    have HE := hide hall
    clear hall
    by_cases hlt : k < nx.length
    · obtain ⟨g, off, rfl, hc⟩ := (unhide H3) k hlt
      have hlt' : (k : Int) < (nx.length : Int) := by omega
      have hk0 : (0 : Int) ≤ (k : Int) := by omega
      have hc' := fun ob => cell_new hc ob
      by_cases hx : nx[k] < 0 ∨ st - 1 < nx[k]
      · go_wp2_with fail
        refine (within_no _ _ _ _ hx).mono ?_
        rintro e w' ⟨rfl, rfl⟩
        go_wp2
        go_ret
        exact ⟨ret_bool (all_false (p := fun x => decide (0 ≤ x) && decide (x < st)) hlt (by simp; omega)).symm, (by repeat (first | exact Below.refl _ _ | assumption | refine Below.drewN ?_ _ | refine Below.alloc ?_ (by simp) _))⟩
      · have hx1 : 0 ≤ nx[k] := by omega
        have hx2 : nx[k] ≤ st - 1 := by omega
        clear hx
        go_wp2_with fail
        refine (within_yes _ _ _ _ hx1 hx2).mono ?_
        rintro e w' ⟨rfl, rfl⟩
        go_wp2
        go_round
        case rel => exact ⟨k + 1, by omega, by go_num, all_take_succ HE.out hlt (by simp; omega)⟩
        case measure => simp [intOf]; omega
    · go_wp2
      go_ret
      have := HE.out
      rw [List.take_of_length_le (by omega)] at this
      exact ⟨ret_bool this.symm, (by repeat (first | exact Below.refl _ _ | assumption | refine Below.drewN ?_ _ | refine Below.alloc ?_ (by simp) _))⟩
end Go.Proofs.YtefjhnhdagolhaaGreat
namespace Go.Proofs.YtefjhnhdagolhaaGreat
open Go.RowKit
def cfgErr (kind th cap st co : Int) (nx ou : List Int) : Int :=
  if 1 ≤ kind ∧ kind ≤ 5 ∧ 1 ≤ th ∧ th ≤ 64 ∧ 0 ≤ cap ∧ cap ≤ 64 then
    if kind = 5 then if tableOk st co nx ou = true then 0 else 2 else 0
  else 1
theorem cfgErr_one {kind th cap st co : Int} {nx ou : List Int} (h : ¬ (1 ≤ kind ∧ kind ≤ 5 ∧ 1 ≤ th ∧ th ≤ 64 ∧ 0 ≤ cap ∧ cap ≤ 64)) : cfgErr kind th cap st co nx ou = 1 := by
  unfold cfgErr; rw [if_neg h]
theorem cfgErr_two {kind th cap st co : Int} {nx ou : List Int} (h : 1 ≤ kind ∧ kind ≤ 5 ∧ 1 ≤ th ∧ th ≤ 64 ∧ 0 ≤ cap ∧ cap ≤ 64) (h5 : kind = 5) (ht : tableOk st co nx ou = false) : cfgErr kind th cap st co nx ou = 2 := by
  unfold cfgErr; rw [if_pos h, if_pos h5, ht]; rfl
theorem cfgErr_zero5 {kind th cap st co : Int} {nx ou : List Int} (h : 1 ≤ kind ∧ kind ≤ 5 ∧ 1 ≤ th ∧ th ≤ 64 ∧ 0 ≤ cap ∧ cap ≤ 64) (h5 : kind = 5) (ht : tableOk st co nx ou = true) : cfgErr kind th cap st co nx ou = 0 := by
  unfold cfgErr; rw [if_pos h, if_pos h5, ht]; rfl
theorem cfgErr_zero {kind th cap st co : Int} {nx ou : List Int} (h : 1 ≤ kind ∧ kind ≤ 5 ∧ 1 ≤ th ∧ th ≤ 64 ∧ 0 ≤ cap ∧ cap ≤ 64) (h5 : kind ≠ 5) : cfgErr kind th cap st co nx ou = 0 := by
  unfold cfgErr; rw [if_pos h, if_neg h5]
set_option maxHeartbeats 1000000 in
theorem checkConfig_any (kind th cap st co : Int) (nx ou : List Int) (vn vo : Value) (w : World) (hn : Sl w vn (ints nx)) (ho : Sl w vo (ints ou)) :
    Calls Tryz.prog 76 #[.agg #[.int .i64 kind, .int .i64 th, .int .i64 cap, .int .i64 st, .int .i64 co, vn, vo]] w fun e w' => e = .returned (.int .i64 (cfgErr kind th cap st co nx ou)) ∧ Below w.heap.size w w' := by
  by_cases c1 : kind < 1 ∨ 5 < kind
  · rw [cfgErr_one (by omega)]
    go_enter Tryz.func76, Tryz.ntmps76
    go_wp2_with fail
    refine (within_no _ _ _ _ c1).mono ?_
    rintro e w' ⟨rfl, rfl⟩
    go_wp2
    go_ret
    exact ⟨rfl, (by repeat (first | exact Below.refl _ _ | assumption | refine Below.drewN ?_ _ | refine Below.alloc ?_ (by simp) _))⟩
  by_cases c2 : th < 1 ∨ 64 < th
  · rw [cfgErr_one (by omega)]
    go_enter Tryz.func76, Tryz.ntmps76
    go_wp2_with fail
    refine (within_yes _ _ _ _ (by omega) (by omega)).mono ?_
    rintro e w' ⟨rfl, rfl⟩
    go_wp2_with fail
    refine (within_no _ _ _ _ c2).mono ?_
    rintro e w' ⟨rfl, rfl⟩
    go_wp2
    go_ret
    exact ⟨rfl, (by repeat (first | exact Below.refl _ _ | assumption | refine Below.drewN ?_ _ | refine Below.alloc ?_ (by simp) _))⟩
  by_cases c3 : cap < 0 ∨ 64 < cap
  · rw [cfgErr_one (by omega)]
    go_enter Tryz.func76, Tryz.ntmps76
    go_wp2_with fail
    refine (within_yes _ _ _ _ (by omega) (by omega)).mono ?_
    rintro e w' ⟨rfl, rfl⟩
    go_wp2_with fail
    refine (within_yes _ _ _ _ (by omega) (by omega)).mono ?_
    rintro e w' ⟨rfl, rfl⟩
    go_wp2_with fail
    refine (within_no _ _ _ _ c3).mono ?_
    rintro e w' ⟨rfl, rfl⟩
    go_wp2
    go_ret
    exact ⟨rfl, (by repeat (first | exact Below.refl _ _ | assumption | refine Below.drewN ?_ _ | refine Below.alloc ?_ (by simp) _))⟩
  by_cases c5 : kind = 5
  · have c5' : (kind == 5) = true := beq_iff_eq.2 c5
    have hbn : ∀ o, Below w.heap.size w (w.alloc o) := fun o => (Below.refl _ _).alloc (Nat.le_refl _) o
    cases ht : tableOk st co nx ou
    · rw [cfgErr_two (by omega) c5 ht]
      have HT := hide ht
      clear ht c5
      go_enter Tryz.func76, Tryz.ntmps76
      go_wp2_with fail
      refine (within_yes _ _ _ _ (by omega) (by omega)).mono ?_
      rintro e w' ⟨rfl, rfl⟩
      go_wp2_with fail
      refine (within_yes _ _ _ _ (by omega) (by omega)).mono ?_
      rintro e w' ⟨rfl, rfl⟩
      go_wp2_with fail
      refine (within_yes _ _ _ _ (by omega) (by omega)).mono ?_
      rintro e w' ⟨rfl, rfl⟩
      go_wp2_with fail
      refine (isTable_any st co nx ou _ _ _ (hn.below (hbn _)) (ho.below (hbn _))).mono ?_
      rintro e w1 ⟨rfl, hb1⟩
      rw [HT.out]
      go_wp2
      go_ret
      exact ⟨rfl, (hbn _).trans (hb1.mono (by simp))⟩
    · rw [cfgErr_zero5 (by omega) c5 ht]
      have HT := hide ht
      clear ht c5
      go_enter Tryz.func76, Tryz.ntmps76
      go_wp2_with fail
      refine (within_yes _ _ _ _ (by omega) (by omega)).mono ?_
      rintro e w' ⟨rfl, rfl⟩
      go_wp2_with fail
      refine (within_yes _ _ _ _ (by omega) (by omega)).mono ?_
      rintro e w' ⟨rfl, rfl⟩
      go_wp2_with fail
      refine (within_yes _ _ _ _ (by omega) (by omega)).mono ?_
      rintro e w' ⟨rfl, rfl⟩
      go_wp2_with fail
      refine (isTable_any st co nx ou _ _ _ (hn.below (hbn _)) (ho.below (hbn _))).mono ?_
      rintro e w1 ⟨rfl, hb1⟩
      rw [HT.out]
      go_wp2
      go_ret
      exact ⟨rfl, (hbn _).trans (hb1.mono (by simp))⟩
  · rw [cfgErr_zero (by omega) c5]
    have c5' : (kind == 5) = false := beq_eq_false_iff_ne.2 c5
    clear c5
    go_enter Tryz.func76, Tryz.ntmps76
    go_wp2_with fail
    refine (within_yes _ _ _ _ (by omega) (by omega)).mono ?_
    rintro e w' ⟨rfl, rfl⟩
    go_wp2_with fail
    refine (within_yes _ _ _ _ (by omega) (by omega)).mono ?_
    rintro e w' ⟨rfl, rfl⟩
    go_wp2_with fail
    refine (within_yes _ _ _ _ (by omega) (by omega)).mono ?_
    rintro e w' ⟨rfl, rfl⟩
    go_wp2
    go_ret
    exact ⟨rfl, (by repeat (first | exact Below.refl _ _ | assumption | refine Below.drewN ?_ _ | refine Below.alloc ?_ (by simp) _))⟩
end Go.Proofs.YtefjhnhdagolhaaGreat
namespace Go.Proofs.YtefjhnhdagolhaaGreat
open Go.RowKit
set_option maxHeartbeats 400000 in
theorem counterFirst (w : World) : Calls Tryz.prog 181 #[.agg #[]] w fun e w' => e = .returned (.int .i64 0) ∧ Below w.heap.size w w' := by
  go_enter Tryz.func181, Tryz.ntmps181
  go_wp2
  go_ret
  exact ⟨rfl, (by repeat (first | exact Below.refl _ _ | assumption | refine Below.drewN ?_ _ | refine Below.alloc ?_ (by simp) _))⟩
set_option maxHeartbeats 400000 in
theorem stackFirst (w : World) : Calls Tryz.prog 183 #[.agg #[]] w fun e w' => e = .returned (.pointer none) ∧ Below w.heap.size w w' := by
  go_enter Tryz.func183, Tryz.ntmps183
  go_wp2
  go_ret
  exact ⟨rfl, (by repeat (first | exact Below.refl _ _ | assumption | refine Below.drewN ?_ _ | refine Below.alloc ?_ (by simp) _))⟩
set_option maxHeartbeats 400000 in
theorem queueFirst (w : World) : Calls Tryz.prog 185 #[.agg #[]] w fun e w' => e = .returned (.agg #[.pointer none, .pointer none]) ∧ Below w.heap.size w w' := by
  go_enter Tryz.func185, Tryz.ntmps185
  go_wp2
  exact bodyPost_ret (v := .agg #[.pointer none, .pointer none]) (by simp [results, Tryz.results185, go_sem]) rfl ⟨rfl, (by repeat (first | exact Below.refl _ _ | assumption | refine Below.drewN ?_ _ | refine Below.alloc ?_ (by simp) _))⟩
set_option maxHeartbeats 400000 in
theorem mapFirst (w : World) : Calls Tryz.prog 187 #[.agg #[]] w fun e w' => e = .returned (.pointer none) ∧ Below w.heap.size w w' := by
  go_enter Tryz.func187, Tryz.ntmps187
  go_wp2
  go_ret
  exact ⟨rfl, (by repeat (first | exact Below.refl _ _ | assumption | refine Below.drewN ?_ _ | refine Below.alloc ?_ (by simp) _))⟩
set_option maxHeartbeats 400000 in
theorem tableFirst (a b c d : Value) (w : World) : Calls Tryz.prog 188 #[.agg #[a, b, c, d]] w fun e w' => e = .returned (.int .i64 0) ∧ Below w.heap.size w w' := by
  go_enter Tryz.func188, Tryz.ntmps188
  go_wp2
  go_ret
  exact ⟨rfl, (by repeat (first | exact Below.refl _ _ | assumption | refine Below.drewN ?_ _ | refine Below.alloc ?_ (by simp) _))⟩
theorem counterFirst_m (w : World) : (method 553 140 (.agg #[]) "First").run Tryz.prog w = .ok (181, .agg #[]) w := by kernel_rfl
theorem counterFirst_c (w : World) : (callFunc 181 #[.agg #[]]).run Tryz.prog w = .ok (.enter 181 #[.agg #[]]) w := by kernel_rfl
theorem stackFirst_m (w : World) : (method 553 143 (.agg #[]) "First").run Tryz.prog w = .ok (183, .agg #[]) w := by kernel_rfl
theorem stackFirst_c (w : World) : (callFunc 183 #[.agg #[]]).run Tryz.prog w = .ok (.enter 183 #[.agg #[]]) w := by kernel_rfl
theorem queueFirst_m (w : World) : (method 553 147 (.agg #[]) "First").run Tryz.prog w = .ok (185, .agg #[]) w := by kernel_rfl
theorem queueFirst_c (w : World) : (callFunc 185 #[.agg #[]]).run Tryz.prog w = .ok (.enter 185 #[.agg #[]]) w := by kernel_rfl
theorem mapFirst_m (w : World) : (method 553 150 (.agg #[]) "First").run Tryz.prog w = .ok (187, .agg #[]) w := by kernel_rfl
theorem mapFirst_c (w : World) : (callFunc 187 #[.agg #[]]).run Tryz.prog w = .ok (.enter 187 #[.agg #[]]) w := by kernel_rfl
theorem tableFirst_m (a b c d : Value) (w : World) : (method 553 152 (.agg #[a, b, c, d]) "First").run Tryz.prog w = .ok (188, .agg #[a, b, c, d]) w := by kernel_rfl
theorem tableFirst_c (a b c d : Value) (w : World) : (callFunc 188 #[.agg #[a, b, c, d]]).run Tryz.prog w = .ok (.enter 188 #[.agg #[a, b, c, d]]) w := by kernel_rfl
end Go.Proofs.YtefjhnhdagolhaaGreat
