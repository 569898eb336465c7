import Derived.Test.YtefjhnhdagolhaaGreatQ18
import Derived.Test.YtefjhnhdagolhaaGreatQ17
namespace Go.Proofs.YtefjhnhdagolhaaGreat
open Go.RowKit
open M (upd upd_same upd_other RSt RTh)
attribute [local go_sem ↓] Go.wp_at_zero Go.wp_at_succ
section
variable {L : DL} {S : Nat → Prop} {Y : RSt} {w : World} {lab : Nat → Nat} {vo vp : Nat → Value} {vb : Value} {bv : Nat → Value} {t : Nat}
theorem DR.putF (h : DR L S Y w lab vo vp vb bv) (ht : t < L.n) (k v : Nat) : TLeft L S (Y.set t { Y.th t with flipped := upd (Y.th t).flipped k v }) lab vo vp vb bv w (w.setCell ⟨L.bF t, k, none⟩ (.int .i64 (v : Int))) := by
  have q := h.flL t ht
  have hne : ∀ b, S b → lab b ≠ 4 * t + 5 → (w.setCell ⟨L.bF t, k, none⟩ (.int .i64 (v : Int))).heap[b]? = w.heap[b]? := fun b _ hl => Below.heap_setCell w _ _ b fun e => hl (by rw [show b = L.bF t from e, q.2])
  refine ⟨?_, Fr.set w q.1 _, by simp [World.setCell]⟩
  have := DR.move (w' := w.setCell ⟨L.bF t, k, none⟩ (.int .i64 (v : Int))) (S' := S) (lab' := lab) (bv' := bv) (bs' := Y.bs) (x' := { Y.th t with flipped := upd (Y.th t).flipped k v }) h ht (fun k hS _ _ _ h5 _ => hne k hS h5) (fun k hS => ⟨hS, rfl⟩) (fun k hS => by simp only [World.setCell, Array.size_modify]; exact h.lt k hS) (h.obj.of_block (hne _ h.obL.1 (by rw [h.obL.2]; omega)))
    ((h.th t ht).of_block (hne _ (h.thL t ht).1 (by rw [(h.thL t ht).2]; omega)))
    (by
      refine Fn.congr ((h.fl t ht).set k (.int .i64 (v : Int))) fun j _ => ?_
      by_cases e : j = k
      · subst e; simp [upd_same]
      · simp [upd_other _ _ e])
    (owns_block (h.ops t ht) fun k e => hne k (h.opL t ht k e).1 (by rw [(h.opL t ht k e).2]; omega)) (h.opL t ht)
    (owns_block h.bat fun k e => hne k (h.baL k e).1 (by rw [(h.baL k e).2]; omega)) h.baL
    (fun i hi => (h.bts i hi).of_block fun k e => hne k (h.btL i hi k e).1 (by rw [(h.btL i hi k e).2]; omega)) h.btL
    ((h.pnd t ht).of_block fun k e => hne k (h.pnL t ht k e).1 (by rw [(h.pnL t ht k e).2]; omega)) (h.pnL t ht)
  rw [upd_id vo t _ rfl, upd_id vp t _ rfl] at this
  exact this
theorem TLeft.drew {Y' : RSt} {w1 : World} (h : TLeft L S Y' lab vo vp vb bv w w1) : TLeft L S Y' lab vo vp vb bv w w1.drew := ⟨h.dr.stay (fun _ _ => rfl) (fun _ q => q) h.dr.lt, h.fr.drew, h.size⟩
def readTo (Y : RSt) (f : Nat → Nat) (a k : Nat) : Nat → Nat := fun j => if a ≤ j ∧ j < k then (Y.th j).flips else f j
theorem readTo_succ (Y : RSt) (f : Nat → Nat) (a k : Nat) (h : a ≤ k) : upd (readTo Y f a k) k (Y.th k).flips = readTo Y f a (k + 1) := by
  funext j
  unfold readTo upd
  by_cases e : j = k
  · subst e
    rw [if_pos rfl, if_pos ⟨h, Nat.lt_succ_self _⟩]
  · rw [if_neg e]
    by_cases q : a ≤ j ∧ j < k
    · dsimp only
      rw [if_pos q, if_pos ⟨q.1, by omega⟩]
    · dsimp only
      rw [if_neg q, if_neg (by omega)]
set_option maxRecDepth 20000 in
set_option maxHeartbeats 4000000 in
theorem docWord (h : DR L S Y w lab vo vp vb bv) (ht : t < L.n) (d : Nat) (hd : 16 * d < L.n) :
    Calls Tryz.prog 85 #[.pointer (some ⟨L.b, 0, none⟩), .pointer (some ⟨L.bT t, 0, none⟩), .int .i64 (d : Int)] w fun e w' => e = .returned (.tuple #[]) ∧ TLeft L S (Y.set t { Y.th t with flipped := fun k => if k / 16 = d ∧ k < L.n then (Y.th k).flips else (Y.th t).flipped k }) lab vo vp vb bv w w' := by
  have hn := h.n64
  have HH := hide h
  clear h
  go_enter Tryz.func85, Tryz.ntmps85
  go_wp2
  go_loopw [6] (fun i w' => ∃ k : Nat, 16 * d ≤ k ∧ k ≤ 16 * d + 16 ∧ k ≤ L.n ∧ i = .int .i64 (k : Int) ∧ TLeft L S (Y.set t { Y.th t with flipped := readTo Y (Y.th t).flipped (16 * d) k }) lab vo vp vb bv w w') (fun i _ => L.n - (intOf i).toNat)
  case atStart =>
    refine ⟨16 * d, Nat.le_refl _, by omega, by omega, by first | rfl | (push_cast; rfl), ?_⟩
    have e : readTo Y (Y.th t).flipped (16 * d) (16 * d) = (Y.th t).flipped := by funext j; unfold readTo; rw [if_neg (by omega)]
    have e2 : Y.set t { Y.th t with flipped := readTo Y (Y.th t).flipped (16 * d) (16 * d) } = Y := by rw [e]; unfold M.RSt.set; rw [upd_id _ _ _ rfl]
    rw [e2]
    exact TLeft.refl HH.out 0
  case round =>
    obtain ⟨k, k1, k2, k3, rfl, hT⟩ := hrel
    have q := hT.dr
    have c7 : wr.cell? ⟨L.b, 7, none⟩ = some (.slice (some ⟨L.g, 0, none⟩) L.n L.gc) := q.ocell rfl
    by_cases hlt : k < 16 * d + 16 ∧ k < L.n
    · have hl1 : (k : Int) < 16 * (d : Int) + 16 := by omega
      have hl2 : (k : Int) < (L.n : Int) := by omega
      have hl3 : (0 : Int) ≤ (k : Int) := by omega
      have c8 : wr.cell? ⟨L.bT t, 8, none⟩ = some (.slice (some ⟨L.bF t, 0, none⟩) L.n L.n) := q.tcell ht (j := 8) rfl
      have cp := q.ptr k hlt.2
      have cf : wr.cell? ⟨L.bT k, 2, none⟩ = some (.int .i64 ((Y.th k).flips : Int)) := by
        have := q.tcell hlt.2 (j := 2) rfl
        by_cases e : k = t
        · subst e; rw [set_th] at this; exact this
        · rw [show (Y.set t { Y.th t with flipped := readTo Y (Y.th t).flipped (16 * d) k }).th k = Y.th k from upd_other _ _ e] at this; exact this
      have cF := (q.fl t ht).cell hlt.2
      have fF := (q.fl t ht).frozen k
      have HN := hide (show TLeft L S (Y.set t { Y.th t with flipped := readTo Y (Y.th t).flipped (16 * d) (k + 1) }) lab vo vp vb bv w ((wr.setCell ⟨L.bF t, k, none⟩ (.int .i64 ((Y.th k).flips : Int))).drew) from by
        refine hT.next (TLeft.drew ?_)
        refine (q.putF ht k (Y.th k).flips).cast ?_
        rw [set_set, set_th, ← readTo_succ Y _ (16 * d) k k1])
      clear q hT
      go_wp2
      go_region
      go_wp2
      go_roundw
      case rel => exact ⟨k + 1, by omega, by omega, by omega, by go_num, HN.out⟩
      case measure => simp [intOf]; omega
    · have HN := hide hT
      clear q hT
      have he : readTo Y (Y.th t).flipped (16 * d) k = fun j => if j / 16 = d ∧ j < L.n then (Y.th j).flips else (Y.th t).flipped j := by
        funext j
        unfold readTo
        have : (16 * d ≤ j ∧ j < k) ↔ (j / 16 = d ∧ j < L.n) := by omega
        simp only [this]
      rw [he] at HN
      by_cases hl1 : k < 16 * d + 16
      · have h1 : (k : Int) < 16 * (d : Int) + 16 := by omega
        have h2 : ¬ (k : Int) < (L.n : Int) := by omega
        go_wp2
        exact bodyPost_end (v := .tuple #[]) (by simp [results, Tryz.results85, go_sem]) rfl ⟨rfl, HN.out⟩
      · have h1 : ¬ (k : Int) < 16 * (d : Int) + 16 := by omega
        go_wp2
        exact bodyPost_end (v := .tuple #[]) (by simp [results, Tryz.results85, go_sem]) rfl ⟨rfl, HN.out⟩
end
end Go.Proofs.YtefjhnhdagolhaaGreat
namespace Go.Proofs.YtefjhnhdagolhaaGreat
open Go.RowKit
open M (upd upd_same upd_other RSt RTh cnt)
attribute [local go_sem ↓] Go.wp_at_zero Go.wp_at_succ
theorem owns_at {w : World} {base : Nat} {e : TypeId} {v : Value} {n : Nat} {xs : List Value} (h : w.ownsRow base e 1 v n xs) {i : Nat} {u : Value} (hi : xs[i]? = some u) : ∃ g c, v = .slice (some ⟨g, 0, none⟩) n c ∧ w.cell? ⟨g, i, none⟩ = some u := by
  have hl : i < xs.length := by
    rcases Nat.lt_or_ge i xs.length with q | q
    · exact q
    · rw [List.getElem?_eq_none q] at hi; cases hi
  rcases h.2 with ⟨-, e⟩ | ⟨g, cap, cur, rfl, h3, h4, h5⟩
  · have := h.1; omega
  · refine ⟨g, cap, rfl, ?_⟩
    have := h.cells (g := g) rfl i u hi
    rwa [addr_add, Nat.zero_add] at this
theorem owns_form {w : World} {base : Nat} {e : TypeId} {size : Nat} {v : Value} {n : Nat} {xs : List Value} (h : w.ownsRow base e size v n xs) : (∃ a c, v = .slice a n c) ∧ n ≤ maxLen := by
  rcases h.2 with ⟨rfl, rfl⟩ | ⟨g, cap, cur, rfl, h3, h4, h5, h6, -⟩
  · exact ⟨⟨none, 0, rfl⟩, Nat.zero_le _⟩
  · exact ⟨⟨_, _, rfl⟩, Nat.le_trans h5 h6⟩
theorem Lst.at {w : World} {v : Value} {l : List Nat} (h : Lst w v l) {i : Nat} (hi : i < l.length) : ∃ g c, v = .slice (some ⟨g, 0, none⟩) l.length c ∧ w.cell? ⟨g, i, none⟩ = some (.int .i64 (l[i] : Int)) :=
  owns_at h (by rw [getElem?_ints, List.getElem?_map, List.getElem?_eq_getElem hi]; rfl)
theorem cnt_succ (bs : List (List Nat)) (i : Nat) (hi : i < bs.length) (k : Nat) : cnt (bs.take (i + 1)) k = cnt (bs.take i) k + (bs[i]).count k := by
  rw [List.take_succ_eq_append_getElem hi, M.cnt_append]
theorem count_succ (l : List Nat) (j : Nat) (hj : j < l.length) (k : Nat) : (l.take (j + 1)).count k = (l.take j).count k + if l[j] = k then 1 else 0 := by
  rw [List.take_succ_eq_append_getElem hj, List.count_append]
  congr 1
  by_cases e : l[j] = k <;> simp [e]
theorem count_take_le (l : List Nat) (j k : Nat) : (l.take j).count k ≤ l.count k := List.Sublist.count_le _ (List.take_sublist j l)
theorem cnt_in (bs : List (List Nat)) (i : Nat) (hi : i < bs.length) (j k : Nat) : cnt (bs.take i) k + ((bs[i]).take j).count k ≤ cnt bs k := by
  have h1 := cnt_succ bs i hi k
  have h2 := M.cnt_take_le bs (i + 1) k
  have h3 := count_take_le (bs[i]) j k
  omega
section
variable {L : DL} {S : Nat → Prop} {Y : RSt} {w : World} {lab : Nat → Nat} {vo vp : Nat → Value} {vb : Value} {bv : Nat → Value} {t : Nat}
theorem DR.bat_at (h : DR L S Y w lab vo vp vb bv) {i : Nat} (hi : i < Y.bs.length) : ∃ g c, vb = .slice (some ⟨g, 0, none⟩) Y.bs.length c ∧ w.cell? ⟨g, i, none⟩ = some (bv i) :=
  owns_at h.bat (by simp [List.getElem?_range hi])
set_option maxRecDepth 20000 in
set_option maxHeartbeats 4000000 in
theorem docApplied (h : DR L S Y w lab vo vp vb bv) (k : Nat) (hc : cnt Y.bs k ≤ 1000000000) :
    Calls Tryz.prog 141 #[.pointer (some ⟨L.b, 0, none⟩), .int .i64 (k : Int)] w fun e w' => e = .returned (.int .i64 (cnt Y.bs k : Int)) ∧ w' = w := by
  obtain ⟨⟨a, c, rfl⟩, hm⟩ := owns_form h.bat
  have c8 : w.cell? ⟨L.b, 8, none⟩ = some (.slice a Y.bs.length c) := h.ocell rfl
  have hmx : maxLen = 9223372036854775807 := rfl
  have HH := hide h
  clear h
  go_enter Tryz.func141, Tryz.ntmps141
  go_wp2
  go_loop [5, 6] (fun m i => ∃ q : Nat, q ≤ Y.bs.length ∧ i = .int .i64 (q : Int) ∧ m = .int .i64 (cnt (Y.bs.take q) k : Int)) (fun _ i => Y.bs.length - (intOf i).toNat)
  case atStart => exact ⟨0, Nat.zero_le _, rfl, by simp [cnt]⟩
  case round =>
    obtain ⟨q, hq, rfl, rfl⟩ := hrel
    by_cases hlt : q < Y.bs.length
    · have hlt' : (q : Int) < (Y.bs.length : Int) := by omega
      have hq0 : (0 : Int) ≤ (q : Int) := by omega
      obtain ⟨g, c', e1, cq⟩ := HH.out.bat_at hlt
      injection e1 with e1 _ e2
      subst e1 e2
      obtain ⟨a2, c2, e3⟩ := (HH.out.bts q hlt).form
      rw [e3] at cq
      have hm2 : (Y.bs[q]).length ≤ maxLen := (owns_form (HH.out.bts q hlt)).2
      have HS := hide (cnt_succ Y.bs q hlt k)
      have HI := hide (fun j => cnt_in Y.bs q hlt j k)
      go_wp2
      go_loop [5, 7] (fun m j => ∃ r : Nat, r ≤ (Y.bs[q]).length ∧ j = .int .i64 (r : Int) ∧ m = .int .i64 ((cnt (Y.bs.take q) k + ((Y.bs[q]).take r).count k : Nat) : Int)) (fun _ j => (Y.bs[q]).length - (intOf j).toNat)
      case atStart => exact ⟨0, Nat.zero_le _, rfl, by simp⟩
      case round =>
        obtain ⟨r, hr, rfl, rfl⟩ := hrel
        by_cases hrt : r < (Y.bs[q]).length
        · have hrt' : (r : Int) < ((Y.bs[q]).length : Int) := by omega
          have hr0 : (0 : Int) ≤ (r : Int) := by omega
          obtain ⟨g2, c3, e4, cr⟩ := (HH.out.bts q hlt).at hrt
          rw [e3] at e4
          injection e4 with e4 _ e5
          subst e4 e5
          have hs := count_succ (Y.bs[q]) r hrt k
          have hi := HI.out r
          have hi2 := HI.out (r + 1)
          by_cases hk : (Y.bs[q])[r] = k
          · have hk' : (((Y.bs[q])[r] : Nat) : Int) = (k : Int) := by rw [hk]
            rw [if_pos hk] at hs
            have HV := hide (show (cnt (Y.bs.take q) k + ((Y.bs[q]).take (r + 1)).count k : Nat) = cnt (Y.bs.take q) k + ((Y.bs[q]).take r).count k + 1 by omega)
            have hb : cnt (Y.bs.take q) k + ((Y.bs[q]).take r).count k ≤ 1000000000 := by omega
            rw [hk'] at cr
            clear hs hi hi2
            generalize cnt (Y.bs.take q) k + ((Y.bs[q]).take r).count k = A at *
            go_wp2
            go_round
            case rel => exact ⟨r + 1, by omega, by go_num, by rw [HV.out]; go_num⟩
            case measure => simp [intOf]; omega
          · have hk' : ¬ (((Y.bs[q])[r] : Nat) : Int) = (k : Int) := by omega
            rw [if_neg hk] at hs
            have HV := hide (show (cnt (Y.bs.take q) k + ((Y.bs[q]).take (r + 1)).count k : Nat) = cnt (Y.bs.take q) k + ((Y.bs[q]).take r).count k by omega)
            clear hs hi hi2
            generalize cnt (Y.bs.take q) k + ((Y.bs[q]).take r).count k = A at *
            go_wp2
            go_round
            case rel => exact ⟨r + 1, by omega, by go_num, by rw [HV.out]⟩
            case measure => simp [intOf]; omega
        · have hrt' : ¬ (r : Int) < ((Y.bs[q]).length : Int) := by omega
          have HV := hide (show (cnt (Y.bs.take q) k + ((Y.bs[q]).take r).count k : Nat) = cnt (Y.bs.take (q + 1)) k by rw [HS.out, List.take_of_length_le (show (Y.bs[q]).length ≤ r by omega)])
          generalize cnt (Y.bs.take q) k + ((Y.bs[q]).take r).count k = A at *
          go_wp2
          go_round
          case rel => exact ⟨q + 1, by omega, by go_num, by rw [HV.out]⟩
          case measure => simp [intOf]; omega
    · have hlt' : ¬ (q : Int) < (Y.bs.length : Int) := by omega
      have HV := hide (show cnt (Y.bs.take q) k = cnt Y.bs k by rw [List.take_of_length_le (by omega)])
      generalize cnt (Y.bs.take q) k = A at *
      go_wp2
      go_ret
      exact ⟨by rw [HV.out]; rfl, rfl⟩
end
end Go.Proofs.YtefjhnhdagolhaaGreat
namespace Go.Proofs.YtefjhnhdagolhaaGreat
open Go.RowKit
open M (upd upd_same upd_other RSt RTh cnt)
attribute [local go_sem ↓] Go.wp_at_zero Go.wp_at_succ
section
variable {L : DL} {S : Nat → Prop} {Y : RSt} {w : World} {lab : Nat → Nat} {vo vp : Nat → Value} {vb : Value} {bv : Nat → Value} {t : Nat}
def pendTo (Y : RSt) (x : RTh) (k : Nat) : List Nat := (List.range k).filter fun i => decide ((x.flipped i + cnt Y.bs i) % 2 = 1)
theorem pendTo_succ (Y : RSt) (x : RTh) (k : Nat) : pendTo Y x (k + 1) = pendTo Y x k ++ if (x.flipped k + cnt Y.bs k) % 2 = 1 then [k] else [] := by
  unfold pendTo
  rw [List.range_succ, List.filter_append]
  congr 1
  by_cases h : (x.flipped k + cnt Y.bs k) % 2 = 1 <;> simp [h]
theorem pendTo_len (Y : RSt) (x : RTh) (k : Nat) : (pendTo Y x k).length ≤ k := by
  unfold pendTo
  exact Nat.le_trans (List.length_filter_le _ _) (by simp)
theorem pendTo_lt (Y : RSt) (x : RTh) (k : Nat) : ∀ i ∈ pendTo Y x k, i < k := by
  intro i hi
  unfold pendTo at hi
  exact List.mem_range.1 (List.mem_filter.1 hi).1
structure CkI (L : DL) (t : Nat) (x : RTh) (vo : Nat → Value) (w w' : World) (l : List Nat) (v : Value) : Prop where
  row : Row w' (L.bT t) 109 (dth x (L.bF t) L.n (vo t) v)
  own : w'.ownsRow w.heap.size 3 1 v l.length (ints (l.map Int.ofNat))
  fr : Fr (fun k => k = L.bT t) w w'
def lab3 (lab : Nat → Nat) (w : World) (c : Nat) : Nat → Nat := fun k => if w.heap.size ≤ k then c else lab k
theorem lab3_old {c : Nat} {k : Nat} (h : k < w.heap.size) : lab3 lab w c k = lab k := by unfold lab3; rw [if_neg (by omega)]
theorem lab3_new {c : Nat} {k : Nat} (h : w.heap.size ≤ k) : lab3 lab w c k = c := by unfold lab3; rw [if_pos h]
theorem CkI.dr {x' : RTh} {w' : World} {l : List Nat} {v : Value} (q : CkI L t x' vo w w' l v) (h : DR L S Y w lab vo vp vb bv) (ht : t < L.n) (h1 : x'.ops = (Y.th t).ops) (h2 : x'.flipped = (Y.th t).flipped) : DR L (Grow S w w') (Y.set t { x' with pend := l }) w' (lab3 lab w 3) vo (upd vp t v) vb bv := by
  have hq := h.thL t ht
  have hne : ∀ k, S k → lab k ≠ 4 * t + 4 → w'.heap[k]? = w.heap[k]? := fun k hS hl => q.fr.block k (h.lt k hS) fun e => hl (by rw [show k = L.bT t from e, hq.2])
  have hS : ∀ k, S k → Grow S w w' k ∧ lab3 lab w 3 k = lab k := fun k hS => ⟨.inl hS, lab3_old (h.lt k hS)⟩
  have hlt := q.own.lt
  have := DR.move (w' := w') (S' := Grow S w w') (lab' := lab3 lab w 3) (bv' := bv) (bs' := Y.bs) (x' := { x' with pend := l }) (vo' := vo t) (vp' := v) h ht (fun k hS _ _ h4 _ _ => hne k hS h4) hS
    (fun k hk => by
      rcases hk with hk | hk
      · exact Nat.lt_of_lt_of_le (h.lt k hk) q.fr.size
      · exact hk.2) (h.obj.of_block (hne _ h.obL.1 (by rw [h.obL.2]; omega))) q.row
    (by rw [show ({ x' with pend := l } : RTh).flipped = (Y.th t).flipped from h2]; exact (h.fl t ht).of_block (hne _ (h.flL t ht).1 (by rw [(h.flL t ht).2]; omega)))
    (by rw [show ({ x' with pend := l } : RTh).ops = (Y.th t).ops from h1]; exact owns_block (h.ops t ht) fun k e => hne k (h.opL t ht k e).1 (by rw [(h.opL t ht k e).2]; omega)) (fun k e => ⟨(hS k (h.opL t ht k e).1).1, (hS k (h.opL t ht k e).1).2.trans (h.opL t ht k e).2⟩)
    (owns_block h.bat fun k e => hne k (h.baL k e).1 (by rw [(h.baL k e).2]; omega)) (fun k e => ⟨(hS k (h.baL k e).1).1, (hS k (h.baL k e).1).2.trans (h.baL k e).2⟩)
    (fun i hi => (h.bts i hi).of_block fun k e => hne k (h.btL i hi k e).1 (by rw [(h.btL i hi k e).2]; omega)) (fun i hi k e => ⟨(hS k (h.btL i hi k e).1).1, (hS k (h.btL i hi k e).1).2.trans (h.btL i hi k e).2⟩)
    (owns_base q.own (Nat.zero_le _)) (fun k e => ⟨.inr (hlt k e), lab3_new (hlt k e).1⟩)
  rw [upd_id vo t _ rfl] at this
  exact this
theorem odd_tmod (a b : Nat) : (((a : Int) - (b : Int)).tmod 2 = 0) ↔ ¬ (a + b) % 2 = 1 := by
  rw [Int.tmod_eq_emod]
  split <;> omega
set_option maxRecDepth 20000 in
set_option maxHeartbeats 4000000 in
theorem docCheck (h : DR L S Y w lab vo vp vb bv) (ht : t < L.n) (hc : ∀ k, k < L.n → cnt Y.bs k ≤ 1000000000 ∧ (Y.th t).flipped k ≤ 1000000000) :
    Calls Tryz.prog 111 #[.pointer (some ⟨L.b, 0, none⟩), .int .i64 (t : Int)] w fun e w' => e = .returned (.bool (decide (t ∈ Y.pending L.n (Y.th t)))) ∧ ∃ v, CkI L t (Y.th t) vo w w' (Y.pending L.n (Y.th t)) v := by
  obtain ⟨mi, hmi, hmz⟩ := Option.map_eq_some_iff.1 info_i3
  simp only [Prod.mk.injEq] at hmz
  obtain ⟨hmz1, hmz2, hmz3⟩ := hmz
  have HMI := hide hmi
  have HM1 := hide hmz1
  have HM2 := hide hmz2
  have HM3 := hide hmz3
  have hn := h.n64
  have c7 : w.cell? ⟨L.b, 7, none⟩ = some (.slice (some ⟨L.g, 0, none⟩) L.n L.gc) := h.ocell rfl
  have cp := h.ptr t ht
  have ht0 : (0 : Int) ≤ (t : Int) := by omega
  have ht1 : (t : Int) < (L.n : Int) := by omega
  have c9 : w.cell? ⟨L.bT t, 9, none⟩ = some (vp t) := h.tcell ht rfl
  have f9 := (h.th t ht).frozen 9
  have hne := h.ne ht
  have HT := hide (h.th t ht)
  have HH := hide h
  clear h hmi hmz1 hmz2 hmz3
  go_enter Tryz.func111, Tryz.ntmps111
  go_wp2
  go_loopw [6, 7] (fun o i w' => ∃ k : Nat, k ≤ L.n ∧ i = .int .i64 (k : Int) ∧ o = .bool (decide (t ∈ pendTo Y (Y.th t) k)) ∧ ∃ v, CkI L t (Y.th t) vo w w' (pendTo Y (Y.th t) k) v) (fun _ i _ => L.n - (intOf i).toNat)
  case atStart =>
    refine ⟨0, Nat.zero_le _, rfl, rfl, .slice none 0 0, ?_, World.ownsRow_nil _ _ _ _, Fr.set (own := fun k => k = L.bT t) w (a := ⟨L.bT t, 9, none⟩) rfl _⟩
    exact HT.out.set 9 _
  case round =>
    obtain ⟨k, hk, rfl, rfl, v, hI⟩ := hrel
    have q := hI.dr HH.out ht rfl rfl
    have d7 : wr.cell? ⟨L.b, 7, none⟩ = some (.slice (some ⟨L.g, 0, none⟩) L.n L.gc) := q.ocell rfl
    by_cases hlt : k < L.n
    · have hlt' : (k : Int) < (L.n : Int) := by omega
      have hk0 : (0 : Int) ≤ (k : Int) := by omega
      obtain ⟨b1, b2⟩ := hc k hlt
      have HA := hide (show Calls Tryz.prog 141 #[.pointer (some ⟨L.b, 0, none⟩), .int .i64 (k : Int)] wr fun e w' => e = .returned (.int .i64 (cnt Y.bs k : Int)) ∧ w' = wr from docApplied q k b1)
      have d8 : wr.cell? ⟨L.bT t, 8, none⟩ = some (.slice (some ⟨L.bF t, 0, none⟩) L.n L.n) := q.tcell ht (j := 8) rfl
      have d9 : wr.cell? ⟨L.bT t, 9, none⟩ = some v := hI.row.cell_of rfl
      have dF : wr.cell? ⟨L.bF t, k, none⟩ = some (.int .i64 ((Y.th t).flipped k : Int)) := by have := (q.fl t ht).cell hlt; rw [set_th] at this; exact this
      have HP := hide (odd_tmod ((Y.th t).flipped k) (cnt Y.bs k))
      have HS := hide (pendTo_succ Y (Y.th t) k)
      have HN := hide (pendTo_len Y (Y.th t) k)
      have HLT := hide (fun i hi => pendTo_lt Y (Y.th t) k i hi)
      have HI := hide hI
      have htl : L.bT t < w.heap.size := HT.out.lt
      have hzw : w.heap.size ≤ wr.heap.size := hI.fr.size
      clear q hI
      generalize hfl : (Y.th t).flipped k = fk at *
      generalize hcn : cnt Y.bs k = cn at *
      by_cases hodd : (fk + cn) % 2 = 1
      · have hm : ¬ ((fk : Int) - (cn : Int)).tmod 2 = 0 := fun c => (HP.out.mp c) hodd
        have HS1 := hide (show pendTo Y (Y.th t) (k + 1) = pendTo Y (Y.th t) k ++ [k] by rw [HS.out, if_pos hodd])
        clear hodd
        go_wp2_with fail
        refine HA.out.mono ?_
        rintro e w1 ⟨rfl, rfl⟩
        have HL := hide HLT
        clear HA HP HS
        go_wp2_with (at_builtin; refine wpList_append_keep _ rfl (.tmp 46) (.tmp 48) 22 rfl w.heap.size 3 mi (.int .i64 0) 1 8 Tryz.underlying22 HMI.out HM1.out HM2.out HM3.out rfl (by decide) v (pendTo Y (Y.th t) k).length _ rfl (HI.out.own.alloc _) ⟨w1.heap.size, 0, none⟩ 1 1 [.int .i64 (k : Int)] rfl rfl (World.news_of_block (Row.new _ _ _)) (by simp [Value.oneCell']) (by decide) (by have := HN.out; unfold maxLen; omega) (by have := HN.out; omega) (by simp; omega) ?_)
        intro g3 c3 w3 hown hgr hl3 hk3
        have hvl := HI.out.own.lt
        have hneB : some (L.bT t) ≠ v.ownBlock := fun e => by have := (hvl _ e.symm).1; omega
        have hR : Row w3 (L.bT t) 109 (dth (Y.th t) (L.bF t) L.n (vo t) v) := (HI.out.row.alloc _).of_block (hgr.block _ (by simp; omega) hneB)
        have e9 : w3.cell? ⟨L.bT t, 9, none⟩ = some v := hR.cell_of rfl
        have g9 := hR.frozen 9
        have HX := hide (show CkI L t (Y.th t) vo w (w3.setCell ⟨L.bT t, 9, none⟩ (.slice (some ⟨g3, 0, none⟩) ((pendTo Y (Y.th t) k).length + 1) c3)) (pendTo Y (Y.th t) (k + 1)) (.slice (some ⟨g3, 0, none⟩) ((pendTo Y (Y.th t) k).length + 1) c3) from by
          refine ⟨hR.set 9 _, ?_, ?_⟩
          · rw [HS1.out]
            have h9 : w.heap.size ≤ g3 := (hown.lt g3 rfl).1
            have := ownsRow_setCell_other hown (a := ⟨L.bT t, 9, none⟩) (by simp [Value.ownBlock]; omega) (.slice (some ⟨g3, 0, none⟩) ((pendTo Y (Y.th t) k).length + 1) c3)
            simpa [ints] using this
          · refine Fr.here (own := fun k => k = L.bT t) ?_ rfl _ _
            refine ⟨hgr.os.trans HI.out.fr.os, hgr.tape.trans HI.out.fr.tape, hgr.output.trans HI.out.fr.output, Nat.le_trans HI.out.fr.size (Nat.le_trans (by simp) hgr.size), fun b hb ho => ?_⟩
            rw [hgr.block b (by simp; omega) (fun e => by have := (hvl _ e.symm).1; omega), (below_alloc w1 _).block b (by omega)]
            exact HI.out.fr.block b hb ho)
        clear hown hgr hl3 hk3 hvl hneB hR
        by_cases hmem : t ∈ pendTo Y (Y.th t) k
        · have hmem2 : t ∈ pendTo Y (Y.th t) (k + 1) := by rw [HS1.out]; exact List.mem_append_left _ hmem
          have hd2 : decide (t ∈ pendTo Y (Y.th t) (k + 1)) = true := decide_eq_true hmem2
          rw [show decide (t ∈ pendTo Y (Y.th t) k) = true from decide_eq_true hmem]
          go_wp2
          go_roundw
          case rel => exact ⟨k + 1, by omega, by go_num, by rw [hd2], _, HX.out⟩
          case measure => simp [intOf]; omega
        · rw [show decide (t ∈ pendTo Y (Y.th t) k) = false from decide_eq_false hmem]
          by_cases hkt : k = t
          · have hkt' : ((k : Int) == (t : Int)) = true := by simp [hkt]
            have hmem2 : t ∈ pendTo Y (Y.th t) (k + 1) := by rw [HS1.out, hkt]; exact List.mem_append_right _ (List.mem_singleton.2 rfl)
            have hd2 : decide (t ∈ pendTo Y (Y.th t) (k + 1)) = true := decide_eq_true hmem2
            clear hkt
            go_wp2
            go_roundw
            case rel => exact ⟨k + 1, by omega, by go_num, by rw [hd2]; try rw [hkt'], _, HX.out⟩
            case measure => simp [intOf]; omega
          · have hkt' : ((k : Int) == (t : Int)) = false := by simp; omega
            have hmem2 : ¬ t ∈ pendTo Y (Y.th t) (k + 1) := by rw [HS1.out]; intro c; rcases List.mem_append.1 c with c | c; exact hmem c; exact hkt (List.mem_singleton.1 c).symm
            have hd2 : decide (t ∈ pendTo Y (Y.th t) (k + 1)) = false := decide_eq_false hmem2
            clear hkt
            go_wp2
            go_roundw
            case rel => exact ⟨k + 1, by omega, by go_num, by rw [hd2]; try rw [hkt'], _, HX.out⟩
            case measure => simp [intOf]; omega
      · have hm : ((fk : Int) - (cn : Int)).tmod 2 = 0 := HP.out.mpr hodd
        have HS1 := hide (show pendTo Y (Y.th t) (k + 1) = pendTo Y (Y.th t) k by rw [HS.out, if_neg hodd, List.append_nil])
        clear hodd
        go_wp2_with fail
        refine HA.out.mono ?_
        rintro e w1 ⟨rfl, rfl⟩
        clear HA HP HS
        go_wp2
        go_roundw
        case rel => exact ⟨k + 1, by omega, by go_num, by rw [HS1.out], v, by rw [HS1.out]; exact HI.out⟩
        case measure => simp [intOf]; omega
    · have hlt' : ¬ (k : Int) < (L.n : Int) := by omega
      have hkn : k = L.n := by omega
      have HX := hide (show CkI L t (Y.th t) vo w wr (Y.pending L.n (Y.th t)) v by rw [hkn] at hI; exact hI)
      have HD := hide (show decide (t ∈ pendTo Y (Y.th t) k) = decide (t ∈ Y.pending L.n (Y.th t)) by rw [hkn]; rfl)
      rw [HD.out]
      clear q hI hkn
      go_wp2
      go_ret
      exact ⟨rfl, v, HX.out⟩
end
end Go.Proofs.YtefjhnhdagolhaaGreat
namespace Go.Proofs.YtefjhnhdagolhaaGreat
open Go.RowKit
open M (upd upd_same upd_other RSt RTh cnt)
attribute [local go_sem ↓] Go.wp_at_zero Go.wp_at_succ
theorem TLeft.left {L : DL} {S : Nat → Prop} {Y' : RSt} {w w' : World} {lab : Nat → Nat} {vo vp : Nat → Value} {vb : Value} {bv : Nat → Value} (h : TLeft L S Y' lab vo vp vb bv w w') : DLeft L S w Y' w' := DLeft.of ⟨lab, vo, vp, vb, bv, h.dr⟩ h.fr
section
variable {L : DL} {S : Nat → Prop} {Y : RSt} {w : World} {lab : Nat → Nat} {vo vp : Nat → Value} {vb : Value} {bv : Nat → Value} {t : Nat}
set_option maxRecDepth 20000 in
set_option maxHeartbeats 2000000 in
theorem docOver_2 (h : DR L S Y w lab vo vp vb bv) (ht : t < L.n) (hp : (Y.th t).part = 2) (hf : (Y.th t).flips ≤ 1000000000) :
    Calls Tryz.prog 87 #[.pointer (some ⟨L.b, 0, none⟩), .int .i64 (t : Int)] w fun e w' => e = .returned (.int .i64 1) ∧ DLeft L S w (Y.set t (RTh.enter L.n { Y.th t with flips := (Y.th t).flips + 1, tries := 1 } 3)) w' := by
  obtain ⟨⟨a, c, rfl⟩, hm⟩ := owns_form h.bat
  have hmx : maxLen = 9223372036854775807 := rfl
  have c7 : w.cell? ⟨L.b, 7, none⟩ = some (.slice (some ⟨L.g, 0, none⟩) L.n L.gc) := h.ocell rfl
  have c8 : w.cell? ⟨L.b, 8, none⟩ = some (.slice a Y.bs.length c) := h.ocell rfl
  have cp := h.ptr t ht
  have ht0 : (0 : Int) ≤ (t : Int) := by omega
  have ht1 : (t : Int) < (L.n : Int) := by omega
  have t3 : w.cell? ⟨L.bT t, 3, none⟩ = some (.int .i64 ((Y.th t).part : Int)) := h.tcell ht rfl
  have t7 : w.cell? ⟨L.bT t, 7, none⟩ = some (.int .i64 ((Y.th t).stamp : Int)) := h.tcell ht rfl
  rw [hp] at t3
  have t2 : w.cell? ⟨L.bT t, 2, none⟩ = some (.int .i64 ((Y.th t).flips : Int)) := h.tcell ht rfl
  have t6 : w.cell? ⟨L.bT t, 6, none⟩ = some (.int .i64 ((Y.th t).tries : Int)) := h.tcell ht rfl
  have f2 := (h.th t ht).frozen 2
  have f6 := (h.th t ht).frozen 6
  have HP := hide (fun k => (show TLeft L S (Y.set t { Y.th t with flips := (Y.th t).flips + 1, tries := 1 }) lab vo vp _ bv w (((w.drewN k).setCell ⟨L.bT t, 2, none⟩ (.int .i64 (((Y.th t).flips + 1 : Nat) : Int))).setCell ⟨L.bT t, 6, none⟩ (.int .i64 ((1 : Nat) : Int))) from by
    have q1 := (h.drewN k).put ht 2 (.int .i64 (((Y.th t).flips + 1 : Nat) : Int)) (x' := { Y.th t with flips := (Y.th t).flips + 1 }) rfl rfl rfl rfl
    have q2 := q1.dr.put ht 6 (.int .i64 ((1 : Nat) : Int)) (x' := { Y.th t with flips := (Y.th t).flips + 1, tries := 1 }) (by rw [set_th]; rfl) (by rw [set_th]) (by rw [set_th]) (by rw [set_th])
    exact (TLeft.refl h k).next (q1.next (q2.cast (set_set _ _ _ _)))))
  have HW := hide (show (((Y.th t).flips + 1 : Nat) : Int) = ((Y.th t).flips : Int) + 1 by push_cast; rfl)
  rw [HW.out] at HP
  clear h
  go_enter Tryz.func87, Tryz.ntmps87
  go_upto_region 2 with fail
  go_quiet (fail)
  go_wp2_with fail
  have hq := HP.out nq
  refine (docEnter hq.dr ht 3 (by decide) (by decide) (fun h => absurd h (by decide))).mono ?_
  rintro e w3 ⟨rfl, h3⟩
  have H4 := hide (hq.next (h3.cast (by rw [set_th, set_set])))
  clear h3 hq
  go_wp2_with fail
  go_ret
  exact ⟨rfl, H4.out.left⟩
set_option maxRecDepth 20000 in
set_option maxHeartbeats 2000000 in
theorem docOver_4 (h : DR L S Y w lab vo vp vb bv) (ht : t < L.n) (hp : (Y.th t).part = 4) :
    Calls Tryz.prog 87 #[.pointer (some ⟨L.b, 0, none⟩), .int .i64 (t : Int)] w fun e w' => e = .returned (.int .i64 1) ∧ DLeft L S w (Y.set t (RTh.enter L.n { Y.th t with stamp := Y.bs.length } 5)) w' := by
  obtain ⟨⟨a, c, rfl⟩, hm⟩ := owns_form h.bat
  have hmx : maxLen = 9223372036854775807 := rfl
  have c7 : w.cell? ⟨L.b, 7, none⟩ = some (.slice (some ⟨L.g, 0, none⟩) L.n L.gc) := h.ocell rfl
  have c8 : w.cell? ⟨L.b, 8, none⟩ = some (.slice a Y.bs.length c) := h.ocell rfl
  have cp := h.ptr t ht
  have ht0 : (0 : Int) ≤ (t : Int) := by omega
  have ht1 : (t : Int) < (L.n : Int) := by omega
  have t3 : w.cell? ⟨L.bT t, 3, none⟩ = some (.int .i64 ((Y.th t).part : Int)) := h.tcell ht rfl
  have t7 : w.cell? ⟨L.bT t, 7, none⟩ = some (.int .i64 ((Y.th t).stamp : Int)) := h.tcell ht rfl
  rw [hp] at t3
  have f7 := (h.th t ht).frozen 7
  have HP := hide (fun k => (show TLeft L S (Y.set t { Y.th t with stamp := Y.bs.length }) lab vo vp _ bv w ((w.drewN k).setCell ⟨L.bT t, 7, none⟩ (.int .i64 (Y.bs.length : Int))) from
    (TLeft.refl h k).next ((h.drewN k).put ht 7 (.int .i64 (Y.bs.length : Int)) (x' := { Y.th t with stamp := Y.bs.length }) rfl rfl rfl rfl)))
  clear h
  go_enter Tryz.func87, Tryz.ntmps87
  go_upto_region 2 with fail
  go_quiet (fail)
  go_wp2_with fail
  have hq := HP.out nq
  refine (docEnter hq.dr ht 5 (by decide) (by decide) (fun h => absurd h (by decide))).mono ?_
  rintro e w3 ⟨rfl, h3⟩
  have H4 := hide (hq.next (h3.cast (by rw [set_th, set_set])))
  clear h3 hq
  go_wp2_with fail
  go_ret
  exact ⟨rfl, H4.out.left⟩
set_option maxRecDepth 20000 in
set_option maxHeartbeats 2000000 in
theorem docOver_11 (h : DR L S Y w lab vo vp vb bv) (ht : t < L.n) (hp : (Y.th t).part = 11) (hf : (Y.th t).ended ≤ 1000000000) :
    Calls Tryz.prog 87 #[.pointer (some ⟨L.b, 0, none⟩), .int .i64 (t : Int)] w fun e w' => e = .returned (.int .i64 2) ∧ DLeft L S w (Y.set t { Y.th t with part := 0, ended := (Y.th t).ended + 1 }) w' := by
  obtain ⟨⟨a, c, rfl⟩, hm⟩ := owns_form h.bat
  have hmx : maxLen = 9223372036854775807 := rfl
  have c7 : w.cell? ⟨L.b, 7, none⟩ = some (.slice (some ⟨L.g, 0, none⟩) L.n L.gc) := h.ocell rfl
  have c8 : w.cell? ⟨L.b, 8, none⟩ = some (.slice a Y.bs.length c) := h.ocell rfl
  have cp := h.ptr t ht
  have ht0 : (0 : Int) ≤ (t : Int) := by omega
  have ht1 : (t : Int) < (L.n : Int) := by omega
  have t3 : w.cell? ⟨L.bT t, 3, none⟩ = some (.int .i64 ((Y.th t).part : Int)) := h.tcell ht rfl
  have t7 : w.cell? ⟨L.bT t, 7, none⟩ = some (.int .i64 ((Y.th t).stamp : Int)) := h.tcell ht rfl
  rw [hp] at t3
  have t1 : w.cell? ⟨L.bT t, 1, none⟩ = some (.int .i64 ((Y.th t).ended : Int)) := h.tcell ht rfl
  have f1 := (h.th t ht).frozen 1
  have f3 := (h.th t ht).frozen 3
  have HP := hide (fun k => (show TLeft L S (Y.set t { Y.th t with part := 0, ended := (Y.th t).ended + 1 }) lab vo vp _ bv w (((w.drewN k).setCell ⟨L.bT t, 3, none⟩ (.int .i64 ((0 : Nat) : Int))).setCell ⟨L.bT t, 1, none⟩ (.int .i64 (((Y.th t).ended + 1 : Nat) : Int))) from by
    have q1 := (h.drewN k).put ht 3 (.int .i64 ((0 : Nat) : Int)) (x' := { Y.th t with part := 0 }) rfl rfl rfl rfl
    have q2 := q1.dr.put ht 1 (.int .i64 (((Y.th t).ended + 1 : Nat) : Int)) (x' := { Y.th t with part := 0, ended := (Y.th t).ended + 1 }) (by rw [set_th]; rfl) (by rw [set_th]) (by rw [set_th]) (by rw [set_th])
    exact (TLeft.refl h k).next (q1.next (q2.cast (set_set _ _ _ _)))))
  have HW := hide (show (((Y.th t).ended + 1 : Nat) : Int) = ((Y.th t).ended : Int) + 1 by push_cast; rfl)
  rw [HW.out] at HP
  clear h
  go_enter Tryz.func87, Tryz.ntmps87
  go_upto_region 2 with fail
  go_quiet (fail)
  go_wp2_with fail
  go_ret
  exact ⟨rfl, (HP.out nq).left⟩
set_option maxRecDepth 20000 in
set_option maxHeartbeats 2000000 in
theorem docOver_more (h : DR L S Y w lab vo vp vb bv) (ht : t < L.n) (p : Nat) (hp : (Y.th t).part = p) (hc : p = 1 ∨ p = 3 ∨ p = 5 ∨ p = 6 ∨ p = 8 ∨ p = 9) (hl : p = 8 ∨ p = 9 → (Y.th t).pend.length ≤ 64) :
    Calls Tryz.prog 87 #[.pointer (some ⟨L.b, 0, none⟩), .int .i64 (t : Int)] w fun e w' => e = .returned (.int .i64 1) ∧ DLeft L S w (Y.set t ((Y.th t).enter L.n (p + 1))) w' := by
  obtain ⟨⟨a, c, rfl⟩, hm⟩ := owns_form h.bat
  have hmx : maxLen = 9223372036854775807 := rfl
  have c7 : w.cell? ⟨L.b, 7, none⟩ = some (.slice (some ⟨L.g, 0, none⟩) L.n L.gc) := h.ocell rfl
  have c8 : w.cell? ⟨L.b, 8, none⟩ = some (.slice a Y.bs.length c) := h.ocell rfl
  have cp := h.ptr t ht
  have ht0 : (0 : Int) ≤ (t : Int) := by omega
  have ht1 : (t : Int) < (L.n : Int) := by omega
  have t3 : w.cell? ⟨L.bT t, 3, none⟩ = some (.int .i64 ((Y.th t).part : Int)) := h.tcell ht rfl
  have t7 : w.cell? ⟨L.bT t, 7, none⟩ = some (.int .i64 ((Y.th t).stamp : Int)) := h.tcell ht rfl
  rw [hp] at t3
  have HP := hide (fun k => (h.drewN k))
  have HE := hide (fun k => (docEnter (h.drewN k) ht (p + 1) (by omega) (by omega) (fun _ _ => hl (by omega))))
  have HR := hide (fun k => TLeft.refl h k)
  clear h hl
  rcases hc with rfl | rfl | rfl | rfl | rfl | rfl
  all_goals
    go_enter Tryz.func87, Tryz.ntmps87
    go_upto_region 2 with fail
    go_quiet (fail)
    go_wp2_with fail
    refine (HE.out nq).mono ?_
    rintro e w3 ⟨rfl, h3⟩
    have H4 := hide ((HR.out nq).next h3)
    clear h3
    go_wp2_with fail
    go_ret
    exact ⟨rfl, H4.out.left⟩
end
end Go.Proofs.YtefjhnhdagolhaaGreat
