import Derived.Test.YtefjhnhdagolhaaGreatQ36
import Derived.Test.YtefjhnhdagolhaaGreatQ01
import Derived.Test.YtefjhnhdagolhaaGreatQ06
import Derived.Test.YtefjhnhdagolhaaGreatQ05
import Derived.Deep.RegionHeld3
import Derived.Deep.Cut
namespace Go.Proofs.YtefjhnhdagolhaaGreat
open Go.RowKit
attribute [local go_sem ↓] Go.wp_at_zero Go.wp_at_succ
theorem plays_any (kind th cap st co : Int) (nx ou : List Int) (vn vo : Value) (hP : ∀ n c : Nat, 1 ≤ n → n ≤ 64 → c ≤ 64 → cfgErr kind n c st co nx ou = 0 → ∃ Mk, Maker n kind (c : Int) st co nx ou vn vo Mk ∧ Playable kind n (c : Int) st co nx ou vn vo Mk) (l : List ActV) (hl : l.length ≤ 200000) (hi : ∀ x ∈ l, I64 x.t ∧ I64 x.n) (s : Value) (w : World) (hs : Scr w s l) (hn : Sl w vn (ints nx)) (ho : Sl w vo (ints ou)) (n1 : nx.length ≤ 1048576) (n2 : ou.length ≤ 1048576) :
    Calls Tryz.prog 15 #[.agg #[.int .i64 kind, .int .i64 th, .int .i64 cap, .int .i64 st, .int .i64 co, vn, vo], s] w fun e w' => e = .returned (.bool true) ∧ Below w.heap.size w w' := by
  by_cases h : cfgErr kind th cap st co nx ou = 0
  · obtain ⟨⟨q1, q2, q3, q4, q5, q6⟩, -⟩ := cfg_ok h
    obtain ⟨n, rfl⟩ : ∃ n : Nat, th = (n : Int) := ⟨th.toNat, by omega⟩
    obtain ⟨c, rfl⟩ : ∃ c : Nat, cap = (c : Int) := ⟨cap.toNat, by omega⟩
    obtain ⟨Mk, mk, pl⟩ := hP n c (by omega) (by omega) (by omega) h
    exact plays_law kind n c st co nx ou vn vo mk pl l hl hi s w hs hn ho n1 n2 h
  · exact plays_err s kind th cap st co nx ou vn vo w hn ho n1 n2 h
set_option maxHeartbeats 1000000 in
theorem of_any (k kind th cap st co : Int) (a1 a2 : Option Addr) (l1 c1 l2 c2 : Nat) (w : World) :
    Calls Tryz.prog 16 #[.agg #[.int .i64 kind, .int .i64 th, .int .i64 cap, .int .i64 st, .int .i64 co, .slice a1 l1 c1, .slice a2 l2 c2], .int .i64 k] w fun e w' => e = .returned (.agg #[.int .i64 k, .int .i64 th, .int .i64 cap, .int .i64 st, .int .i64 co, .slice a1 l1 c1, .slice a2 l2 c2]) ∧ Below w.heap.size w w' := by
  go_enter Tryz.func16, Tryz.ntmps16
  go_wp2
  (try simp only [Exit.inBlock, Exit.then])
  exact bodyPost_ret (v := .agg #[.int .i64 k, .int .i64 th, .int .i64 cap, .int .i64 st, .int .i64 co, .slice a1 l1 c1, .slice a2 l2 c2]) (by simp [results, Tryz.results16, go_sem]) rfl ⟨rfl, by
    repeat (first | exact Below.refl _ _ | refine Below.drewN ?_ _ | refine Below.drew ?_ | refine Below.alloc ?_ (by simp) _ | refine Below.setCell ?_ (by simp) _)⟩
end Go.Proofs.YtefjhnhdagolhaaGreat
namespace Go.Proofs.YtefjhnhdagolhaaGreat
open Go.RowKit
abbrev Prs := List (Int × Int)
def Asc : Prs → Prop
  | [] => True
  | x :: l => (∀ y ∈ l, x.1 < y.1) ∧ Asc l
def mget (s : Prs) (a : Int) : Option Int := (s.find? fun x => x.1 == a).map Prod.snd
def mput (s : Prs) (a b : Int) : Prs := s.filter (fun x => decide (x.1 < a)) ++ (a, b) :: s.filter (fun x => decide (a < x.1))
def mdel (s : Prs) (a : Int) : Prs := s.filter fun x => decide (x.1 ≠ a)
def flat (s : Prs) : List Int := s.flatMap fun x => [x.1, x.2]
theorem flat_append (s t : Prs) : flat (s ++ t) = flat s ++ flat t := by simp [flat]
theorem flat_cons (x : Int × Int) (s : Prs) : flat (x :: s) = x.1 :: x.2 :: flat s := by simp [flat]
theorem flat_len (s : Prs) : (flat s).length = 2 * s.length := by
  induction s with
  | nil => rfl
  | cons x s ih => rw [flat_cons]; simp only [List.length_cons, ih]; omega
theorem asc_append {s t : Prs} : Asc (s ++ t) ↔ Asc s ∧ Asc t ∧ ∀ x ∈ s, ∀ y ∈ t, x.1 < y.1 := by
  induction s with
  | nil => simp [Asc]
  | cons a s ih =>
    simp only [List.cons_append, Asc, List.mem_append, List.mem_cons, ih]
    constructor
    · rintro ⟨h1, h2, h3, h4⟩
      refine ⟨⟨fun y hy => h1 y (.inl hy), h2⟩, h3, ?_⟩
      rintro x (rfl | hx) y hy
      · exact h1 y (.inr hy)
      · exact h4 x hx y hy
    · rintro ⟨⟨h1, h2⟩, h3, h4⟩
      refine ⟨?_, h2, h3, fun x hx y hy => h4 x (.inr hx) y hy⟩
      rintro y (hy | hy)
      · exact h1 y hy
      · exact h4 a (.inl rfl) y hy
theorem asc_mid {l r : Prs} {e : Int × Int} : Asc (l ++ e :: r) ↔ Asc l ∧ Asc r ∧ (∀ x ∈ l, x.1 < e.1) ∧ (∀ y ∈ r, e.1 < y.1) := by
  rw [asc_append]
  simp only [Asc, List.mem_cons]
  constructor
  · rintro ⟨h1, ⟨h2, h3⟩, h4⟩
    exact ⟨h1, h3, fun x hx => h4 x hx e (.inl rfl), h2⟩
  · rintro ⟨h1, h2, h3, h4⟩
    refine ⟨h1, ⟨h4, h2⟩, ?_⟩
    rintro x hx y (rfl | hy)
    · exact h3 x hx
    · have := h3 x hx; have := h4 y hy; omega
theorem asc_filter {s : Prs} (p : Int × Int → Bool) (h : Asc s) : Asc (s.filter p) := by
  induction s with
  | nil => exact h
  | cons a s ih =>
    simp only [List.filter_cons]
    split
    · exact ⟨fun y hy => h.1 y (List.mem_filter.mp hy).1, ih h.2⟩
    · exact ih h.2
theorem asc_put {s : Prs} (h : Asc s) (a b : Int) : Asc (mput s a b) := by
  unfold mput
  rw [asc_mid]
  refine ⟨asc_filter _ h, asc_filter _ h, fun x hx => ?_, fun x hx => ?_⟩
  · simpa using (List.mem_filter.mp hx).2
  · simpa using (List.mem_filter.mp hx).2
theorem asc_del {s : Prs} (h : Asc s) (a : Int) : Asc (mdel s a) := asc_filter _ h
section
variable {l r : Prs} {e : Int × Int} {a b : Int}
theorem filter_all {s : Prs} {p : Int × Int → Bool} (h : ∀ x ∈ s, p x = true) : s.filter p = s := List.filter_eq_self.mpr h
theorem filter_none {s : Prs} {p : Int × Int → Bool} (h : ∀ x ∈ s, p x = false) : s.filter p = [] := List.filter_eq_nil_iff.mpr fun x hx => by rw [h x hx]; decide
theorem get_none {s : Prs} (h : ∀ x ∈ s, x.1 ≠ a) : mget s a = none := by
  unfold mget
  rw [List.find?_eq_none.mpr (fun x hx => by simpa using h x hx)]
  rfl
theorem get_left (h : Asc (l ++ e :: r)) (ha : a < e.1) : mget (l ++ e :: r) a = mget l a := by
  obtain ⟨-, -, h1, h2⟩ := asc_mid.mp h
  have q : mget (e :: r) a = none := get_none fun x hx => by
    rcases List.mem_cons.mp hx with rfl | hx
    · omega
    · have := h2 x hx; omega
  unfold mget at *
  rw [List.find?_append]
  cases hf : l.find? fun x => x.1 == a with
  | none => simpa using q
  | some x => rfl
theorem get_right (h : Asc (l ++ e :: r)) (ha : e.1 < a) : mget (l ++ e :: r) a = mget r a := by
  obtain ⟨-, -, h1, h2⟩ := asc_mid.mp h
  unfold mget
  rw [List.find?_append, List.find?_eq_none.mpr (fun x hx => by have := h1 x hx; simp; omega), Option.none_or, List.find?_cons, show (e.1 == a) = false from beq_eq_false_iff_ne.2 (by omega)]
theorem get_mid (h : Asc (l ++ e :: r)) (ha : e.1 = a) : mget (l ++ e :: r) a = some e.2 := by
  obtain ⟨-, -, h1, h2⟩ := asc_mid.mp h
  unfold mget
  rw [List.find?_append, List.find?_eq_none.mpr (fun x hx => by have := h1 x hx; simp; omega), Option.none_or, List.find?_cons, show (e.1 == a) = true from beq_iff_eq.2 ha]
  rfl
theorem put_left (h : Asc (l ++ e :: r)) (ha : a < e.1) : mput (l ++ e :: r) a b = mput l a b ++ e :: r := by
  obtain ⟨-, -, h1, h2⟩ := asc_mid.mp h
  unfold mput
  have q1 : (e :: r).filter (fun x => decide (x.1 < a)) = [] := filter_none fun x hx => by
    rcases List.mem_cons.mp hx with rfl | hx
    · simp; omega
    · have := h2 x hx; simp; omega
  have q2 : (e :: r).filter (fun x => decide (a < x.1)) = e :: r := filter_all fun x hx => by
    rcases List.mem_cons.mp hx with rfl | hx
    · simp; omega
    · have := h2 x hx; simp; omega
  rw [List.filter_append, List.filter_append, q1, q2]
  simp
theorem put_right (h : Asc (l ++ e :: r)) (ha : e.1 < a) : mput (l ++ e :: r) a b = l ++ e :: mput r a b := by
  obtain ⟨-, -, h1, h2⟩ := asc_mid.mp h
  unfold mput
  have q1 : l.filter (fun x => decide (x.1 < a)) = l := filter_all fun x hx => by have := h1 x hx; simp; omega
  have q2 : l.filter (fun x => decide (a < x.1)) = [] := filter_none fun x hx => by have := h1 x hx; simp; omega
  rw [List.filter_append, List.filter_append, q1, q2, List.filter_cons, if_pos (by simpa using ha), List.filter_cons, if_neg (by simp; omega)]
  simp
theorem put_mid (h : Asc (l ++ e :: r)) (ha : e.1 = a) : mput (l ++ e :: r) a b = l ++ (a, b) :: r := by
  obtain ⟨-, -, h1, h2⟩ := asc_mid.mp h
  unfold mput
  have q1 : l.filter (fun x => decide (x.1 < a)) = l := filter_all fun x hx => by have := h1 x hx; simp; omega
  have q2 : l.filter (fun x => decide (a < x.1)) = [] := filter_none fun x hx => by have := h1 x hx; simp; omega
  have q3 : r.filter (fun x => decide (x.1 < a)) = [] := filter_none fun x hx => by have := h2 x hx; simp; omega
  have q4 : r.filter (fun x => decide (a < x.1)) = r := filter_all fun x hx => by have := h2 x hx; simp; omega
  rw [List.filter_append, List.filter_append, q1, q2, List.filter_cons, if_neg (by simp; omega), List.filter_cons, if_neg (by simp; omega), q3, q4]
  simp
theorem del_left (h : Asc (l ++ e :: r)) (ha : a < e.1) : mdel (l ++ e :: r) a = mdel l a ++ e :: r := by
  obtain ⟨-, -, h1, h2⟩ := asc_mid.mp h
  unfold mdel
  rw [List.filter_append, filter_all (s := e :: r) fun x hx => by
    rcases List.mem_cons.mp hx with rfl | hx
    · simp; omega
    · have := h2 x hx; simp; omega]
theorem del_right (h : Asc (l ++ e :: r)) (ha : e.1 < a) : mdel (l ++ e :: r) a = l ++ e :: mdel r a := by
  obtain ⟨-, -, h1, h2⟩ := asc_mid.mp h
  unfold mdel
  rw [List.filter_append, filter_all (s := l) fun x hx => by have := h1 x hx; simp; omega, List.filter_cons, if_pos (by simp; omega)]
theorem del_mid (h : Asc (l ++ e :: r)) (ha : e.1 = a) : mdel (l ++ e :: r) a = l ++ r := by
  obtain ⟨-, -, h1, h2⟩ := asc_mid.mp h
  unfold mdel
  rw [List.filter_append, filter_all (s := l) fun x hx => by have := h1 x hx; simp; omega, List.filter_cons, if_neg (by simp; omega), filter_all (s := r) fun x hx => by have := h2 x hx; simp; omega]
theorem put_len (s : Prs) (a b : Int) : (mput s a b).length ≤ s.length + 1 := by
  unfold mput
  simp only [List.length_append, List.length_cons]
  have : (s.filter fun x => decide (x.1 < a)).length + (s.filter fun x => decide (a < x.1)).length ≤ s.length := by
    induction s with
    | nil => simp
    | cons x s ih =>
      simp only [List.filter_cons, List.length_cons]
      by_cases c1 : x.1 < a
      · rw [if_pos (by simpa using c1), if_neg (by simp; omega)]; simp only [List.length_cons]; omega
      · rw [if_neg (by simpa using c1)]
        split <;> (try simp only [List.length_cons]) <;> omega
  omega
end
def mans (s : Prs) (a : Int) : M.Ans := match mget s a with | some v => ⟨1, v⟩ | none => ⟨3, 0⟩
def mapP : M.Plain Prs where
  first := []
  apply s o := if o.c = 1 then (mput s o.a o.b, mans s o.a) else if o.c = 2 then (s, mans s o.a) else if o.c = 3 then (mdel s o.a, mans s o.a) else (s, ⟨4, 0⟩)
end Go.Proofs.YtefjhnhdagolhaaGreat
namespace Go.Proofs.YtefjhnhdagolhaaGreat
open Go.RowKit
def Dis (l : Prs) : Prop := l.Pairwise fun x y => x.1 ≠ y.1
theorem asc_dis : ∀ {s : Prs}, Asc s → Dis s
  | [], _ => List.Pairwise.nil
  | x :: s, h => List.Pairwise.cons (fun y hy => by have := h.1 y hy; omega) (asc_dis h.2)
theorem dis_perm {l s : Prs} (hp : l.Perm s) (h : Dis s) : Dis l := (hp.pairwise_iff (fun hxy => Ne.symm hxy)).mpr h
theorem dis_take {l : Prs} (h : Dis l) (k : Nat) : Dis (l.take k) := List.Pairwise.sublist (List.take_sublist k l) h
theorem get_mem {l : Prs} (h : Dis l) (a v : Int) : mget l a = some v ↔ (a, v) ∈ l := by
  induction l with
  | nil => simp [mget]
  | cons x l ih =>
    have hd := List.pairwise_cons.mp h
    have ih := ih hd.2
    unfold mget at ih ⊢
    by_cases c : x.1 = a
    · rw [List.find?_cons, show (x.1 == a) = true from beq_iff_eq.2 c]
      simp only [Option.map_some, Option.some.injEq, List.mem_cons]
      constructor
      · intro e; left; rw [← e, ← c]
      · rintro (e | e)
        · rw [← e]
        · exact absurd c (hd.1 _ e)
    · rw [List.find?_cons, show (x.1 == a) = false from beq_eq_false_iff_ne.2 c]
      simp only [List.mem_cons]
      rw [ih]
      constructor
      · intro e; exact .inr e
      · rintro (e | e)
        · exact absurd (by rw [← e]) c
        · exact e
theorem get_perm {l s : Prs} (hp : l.Perm s) (h : Dis s) (a : Int) : mget l a = mget s a := by
  apply Option.ext
  intro v
  rw [get_mem (dis_perm hp h), get_mem h, hp.mem_iff]
theorem mans_perm {l s : Prs} (hp : l.Perm s) (h : Dis s) (a : Int) : mans l a = mans s a := by unfold mans; rw [get_perm hp h]
theorem put_split (s : Prs) (a : Int) : (mdel s a).Perm (s.filter (fun x => decide (x.1 < a)) ++ s.filter (fun x => decide (a < x.1))) := by
  unfold mdel
  induction s with
  | nil => exact List.Perm.refl _
  | cons x s ih =>
    simp only [List.filter_cons]
    by_cases c1 : x.1 < a
    · rw [if_pos (by simp; omega), if_pos (by simpa using c1), if_neg (by simp; omega)]
      exact ih.cons x
    · by_cases c2 : a < x.1
      · rw [if_pos (by simp; omega), if_neg (by simpa using c1), if_pos (by simpa using c2)]
        exact (ih.cons x).trans List.perm_middle.symm
      · rw [if_neg (by simp; omega), if_neg (by simpa using c1), if_neg (by simpa using c2)]
        exact ih
theorem put_perm {l s : Prs} (hp : l.Perm s) (a b : Int) : (mdel l a ++ [(a, b)]).Perm (mput s a b) := by
  have h1 : (mdel l a).Perm (mdel s a) := hp.filter _
  have h2 := (h1.trans (put_split s a)).append_right [(a, b)]
  refine h2.trans ?_
  unfold mput
  rw [List.append_assoc]
  exact List.Perm.append_left _ List.perm_append_comm
theorem del_perm {l s : Prs} (hp : l.Perm s) (a : Int) : (mdel l a).Perm (mdel s a) := hp.filter _
theorem take_snoc {l : Prs} {k : Nat} (h : k < l.length) : l.take (k + 1) = l.take k ++ [l[k]] := List.take_succ_eq_append_getElem h
theorem del_snoc (l : Prs) (x : Int × Int) (a : Int) : mdel (l ++ [x]) a = if x.1 = a then mdel l a else mdel l a ++ [x] := by
  unfold mdel
  rw [List.filter_append]
  by_cases c : x.1 = a
  · rw [if_pos c, List.filter_cons, if_neg (by simpa using c)]; simp
  · rw [if_neg c, List.filter_cons, if_pos (by simpa using c)]; simp
theorem mans_snoc_ne (l : Prs) (x : Int × Int) {a : Int} (c : x.1 ≠ a) : mans (l ++ [x]) a = mans l a := by
  have e : mget (l ++ [x]) a = mget l a := by
    unfold mget
    rw [List.find?_append]
    cases l.find? fun y => y.1 == a with
    | some y => rfl
    | none => rw [Option.none_or, List.find?_cons, show (x.1 == a) = false from beq_eq_false_iff_ne.2 c]; rfl
  unfold mans
  rw [e]
theorem mans_snoc_eq {l : Prs} {x : Int × Int} {a : Int} (h : Dis (l ++ [x])) (c : x.1 = a) : mans (l ++ [x]) a = ⟨1, x.2⟩ := by
  have e : mget (l ++ [x]) a = some x.2 := (get_mem h a x.2).mpr (by rw [← c]; simp)
  unfold mans
  rw [e]
theorem asc_get : ∀ {s : Prs}, Asc s → ∀ {i j : Nat} (hi : i < s.length) (hj : j < s.length), i < j → (s[i]).1 < (s[j]).1
  | x :: s, h, 0, j + 1, _, hj, _ => h.1 _ (List.getElem_mem _)
  | x :: s, h, i + 1, j + 1, hi, hj, hij => asc_get h.2 (by simpa using hi) (by simpa using hj) (by omega)
def Beh (s : Prs) (j : Nat) (x : Int × Int) : Prop := j = 0 ∨ ∀ h : j - 1 < s.length, (s[j - 1]).1 < x.1
theorem beh_is {s l : Prs} (hp : l.Perm s) (ha : Asc s) {j : Nat} (hj : j < s.length) {x : Int × Int} (hx : x ∈ l) (hb : Beh s j x) (hm : ∀ y ∈ l, Beh s j y → x.1 ≤ y.1) : x = s[j] := by
  have hbj : Beh s j s[j] := by
    by_cases c : j = 0
    · exact .inl c
    · exact .inr fun h => asc_get ha h hj (by omega)
  have h1 := hm s[j] (hp.mem_iff.mpr (List.getElem_mem hj)) hbj
  obtain ⟨i, hi, rfl⟩ := List.getElem_of_mem (hp.mem_iff.mp hx)
  have hij : j ≤ i := by
    rcases hb with c | c
    · omega
    · have c := c (by omega)
      rcases Nat.lt_or_ge i j with q | q
      · by_cases e : i = j - 1
        · subst e; omega
        · have := asc_get ha hi (show j - 1 < s.length by omega) (by omega); omega
      · exact q
  rcases Nat.lt_or_ge j i with q | q
  · have := asc_get ha hj hi q; omega
  · have : i = j := by omega
    subst this
    rfl
theorem beh_ex {s l : Prs} (hp : l.Perm s) (ha : Asc s) {j : Nat} (hj : j < s.length) : ∃ y ∈ l, Beh s j y := by
  refine ⟨s[j], hp.mem_iff.mpr (List.getElem_mem hj), ?_⟩
  by_cases c : j = 0
  · exact .inl c
  · exact .inr fun h => asc_get ha h hj (by omega)
theorem flat_get (l : Prs) : ∀ {i : Nat} (hi : i < l.length), (flat l)[2 * i]? = some (l[i]).1 ∧ (flat l)[2 * i + 1]? = some (l[i]).2 := by
  induction l with
  | nil => intro i hi; exact absurd hi (Nat.not_lt_zero _)
  | cons x l ih =>
    intro i hi
    rw [flat_cons]
    cases i with
    | zero => exact ⟨rfl, rfl⟩
    | succ i =>
      have := ih (i := i) (by simpa using hi)
      rw [show 2 * (i + 1) = 2 * i + 1 + 1 by omega]
      simpa using this
end Go.Proofs.YtefjhnhdagolhaaGreat
namespace Go.Proofs.YtefjhnhdagolhaaGreat
open Go.RowKit
attribute [local go_sem ↓] Go.wp_at_zero Go.wp_at_succ
def tnode (e : Int × Int) (pl pr : Option Addr) (h : Nat) : List Value := [.int .i64 e.1, .int .i64 e.2, .pointer pl, .pointer pr, .int .i64 (h : Int)]
def TrAt (I : Nat → Prop) (w : World) : Nat → Option Addr → Prs → Nat → Prop
  | 0, p, s, h => p = none ∧ s = [] ∧ h = 0
  | d + 1, p, s, h => (p = none ∧ s = [] ∧ h = 0) ∨ ∃ b pl pr e sl sr hl hr, p = some ⟨b, 0, none⟩ ∧ I b ∧ Row w b 375 (tnode e pl pr h) ∧ TrAt I w d pl sl hl ∧ TrAt I w d pr sr hr ∧ s = sl ++ e :: sr ∧ h = 1 + max hl hr
def Tr (I : Nat → Prop) (w : World) (p : Option Addr) (s : Prs) (h : Nat) : Prop := ∃ d, TrAt I w d p s h
section
variable {I I' : Nat → Prop} {w w' : World} {p : Option Addr} {s : Prs} {h : Nat}
theorem TrAt.up : ∀ {d : Nat} {p : Option Addr} {s : Prs} {h : Nat}, TrAt I w d p s h → TrAt I w (d + 1) p s h
  | 0, _, _, _, q => .inl q
  | d + 1, _, _, _, q => by
    rcases q with q | ⟨b, pl, pr, e, sl, sr, hl, hr, h1, h2, h3, h4, h5, h6⟩
    · exact .inl q
    · exact .inr ⟨b, pl, pr, e, sl, sr, hl, hr, h1, h2, h3, h4.up, h5.up, h6⟩
theorem TrAt.more {d : Nat} (q : TrAt I w d p s h) : ∀ k, TrAt I w (d + k) p s h
  | 0 => q
  | k + 1 => (q.more k).up
theorem Tr.nil : Tr I w none [] 0 := ⟨0, rfl, rfl, rfl⟩
theorem Tr.node {b : Nat} {pl pr : Option Addr} {e : Int × Int} {sl sr : Prs} {hl hr : Nat} {h : Nat} (hh : h = 1 + max hl hr) (hI : I b) (hR : Row w b 375 (tnode e pl pr h)) (h1 : Tr I w pl sl hl) (h2 : Tr I w pr sr hr) : Tr I w (some ⟨b, 0, none⟩) (sl ++ e :: sr) h := by
  obtain ⟨d1, h1⟩ := h1
  obtain ⟨d2, h2⟩ := h2
  refine ⟨d1 + d2 + 1, .inr ⟨b, pl, pr, e, sl, sr, hl, hr, rfl, hI, hR, h1.more d2, ?_, rfl, hh⟩⟩
  have := h2.more d1
  rwa [Nat.add_comm] at this
theorem Tr.cases (q : Tr I w p s h) : (p = none ∧ s = [] ∧ h = 0) ∨ ∃ b pl pr e sl sr hl hr, p = some ⟨b, 0, none⟩ ∧ I b ∧ Row w b 375 (tnode e pl pr h) ∧ Tr I w pl sl hl ∧ Tr I w pr sr hr ∧ s = sl ++ e :: sr ∧ h = 1 + max hl hr := by
  obtain ⟨d, q⟩ := q
  cases d with
  | zero => exact .inl q
  | succ d =>
    rcases q with q | ⟨b, pl, pr, e, sl, sr, hl, hr, h1, h2, h3, h4, h5, h6⟩
    · exact .inl q
    · exact .inr ⟨b, pl, pr, e, sl, sr, hl, hr, h1, h2, h3, ⟨d, h4⟩, ⟨d, h5⟩, h6⟩
theorem TrAt.stay (hk : ∀ k, I k → k < w.heap.size → I' k ∧ w'.heap[k]? = w.heap[k]?) : ∀ {d : Nat} {p : Option Addr} {s : Prs} {h : Nat}, TrAt I w d p s h → TrAt I' w' d p s h
  | 0, _, _, _, q => q
  | d + 1, _, _, _, q => by
    rcases q with q | ⟨b, pl, pr, e, sl, sr, hl, hr, h1, h2, h3, h4, h5, h6⟩
    · exact .inl q
    · have := hk b h2 h3.lt
      exact .inr ⟨b, pl, pr, e, sl, sr, hl, hr, h1, this.1, h3.of_block this.2, h4.stay hk, h5.stay hk, h6⟩
theorem Tr.stay (hk : ∀ k, I k → k < w.heap.size → I' k ∧ w'.heap[k]? = w.heap[k]?) (q : Tr I w p s h) : Tr I' w' p s h := let ⟨d, q⟩ := q; ⟨d, q.stay hk⟩
theorem TrAt.len : ∀ {d : Nat} {p : Option Addr} {s : Prs} {h : Nat}, TrAt I w d p s h → h ≤ s.length
  | 0, _, _, _, q => by rw [q.2.2]; exact Nat.zero_le _
  | d + 1, _, _, _, q => by
    rcases q with q | ⟨b, pl, pr, e, sl, sr, hl, hr, -, -, -, h4, h5, rfl, rfl⟩
    · rw [q.2.2]; exact Nat.zero_le _
    · have := h4.len
      have := h5.len
      simp only [List.length_append, List.length_cons]
      omega
theorem Tr.len (q : Tr I w p s h) : h ≤ s.length := let ⟨_, q⟩ := q; q.len
end
def JB (I : Nat → Prop) (B : Nat) (w : World) : Nat → Prop := fun k => I k ∨ (B ≤ k ∧ k < w.heap.size)
section
variable {I : Nat → Prop} {B : Nat} {w w' : World} {p pl pr : Option Addr} {s sl sr : Prs} {h hl hr : Nat} {e : Int × Int}
theorem Tr.later (q : Tr (JB I B w) w p s h) (hb : Below w.heap.size w w') : Tr (JB I B w') w' p s h :=
  q.stay fun k hk hl => ⟨by
    rcases hk with hk | hk
    · exact .inl hk
    · exact .inr ⟨hk.1, Nat.lt_of_lt_of_le hk.2 hb.size⟩, hb.block k hl⟩
set_option maxHeartbeats 400000 in
theorem tall_w {I : Nat → Prop} (q : Tr I w p s h) : Calls Tryz.prog 186 #[.pointer p] w fun e w' => e = .returned (.int .i64 (h : Int)) ∧ w' = w := by
  rcases q.cases with ⟨rfl, -, rfl⟩ | ⟨b, pl, pr, e, sl, sr, hl, hr, rfl, -, hR, -, -, -, -⟩
  · clear q
    go_enter Tryz.func186, Tryz.ntmps186
    go_wp2
    go_ret
    exact ⟨rfl, rfl⟩
  · have c4 : w.cell? ⟨b, 4, none⟩ = some (.int .i64 (h : Int)) := hR.cell_of rfl
    clear q hR
    go_enter Tryz.func186, Tryz.ntmps186
    go_wp2
    go_ret
    exact ⟨rfl, rfl⟩
set_option maxRecDepth 20000 in
set_option maxHeartbeats 1000000 in
theorem joined_w (q1 : Tr (JB I B w) w pl sl hl) (q2 : Tr (JB I B w) w pr sr hr) (hB : B ≤ w.heap.size) (hz : sl.length + sr.length ≤ 2000000000000) :
    Calls Tryz.prog 382 #[.pointer pl, .agg #[.int .i64 e.1, .int .i64 e.2], .pointer pr] w fun e' w' => ∃ b, e' = .returned (.pointer (some ⟨b, 0, none⟩)) ∧ Tr (JB I B w') w' (some ⟨b, 0, none⟩) (sl ++ e :: sr) (1 + max hl hr) ∧ Below w.heap.size w w' := by
  have l1 := q1.len
  have l2 := q2.len
  obtain ⟨hh, hhe⟩ : ∃ x, x = 1 + max hl hr := ⟨_, rfl⟩
  have HMX := hide (show IntKind.i64.wrap (1 + if hl < hr then (hr : Int) else (hl : Int)) = (hh : Int) by split <;> rw [wrapi _ (by omega) (by omega)] <;> omega)
  rw [← hhe]
  have HHE := hide hhe
  clear hhe
  go_enter Tryz.func382, Tryz.ntmps382
  go_upto_region 1 with fail
  generalize hW : World.alloc w _ = W
  have hb0 : Below w.heap.size w W := by rw [← hW]; exact below_alloc _ _
  have r4 : Row W w.heap.size 373 [.int .i64 e.1, .int .i64 e.2] := by rw [← hW]; exact Row.new' rfl
  have t1 := q1.later hb0
  have t2 := q2.later hb0
  have c0 := r4.cell_of (i := 0) rfl
  have c1 := r4.cell_of (i := 1) rfl
  have hlt := r4.lt
  have HB0 := hide hb0
  have H1 := hide t1
  have H2 := hide t2
  clear hW hb0 r4 q1 q2 t1 t2
  refine rg0 (S := (fun w' => w'.cell? ⟨w.heap.size, 0, none⟩ = some (.int .i64 e.1) ∧ w'.cell? ⟨w.heap.size, 1, none⟩ = some (.int .i64 e.2) ∧ Below W.heap.size W w')) 12 rfl (by kernel_rfl) ?_ (fun hHeld => ?_)
  · exact ⟨c0, c1, (Below.refl _ _).drew⟩
  iterate 4 (refine tk 11 (by rfl) (by kernel_rfl) (by exact fun _ _ _ h => h) (.inl ⟨by rfl, fun w hS => by (try dsimp only at hS); go_simp; (try with_reducible rfl)⟩) (by assumption) ?_; try go_frame)
  iterate 1 (refine tk 12 (by rfl) (by kernel_rfl) (by exact fun _ _ _ h => h) (.inl ⟨by rfl, fun w hS => by (try dsimp only at hS); go_simp; (try with_reducible rfl)⟩) (by assumption) ?_; try go_frame)
  refine rd1 4 (by rfl) (by kernel_rfl) (fun K hK => ?_)
  go_simp
  refine (tall_w (H1.out.later hHeld.2.2)).mono ?_
  rintro e' w2 ⟨rfl, rfl⟩
  go_wp2_with fail
  refine hK.out _ _ ?_ (fun hHeld => ?_)
  · exact hHeld
  clear hK K
  (try go_frame)
  refine rd1 6 (by rfl) (by kernel_rfl) (fun K hK => ?_)
  go_simp
  refine (tall_w (H2.out.later hHeld.2.2)).mono ?_
  rintro e' w2 ⟨rfl, rfl⟩
  go_wp2_with fail
  refine hK.out _ _ ?_ (fun hHeld => ?_)
  · exact hHeld
  clear hK K
  (try go_frame)
  refine rd1 7 (by rfl) (by kernel_rfl) (fun K hK => ?_)
  go_simp
  refine hK.out _ _ ?_ (fun hHeld => ?_)
  · exact hHeld
  clear hK K
  (try go_frame)
  iterate 2 (refine tk 11 (by rfl) (by kernel_rfl) (by exact fun _ _ _ h => h) (.inl ⟨by rfl, fun w hS => by (try dsimp only at hS); go_simp; (try with_reducible rfl)⟩) (by assumption) ?_; try go_frame)
  refine rd1 10 (by rfl) (by kernel_rfl) (fun K hK => ?_)
  go_simp
  refine hK.out _ _ ?_ (fun hHeld => ?_)
  · exact ⟨cell_later (below_alloc _ _) hHeld.1, cell_later (below_alloc _ _) hHeld.2.1, Below.next hHeld.2.2 (below_alloc _ _) hHeld.2.2.size⟩
  clear hK K
  (try go_frame)
  iterate 1 (refine tk 11 (by rfl) (by kernel_rfl) (by exact fun _ _ _ h => h) (.inl ⟨by rfl, fun w hS => by (try dsimp only at hS); go_simp; (try with_reducible rfl)⟩) (by assumption) ?_; try go_frame)
  refine wpAnyH_done (by kernel_rfl) ?_ _
  generalize IntKind.i64.wrap (1 + if hl < hr then (hr : Int) else (hl : Int)) = z9 at *
  generalize (if hl < hr then (hr : Int) else (hl : Int)) = z8 at *
  have e9 := HMX.out
  clear HMX
  subst e9
  go_wp2_with fail
  go_ret
  exact ⟨_, rfl, Tr.node HHE.out (.inr ⟨by show B ≤ W.heap.size; omega, by simp⟩) (Row.new' rfl) (H1.out.later hHeld.2.2) (H2.out.later hHeld.2.2), Below.next HB0.out hHeld.2.2 HB0.out.size⟩
end
end Go.Proofs.YtefjhnhdagolhaaGreat
namespace Go.Proofs.YtefjhnhdagolhaaGreat
open Go.RowKit
attribute [local go_sem ↓] Go.wp_at_zero Go.wp_at_succ
def TrRes (I : Nat → Prop) (B : Nat) (w : World) (s : Prs) (e : Ending) (w' : World) : Prop := ∃ p h, e = .returned (.pointer p) ∧ Tr (JB I B w') w' p s h ∧ Below w.heap.size w w'
theorem keepT9 {w0 w w' : World} {a1 a2 a3 a4 a5 a6 a7 a8 a9 : Addr} {v1 v2 v3 v4 v5 v6 v7 v8 v9 : Value} (hb : Below w.heap.size w w')
    (h : Below w0.heap.size w0 w ∧ w.cell? a1 = some v1 ∧ w.cell? a2 = some v2 ∧ w.cell? a3 = some v3 ∧ w.cell? a4 = some v4 ∧ w.cell? a5 = some v5 ∧ w.cell? a6 = some v6 ∧ w.cell? a7 = some v7 ∧ w.cell? a8 = some v8 ∧ w.cell? a9 = some v9) :
    Below w0.heap.size w0 w' ∧ w'.cell? a1 = some v1 ∧ w'.cell? a2 = some v2 ∧ w'.cell? a3 = some v3 ∧ w'.cell? a4 = some v4 ∧ w'.cell? a5 = some v5 ∧ w'.cell? a6 = some v6 ∧ w'.cell? a7 = some v7 ∧ w'.cell? a8 = some v8 ∧ w'.cell? a9 = some v9 :=
  let ⟨h0, h1, h2, h3, h4, h5, h6, h7, h8, h9⟩ := h
  ⟨Below.next h0 hb h0.size, cell_later hb h1, cell_later hb h2, cell_later hb h3, cell_later hb h4, cell_later hb h5, cell_later hb h6, cell_later hb h7, cell_later hb h8, cell_later hb h9⟩
section
variable {I : Nat → Prop} {B : Nat} {w w' : World} {p pl pr : Option Addr} {s sl sr : Prs} {h hl hr : Nat} {e : Int × Int}
set_option maxRecDepth 20000 in
set_option maxHeartbeats 2000000 in
theorem turnedRight_w (q1 : Tr (JB I B w) w pl sl hl) (q2 : Tr (JB I B w) w pr sr hr) (hB : B ≤ w.heap.size) (hz : sl.length + sr.length ≤ 1000000000000) (hh : hr + 1 < hl) :
    Calls Tryz.prog 385 #[.pointer pl, .agg #[.int .i64 e.1, .int .i64 e.2], .pointer pr] w (TrRes I B w (sl ++ e :: sr)) := by
  rcases q1.cases with ⟨-, -, rfl⟩ | ⟨b1, pll, plr, le, sll, slr, hll, hlr, rfl, -, hR1, tl, tr, rfl, -⟩
  · omega
  have hz1 : sll.length + slr.length + sr.length ≤ 1000000000000 := by simp only [List.length_append, List.length_cons] at hz; omega
  unfold tnode at hR1
  by_cases hc : hlr ≤ hll
  · have hc' : (hlr : Int) ≤ (hll : Int) := by omega
    go_enter Tryz.func385, Tryz.ntmps385
    go_upto_region 1 with fail
    generalize hW : World.alloc w _ = W
    have hb0 : Below w.heap.size w W := by rw [← hW]; exact below_alloc _ _
    have r4 : Row W w.heap.size 373 [.int .i64 e.1, .int .i64 e.2] := by rw [← hW]; exact Row.new' rfl
    have d0 := r4.cell_of (i := 0) rfl
    have d1 := r4.cell_of (i := 1) rfl
    have r1 := hR1.old hb0
    have c0 := r1.cell_of (i := 0) rfl
    have c1 := r1.cell_of (i := 1) rfl
    have c2 := r1.cell_of (i := 2) rfl
    have c3 := r1.cell_of (i := 3) rfl
    have HB0 := hide hb0
    have HL := hide (tl.later hb0)
    have HM := hide (tr.later hb0)
    have HR := hide (q2.later hb0)
    have hlt := r4.lt
    clear hW hb0 r4 r1 hR1 q1 q2 tl tr
    go_upto_region 2 with fail
    go_wp2_with fail
    refine (tall_w HL.out).mono ?_
    rintro e' w2 ⟨rfl, rfl⟩
    go_wp2_with fail
    refine (tall_w HM.out).mono ?_
    rintro e' w2 ⟨rfl, rfl⟩
    go_upto_region 3 with fail
    refine rg0 (S := (fun w' => w'.cell? ⟨w.heap.size, 0, none⟩ = some (.int .i64 e.1) ∧ w'.cell? ⟨w.heap.size, 1, none⟩ = some (.int .i64 e.2) ∧ w'.cell? ⟨b1, 0, none⟩ = some (.int .i64 le.1) ∧ w'.cell? ⟨b1, 1, none⟩ = some (.int .i64 le.2) ∧ w'.cell? ⟨b1, 2, none⟩ = some (.pointer pll) ∧ Below w2.heap.size w2 w')) 14 rfl (by kernel_rfl) ?_ (fun hHeld => ?_)
    · exact ⟨d0, d1, c0, c1, c2, (Below.refl _ _).drew⟩
    iterate 11 (refine tk 13 (by rfl) (by kernel_rfl) (by exact fun _ _ _ h => h) (.inl ⟨by rfl, fun w hS => by (try dsimp only at hS); go_simp; (try with_reducible rfl)⟩) (by assumption) ?_; try go_frame)
    refine rd1 11 (by rfl) (by kernel_rfl) (fun K hK => ?_)
    go_simp
    refine (joined_w (I := I) (B := B) (HM.out.later hHeld.2.2.2.2.2) (HR.out.later hHeld.2.2.2.2.2) (by have := hHeld.2.2.2.2.2.size; omega) (by omega)).mono ?_
    rintro e' w3 ⟨b3, rfl, t3, hb3⟩
    go_wp2_with fail
    refine hK.out _ _ ?_ (fun hHeld => ?_)
    · exact ⟨cell_later hb3 hHeld.1, cell_later hb3 hHeld.2.1, cell_later hb3 hHeld.2.2.1, cell_later hb3 hHeld.2.2.2.1, cell_later hb3 hHeld.2.2.2.2.1, Below.next hHeld.2.2.2.2.2 hb3 hHeld.2.2.2.2.2.size⟩
    clear hK K
    (try go_frame)
    refine rd1 12 (by rfl) (by kernel_rfl) (fun K hK => ?_)
    go_simp
    refine (joined_w (I := I) (B := B) (HL.out.later hHeld.2.2.2.2.2) t3 (by have := hHeld.2.2.2.2.2.size; omega) (by simp only [List.length_append, List.length_cons]; omega)).mono ?_
    rintro e' w4 ⟨b4, rfl, t4, hb4⟩
    have HT := hide t4
    clear t4
    go_wp2_with fail
    refine hK.out _ _ ?_ (fun hHeld => ?_)
    · exact ⟨cell_later hb4 hHeld.1, cell_later hb4 hHeld.2.1, cell_later hb4 hHeld.2.2.1, cell_later hb4 hHeld.2.2.2.1, cell_later hb4 hHeld.2.2.2.2.1, Below.next hHeld.2.2.2.2.2 hb4 hHeld.2.2.2.2.2.size⟩
    clear hK K
    (try go_frame)
    iterate 1 (refine tk 13 (by rfl) (by kernel_rfl) (by exact fun _ _ _ h => h) (.inl ⟨by rfl, fun w hS => by (try dsimp only at hS); go_simp; (try with_reducible rfl)⟩) (by assumption) ?_; try go_frame)
    refine wpAnyH_done (by kernel_rfl) ?_ _
    go_wp2_with fail
    go_ret
    exact ⟨_, _, rfl, by have := HT.out; simpa using this, Below.next HB0.out hHeld.2.2.2.2.2 HB0.out.size⟩
  · rcases tr.cases with ⟨-, -, rfl⟩ | ⟨b2, pml, pmr, me, sml, smr, hml, hmr, rfl, -, hR2, tml, tmr, rfl, -⟩
    · omega
    have hc' : ¬ (hlr : Int) ≤ (hll : Int) := by omega
    have hz2 : sll.length + sml.length + smr.length + sr.length ≤ 1000000000000 := by simp only [List.length_append, List.length_cons] at hz1; omega
    unfold tnode at hR2
    go_enter Tryz.func385, Tryz.ntmps385
    go_upto_region 1 with fail
    generalize hW : World.alloc w _ = W
    have hb0 : Below w.heap.size w W := by rw [← hW]; exact below_alloc _ _
    have r4 : Row W w.heap.size 373 [.int .i64 e.1, .int .i64 e.2] := by rw [← hW]; exact Row.new' rfl
    have d0 := r4.cell_of (i := 0) rfl
    have d1 := r4.cell_of (i := 1) rfl
    have r1 := hR1.old hb0
    have c0 := r1.cell_of (i := 0) rfl
    have c1 := r1.cell_of (i := 1) rfl
    have c2 := r1.cell_of (i := 2) rfl
    have c3 := r1.cell_of (i := 3) rfl
    have r2 := hR2.old hb0
    have m0 := r2.cell_of (i := 0) rfl
    have m1 := r2.cell_of (i := 1) rfl
    have m2 := r2.cell_of (i := 2) rfl
    have m3 := r2.cell_of (i := 3) rfl
    have HB0 := hide hb0
    have HL := hide (tl.later hb0)
    have HM := hide (tr.later hb0)
    have HML := hide (tml.later hb0)
    have HMR := hide (tmr.later hb0)
    have HR := hide (q2.later hb0)
    have hlt := r4.lt
    clear hW hb0 r4 r1 r2 hR1 hR2 q1 q2 tl tr tml tmr
    go_upto_region 2 with fail
    go_wp2_with fail
    refine (tall_w HL.out).mono ?_
    rintro e' w2 ⟨rfl, rfl⟩
    go_wp2_with fail
    refine (tall_w HM.out).mono ?_
    rintro e' w2 ⟨rfl, rfl⟩
    go_upto_region 4 with fail
    refine rg0 (S := (fun w' => Below w2.heap.size w2 w' ∧ w'.cell? ⟨w.heap.size, 0, none⟩ = some (.int .i64 e.1) ∧ w'.cell? ⟨w.heap.size, 1, none⟩ = some (.int .i64 e.2) ∧ w'.cell? ⟨b1, 0, none⟩ = some (.int .i64 le.1) ∧ w'.cell? ⟨b1, 1, none⟩ = some (.int .i64 le.2) ∧ w'.cell? ⟨b1, 2, none⟩ = some (.pointer pll) ∧ w'.cell? ⟨b2, 0, none⟩ = some (.int .i64 me.1) ∧ w'.cell? ⟨b2, 1, none⟩ = some (.int .i64 me.2) ∧ w'.cell? ⟨b2, 2, none⟩ = some (.pointer pml) ∧ w'.cell? ⟨b2, 3, none⟩ = some (.pointer pmr))) 26 rfl (by kernel_rfl) ?_ (fun hHeld => ?_)
    · exact ⟨(Below.refl _ _).drew, d0, d1, c0, c1, c2, m0, m1, m2, m3⟩
    iterate 12 (refine tk 25 (by rfl) (by kernel_rfl) (by exact fun _ _ _ h => h) (.inl ⟨by rfl, fun w hS => by (try dsimp only at hS); go_simp; (try with_reducible rfl)⟩) (by assumption) ?_; try go_frame)
    iterate 10 (refine tk 26 (by rfl) (by kernel_rfl) (by exact fun _ _ _ h => h) (.inl ⟨by rfl, fun w hS => by (try dsimp only at hS); go_simp; (try with_reducible rfl)⟩) (by assumption) ?_; try go_frame)
    refine rd1 12 (by rfl) (by kernel_rfl) (fun K hK => ?_)
    go_simp
    refine (joined_w (I := I) (B := B) (HL.out.later hHeld.1) (HML.out.later hHeld.1) (by have := hHeld.1.size; omega) (by omega)).mono ?_
    rintro e' w5 ⟨b5, rfl, t5, hb5⟩
    go_wp2_with fail
    refine hK.out _ _ ?_ (fun hHeld => ?_)
    · exact keepT9 hb5 hHeld
    clear hK K
    (try go_frame)
    refine rd1 23 (by rfl) (by kernel_rfl) (fun K hK => ?_)
    go_simp
    refine (joined_w (I := I) (B := B) (HMR.out.later hHeld.1) (HR.out.later hHeld.1) (by have := hHeld.1.size; omega) (by omega)).mono ?_
    rintro e' w6 ⟨b6, rfl, t6, hb6⟩
    go_wp2_with fail
    refine hK.out _ _ ?_ (fun hHeld => ?_)
    · exact keepT9 hb6 hHeld
    clear hK K
    (try go_frame)
    refine rd1 24 (by rfl) (by kernel_rfl) (fun K hK => ?_)
    go_simp
    refine (joined_w (I := I) (B := B) (by first | exact t5 | exact t5.later hb6) (by first | exact t6 | exact t6.later hb5) (by have := hHeld.1.size; omega) (by simp only [List.length_append, List.length_cons]; omega)).mono ?_
    rintro e' w7 ⟨b7, rfl, t7, hb7⟩
    have HT := hide t7
    clear t7
    go_wp2_with fail
    refine hK.out _ _ ?_ (fun hHeld => ?_)
    · exact keepT9 hb7 hHeld
    clear hK K
    (try go_frame)
    iterate 1 (refine tk 25 (by rfl) (by kernel_rfl) (by exact fun _ _ _ h => h) (.inl ⟨by rfl, fun w hS => by (try dsimp only at hS); go_simp; (try with_reducible rfl)⟩) (by assumption) ?_; try go_frame)
    refine wpAnyH_done (by kernel_rfl) ?_ _
    go_wp2_with fail
    go_ret
    exact ⟨_, _, rfl, by have := HT.out; simpa using this, Below.next HB0.out hHeld.1 HB0.out.size⟩
end
end Go.Proofs.YtefjhnhdagolhaaGreat
