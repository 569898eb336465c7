import Derived.Test.YtefjhnhdagolhaaGreatQ05
import Derived.Test.YtefjhnhdagolhaaGreatQ11
import Derived.Test.YtefjhnhdagolhaaGreatQ10
namespace Go.Proofs.YtefjhnhdagolhaaGreat
open Go.RowKit
open M (upd upd_same upd_other RSt RTh)
def Grow (S : Nat → Prop) (w w' : World) : Nat → Prop := fun k => S k ∨ (w.heap.size ≤ k ∧ k < w'.heap.size)
def Lst (w : World) (v : Value) (l : List Nat) : Prop := w.ownsRow 0 3 1 v l.length (ints (l.map Int.ofNat))
theorem owns_block {w w' : World} {base : Nat} {e : TypeId} {size : Nat} {v : Value} {n : Nat} {xs : List Value} (h : w.ownsRow base e size v n xs) (hb : ∀ k, v.ownBlock = some k → w'.heap[k]? = w.heap[k]?) : w'.ownsRow base e size v n xs := by
  refine ⟨h.1, ?_⟩
  rcases h.2 with h2 | ⟨g, cap, cur, rfl, h3, h4, h5⟩
  · exact .inl h2
  · exact .inr ⟨g, cap, cur, rfl, h3, by rw [hb g rfl]; exact h4, h5⟩
theorem Lst.form {w : World} {v : Value} {l : List Nat} (h : Lst w v l) : ∃ a c, v = .slice a l.length c := by
  rcases h.2 with ⟨rfl, e⟩ | ⟨g, cap, cur, rfl, -⟩
  · exact ⟨none, 0, by rw [e]⟩
  · exact ⟨_, _, rfl⟩
theorem Lst.nil (w : World) : Lst w (.slice none 0 0) [] := World.ownsRow_nil _ _ _ _
theorem Lst.of_block {w w' : World} {v : Value} {l : List Nat} (h : Lst w v l) (hb : ∀ k, v.ownBlock = some k → w'.heap[k]? = w.heap[k]?) : Lst w' v l := owns_block h hb
def opcs (l : List M.Op) : List Value := l.flatMap fun o => [.int .i64 o.c, .int .i64 o.a, .int .i64 o.b]
theorem opcs_append (l m : List M.Op) : opcs (l ++ m) = opcs l ++ opcs m := by simp [opcs]
theorem opcs_get (l : List M.Op) (i : Nat) (hi : i < l.length) : (opcs l)[i * 3]? = some (.int .i64 (l[i]).c) ∧ (opcs l)[i * 3 + 1]? = some (.int .i64 (l[i]).a) ∧ (opcs l)[i * 3 + 2]? = some (.int .i64 (l[i]).b) := by
  induction l generalizing i with
  | nil => exact absurd hi (Nat.not_lt_zero _)
  | cons a l ih =>
    cases i with
    | zero => exact ⟨rfl, rfl, rfl⟩
    | succ i =>
      have := ih i (by simpa using hi)
      have e : opcs (a :: l) = .int .i64 a.c :: .int .i64 a.a :: .int .i64 a.b :: opcs l := by simp [opcs]
      rw [e, show (i + 1) * 3 = i * 3 + 1 + 1 + 1 by omega, show i * 3 + 1 + 1 + 1 + 1 = i * 3 + 1 + 1 + 1 + 1 from rfl, show i * 3 + 1 + 1 + 1 + 2 = i * 3 + 2 + 1 + 1 + 1 by omega]
      simp only [List.getElem?_cons_succ, List.getElem_cons_succ]
      exact this
structure DL where
  b : Nat
  n : Nat
  cap : Nat
  g : Nat
  gc : Nat
  bT : Nat → Nat
  bF : Nat → Nat
  kind : Int
  st : Int
  co : Int
  vn : Value
  vo : Value
  nx : List Int
  ou : List Int
def TabAt (L : DL) (S : Nat → Prop) (w : World) (lab : Nat → Nat) : Prop :=
  ∃ g1 g2, L.vn = .slice (some ⟨g1, 0, none⟩) L.nx.length L.nx.length ∧ L.vo = .slice (some ⟨g2, 0, none⟩) L.ou.length L.ou.length ∧ Row w g1 3 (ints L.nx) ∧ Row w g2 3 (ints L.ou) ∧ (S g1 ∧ lab g1 = 7) ∧ S g2 ∧ lab g2 = 7
theorem TabAt.stay {L : DL} {S S' : Nat → Prop} {w w' : World} {lab lab' : Nat → Nat} (h : TabAt L S w lab) (hk : ∀ k, S k → lab k = 7 → w'.heap[k]? = w.heap[k]?) (hS : ∀ k, S k → S' k ∧ lab' k = lab k) : TabAt L S' w' lab' :=
  let ⟨g1, g2, h1, h2, h3, h4, h5, h6⟩ := h
  ⟨g1, g2, h1, h2, h3.of_block (hk _ h5.1 h5.2), h4.of_block (hk _ h6.1 h6.2), ⟨(hS _ h5.1).1, (hS _ h5.1).2.trans h5.2⟩, (hS _ h6.1).1, (hS _ h6.1).2.trans h6.2⟩
def dth (x : RTh) (bF n : Nat) (vo vp : Value) : List Value :=
  [vo, .int .i64 (x.ended : Int), .int .i64 (x.flips : Int), .int .i64 (x.part : Int), .int .i64 (x.left : Int), .int .i64 (x.backoff : Int), .int .i64 (x.tries : Int), .int .i64 (x.stamp : Int), .slice (some ⟨bF, 0, none⟩) n n, vp]
def dob (L : DL) (vb : Value) : List Value := ccs L.kind L.n L.cap L.st L.co L.vn L.vo ++ [.slice (some ⟨L.g, 0, none⟩) L.n L.gc, vb]
structure DR (L : DL) (S : Nat → Prop) (Y : RSt) (w : World) (lab : Nat → Nat) (vo vp : Nat → Value) (vb : Value) (bv : Nat → Value) : Prop where
  n1 : 1 ≤ L.n
  n64 : L.n ≤ 64
  c64 : L.cap ≤ 64
  obj : Row w L.b 105 (dob L vb)
  obL : S L.b ∧ lab L.b = 0
  ptr : ∀ t, t < L.n → w.cell? ⟨L.g, t, none⟩ = some (.pointer (some ⟨L.bT t, 0, none⟩))
  ptL : S L.g ∧ lab L.g = 1
  th : ∀ t, t < L.n → Row w (L.bT t) 109 (dth (Y.th t) (L.bF t) L.n (vo t) (vp t))
  thL : ∀ t, t < L.n → S (L.bT t) ∧ lab (L.bT t) = 4 * t + 4
  fl : ∀ t, t < L.n → Fn w (L.bF t) 3 L.n (fun k => .int .i64 ((Y.th t).flipped k : Int))
  flL : ∀ t, t < L.n → S (L.bF t) ∧ lab (L.bF t) = 4 * t + 5
  ops : ∀ t, t < L.n → w.ownsRow 0 36 3 (vo t) (Y.th t).ops.length (opcs (Y.th t).ops)
  opL : ∀ t, t < L.n → ∀ k, (vo t).ownBlock = some k → S k ∧ lab k = 4 * t + 6
  bat : w.ownsRow 0 22 1 vb Y.bs.length ((List.range Y.bs.length).map bv)
  baL : ∀ k, vb.ownBlock = some k → S k ∧ lab k = 2
  bts : ∀ i (h : i < Y.bs.length), Lst w (bv i) (Y.bs[i])
  btL : ∀ i, i < Y.bs.length → ∀ k, (bv i).ownBlock = some k → S k ∧ lab k = 3
  pnd : ∀ t, t < L.n → Lst w (vp t) (Y.th t).pend
  pnL : ∀ t, t < L.n → ∀ k, (vp t).ownBlock = some k → S k ∧ lab k = 3
  lt : ∀ k, S k → k < w.heap.size
  au : L.kind = 5 → TabAt L S w lab
section
variable {L : DL} {S S' : Nat → Prop} {Y : RSt} {w w' : World} {lab lab' : Nat → Nat} {vo vp : Nat → Value} {vb : Value} {bv : Nat → Value} {t : Nat}
theorem ptr_block {b o : Nat} {v : Value} (h : w.cell? ⟨b, o, none⟩ = some v) (e : w'.heap[b]? = w.heap[b]?) : w'.cell? ⟨b, o, none⟩ = some v := by rw [World.cell?_of_block (w := w) e]; exact h
theorem DR.stay (h : DR L S Y w lab vo vp vb bv) (hk : ∀ k, S k → w'.heap[k]? = w.heap[k]?) (hS : ∀ k, S k → S' k) (hlt : ∀ k, S' k → k < w'.heap.size) : DR L S' Y w' lab vo vp vb bv where
  n1 := h.n1
  n64 := h.n64
  c64 := h.c64
  obj := h.obj.of_block (hk _ h.obL.1)
  obL := ⟨hS _ h.obL.1, h.obL.2⟩
  ptr t ht := ptr_block (h.ptr t ht) (hk _ h.ptL.1)
  ptL := ⟨hS _ h.ptL.1, h.ptL.2⟩
  th t ht := (h.th t ht).of_block (hk _ (h.thL t ht).1)
  thL t ht := ⟨hS _ (h.thL t ht).1, (h.thL t ht).2⟩
  fl t ht := (h.fl t ht).of_block (hk _ (h.flL t ht).1)
  flL t ht := ⟨hS _ (h.flL t ht).1, (h.flL t ht).2⟩
  ops t ht := owns_block (h.ops t ht) fun k e => hk k (h.opL t ht k e).1
  opL t ht k e := ⟨hS _ (h.opL t ht k e).1, (h.opL t ht k e).2⟩
  bat := owns_block h.bat fun k e => hk k (h.baL k e).1
  baL k e := ⟨hS _ (h.baL k e).1, (h.baL k e).2⟩
  bts i hi := (h.bts i hi).of_block fun k e => hk k (h.btL i hi k e).1
  btL i hi k e := ⟨hS _ (h.btL i hi k e).1, (h.btL i hi k e).2⟩
  pnd t ht := (h.pnd t ht).of_block fun k e => hk k (h.pnL t ht k e).1
  pnL t ht k e := ⟨hS _ (h.pnL t ht k e).1, (h.pnL t ht k e).2⟩
  lt := hlt
  au q := (h.au q).stay (fun k hk1 _ => hk k hk1) (fun k hk1 => ⟨hS k hk1, rfl⟩)
theorem DR.move (h : DR L S Y w lab vo vp vb bv) (ht : t < L.n) {x' : RTh} {bs' : List (List Nat)} {vo' vp' vb' : Value} {bv' : Nat → Value}
    (hk : ∀ k, S k → lab k ≠ 0 → lab k ≠ 2 → lab k ≠ 4 * t + 4 → lab k ≠ 4 * t + 5 → lab k ≠ 4 * t + 6 → w'.heap[k]? = w.heap[k]?) (hS : ∀ k, S k → S' k ∧ lab' k = lab k) (hlt : ∀ k, S' k → k < w'.heap.size)
    (hobj : Row w' L.b 105 (dob L vb')) (hth : Row w' (L.bT t) 109 (dth x' (L.bF t) L.n vo' vp')) (hfl : Fn w' (L.bF t) 3 L.n (fun k => .int .i64 (x'.flipped k : Int)))
    (hop : w'.ownsRow 0 36 3 vo' x'.ops.length (opcs x'.ops)) (hoL : ∀ k, vo'.ownBlock = some k → S' k ∧ lab' k = 4 * t + 6)
    (hba : w'.ownsRow 0 22 1 vb' bs'.length ((List.range bs'.length).map bv')) (hbL : ∀ k, vb'.ownBlock = some k → S' k ∧ lab' k = 2)
    (hbt : ∀ i (hi : i < bs'.length), Lst w' (bv' i) (bs'[i])) (hbtL : ∀ i, i < bs'.length → ∀ k, (bv' i).ownBlock = some k → S' k ∧ lab' k = 3)
    (hp : Lst w' vp' x'.pend) (hpL : ∀ k, vp'.ownBlock = some k → S' k ∧ lab' k = 3) : DR L S' ⟨upd Y.th t x', bs'⟩ w' lab' (upd vo t vo') (upd vp t vp') vb' bv' where
  n1 := h.n1
  n64 := h.n64
  c64 := h.c64
  obj := hobj
  obL := ⟨(hS _ h.obL.1).1, (hS _ h.obL.1).2.trans h.obL.2⟩
  ptr u hu := ptr_block (h.ptr u hu) (hk _ h.ptL.1 (by rw [h.ptL.2]; omega) (by rw [h.ptL.2]; omega) (by rw [h.ptL.2]; omega) (by rw [h.ptL.2]; omega) (by rw [h.ptL.2]; omega))
  ptL := ⟨(hS _ h.ptL.1).1, (hS _ h.ptL.1).2.trans h.ptL.2⟩
  th u hu := by
    by_cases e : u = t
    · subst e; simp only [upd_same]; exact hth
    · simp only [upd_other _ _ e]
      have q := h.thL u hu
      exact (h.th u hu).of_block (hk _ q.1 (by omega) (by omega) (by omega) (by omega) (by omega))
  thL u hu := ⟨(hS _ (h.thL u hu).1).1, (hS _ (h.thL u hu).1).2.trans (h.thL u hu).2⟩
  fl u hu := by
    by_cases e : u = t
    · subst e; simp only [upd_same]; exact hfl
    · simp only [upd_other _ _ e]
      have q := h.flL u hu
      exact (h.fl u hu).of_block (hk _ q.1 (by omega) (by omega) (by omega) (by omega) (by omega))
  flL u hu := ⟨(hS _ (h.flL u hu).1).1, (hS _ (h.flL u hu).1).2.trans (h.flL u hu).2⟩
  ops u hu := by
    by_cases e : u = t
    · subst e; simp only [upd_same]; exact hop
    · simp only [upd_other _ _ e]
      refine owns_block (h.ops u hu) fun k ek => ?_
      have q := h.opL u hu k ek
      exact hk _ q.1 (by omega) (by omega) (by omega) (by omega) (by omega)
  opL u hu k := by
    by_cases e : u = t
    · subst e; simp only [upd_same]; exact hoL k
    · simp only [upd_other _ _ e]
      intro ek
      have q := h.opL u hu k ek
      exact ⟨(hS _ q.1).1, (hS _ q.1).2.trans q.2⟩
  bat := hba
  baL := hbL
  bts := hbt
  btL := hbtL
  pnd u hu := by
    by_cases e : u = t
    · subst e; simp only [upd_same]; exact hp
    · simp only [upd_other _ _ e]
      refine (h.pnd u hu).of_block fun k ek => ?_
      have q := h.pnL u hu k ek
      exact hk _ q.1 (by omega) (by omega) (by omega) (by omega) (by omega)
  pnL u hu k := by
    by_cases e : u = t
    · subst e; simp only [upd_same]; exact hpL k
    · simp only [upd_other _ _ e]
      intro ek
      have q := h.pnL u hu k ek
      exact ⟨(hS _ q.1).1, (hS _ q.1).2.trans q.2⟩
  lt := hlt
  au q := (h.au q).stay (fun k hk1 q7 => hk k hk1 (by omega) (by omega) (by omega) (by omega) (by omega)) hS
theorem upd_id {α : Type} (f : Nat → α) (t : Nat) (v : α) (e : f t = v) : upd f t v = f := by
  funext k
  by_cases q : k = t
  · subst q; rw [upd_same, e]
  · rw [upd_other _ _ q]
theorem DR.thread (h : DR L S Y w lab vo vp vb bv) (ht : t < L.n) {x' : RTh} (hk : ∀ k, k ≠ L.bT t → w'.heap[k]? = w.heap[k]?) (hz : w'.heap.size = w.heap.size)
    (hth : Row w' (L.bT t) 109 (dth x' (L.bF t) L.n (vo t) (vp t))) (h1 : x'.ops = (Y.th t).ops) (h2 : x'.flipped = (Y.th t).flipped) (h3 : x'.pend = (Y.th t).pend) : DR L S (Y.set t x') w' lab vo vp vb bv := by
  have q := h.thL t ht
  have hne : ∀ k, S k → lab k ≠ 4 * t + 4 → w'.heap[k]? = w.heap[k]? := fun k _ hl => hk k fun e => hl (by rw [e, q.2])
  have := DR.move (S' := S) (lab' := lab) (bv' := bv) (bs' := Y.bs) h ht (fun k hS _ _ h4 _ _ => hne k hS h4) (fun k hS => ⟨hS, rfl⟩) (fun k hS => by rw [hz]; exact h.lt k hS) (h.obj.of_block (hne _ h.obL.1 (by rw [h.obL.2]; omega))) hth
    (by rw [h2]; exact (h.fl t ht).of_block (hne _ (h.flL t ht).1 (by rw [(h.flL t ht).2]; omega)))
    (by rw [h1]; exact owns_block (h.ops t ht) fun k e => hne k (h.opL t ht k e).1 (by rw [(h.opL t ht k e).2]; omega)) (h.opL t ht)
    (owns_block h.bat fun k e => hne k (h.baL k e).1 (by rw [(h.baL k e).2]; omega)) h.baL
    (fun i hi => (h.bts i hi).of_block fun k e => hne k (h.btL i hi k e).1 (by rw [(h.btL i hi k e).2]; omega)) h.btL
    (by rw [h3]; exact (h.pnd t ht).of_block fun k e => hne k (h.pnL t ht k e).1 (by rw [(h.pnL t ht k e).2]; omega)) (h.pnL t ht)
  rw [upd_id vo t _ rfl, upd_id vp t _ rfl] at this
  exact this
end
def Doc (L : DL) (S : Nat → Prop) (Y : RSt) (w : World) : Prop := ∃ lab vo vp vb bv, DR L S Y w lab vo vp vb bv
section
variable {L : DL} {S S' : Nat → Prop} {Y Y' Y'' : RSt} {w w' w1 w2 : World}
theorem Doc.stay (h : Doc L S Y w) (hk : ∀ k, S k → w'.heap[k]? = w.heap[k]?) (hS : ∀ k, S k → S' k) (hlt : ∀ k, S' k → k < w'.heap.size) : Doc L S' Y w' := by
  obtain ⟨lab, vo, vp, vb, bv, q⟩ := h
  exact ⟨lab, vo, vp, vb, bv, q.stay hk hS hlt⟩
theorem Doc.lt (h : Doc L S Y w) : ∀ k, S k → k < w.heap.size := by obtain ⟨lab, vo, vp, vb, bv, q⟩ := h; exact q.lt
structure DLeft (L : DL) (S : Nat → Prop) (w : World) (Y' : RSt) (w' : World) : Prop where
  doc : Doc L (Grow S w w') Y' w'
  fr : Fr S w w'
theorem Doc.grow (h : Doc L S Y w) (hb : Below w.heap.size w w') : Doc L (Grow S w w') Y w' :=
  h.stay (fun k hS => hb.block k (h.lt k hS)) (fun _ => .inl) fun k hk => by
    rcases hk with hk | hk
    · exact Nat.lt_of_lt_of_le (h.lt k hk) hb.size
    · exact hk.2
theorem DLeft.below (h : Doc L S Y w) (hb : Below w.heap.size w w') : DLeft L S w Y w' := ⟨h.grow hb, Fr.of_below hb⟩
theorem DLeft.of (h : Doc L S Y' w') (hf : Fr S w w') : DLeft L S w Y' w' := by
  refine ⟨h.stay (fun _ _ => rfl) (fun _ => .inl) fun k hk => ?_, hf⟩
  rcases hk with hk | hk
  · exact h.lt k hk
  · exact hk.2
theorem Fr.grow {own own' : Nat → Prop} (h : Fr own w w1) (h' : Fr own' w1 w2) (hs : ∀ k, own' k → own k ∨ w.heap.size ≤ k) : Fr own w w2 :=
  ⟨h'.os.trans h.os, h'.tape.trans h.tape, h'.output.trans h.output, Nat.le_trans h.size h'.size, fun k hk ho => (h'.block k (Nat.lt_of_lt_of_le hk h.size) (fun c => by rcases hs k c with q | q; exact ho q; omega)).trans (h.block k hk ho)⟩
theorem DLeft.next (h : DLeft L S w Y' w1) (h' : DLeft L (Grow S w w1) w1 Y'' w2) : DLeft L S w Y'' w2 := by
  refine ⟨h'.doc.stay (fun _ _ => rfl) (fun k hk => ?_) (fun k hk => ?_), h.fr.grow h'.fr fun k hk => ?_⟩
  · rcases hk with (hk | hk) | hk
    · exact .inl hk
    · exact .inr ⟨hk.1, Nat.lt_of_lt_of_le hk.2 h'.fr.size⟩
    · exact .inr ⟨Nat.le_trans h.fr.size hk.1, hk.2⟩
  · rcases hk with hk | hk
    · exact h'.doc.lt k (.inl (.inl hk))
    · exact hk.2
  · rcases hk with hk | hk
    · exact .inl hk
    · exact .inr hk.1
theorem DLeft.cast (h : DLeft L S w Y' w1) (e : Y' = Y'') : DLeft L S w Y'' w1 := e ▸ h
theorem set_set (Y : RSt) (t : Nat) (a b : RTh) : (Y.set t a).set t b = Y.set t b := by
  unfold M.RSt.set
  congr 1
  funext k
  by_cases e : k = t
  · subst e; simp [upd_same]
  · simp [upd_other _ _ e]
theorem set_th (Y : RSt) (t : Nat) (a : RTh) : (Y.set t a).th t = a := by simp [M.RSt.set, upd_same]
end
end Go.Proofs.YtefjhnhdagolhaaGreat
namespace Go.Proofs.YtefjhnhdagolhaaGreat
open Go.RowKit
open M (upd upd_same upd_other RSt RTh)
attribute [local go_sem ↓] Go.wp_at_zero Go.wp_at_succ
section
variable {b n bT : Nat} (w : World)
set_option maxHeartbeats 400000 in
theorem docWords (c1 : w.cell? ⟨b, 1, none⟩ = some (.int .i64 (n : Int))) (_h2 : n ≤ 64) :
    Calls Tryz.prog 86 #[.pointer (some ⟨b, 0, none⟩)] w fun e w' => e = .returned (.int .i64 (M.tw n : Int)) ∧ w' = w := by
  go_enter Tryz.func86, Tryz.ntmps86
  go_wp2
  go_ret
  exact ⟨by unfold M.tw; rfl, rfl⟩
set_option maxHeartbeats 400000 in
theorem docParts (c1 : w.cell? ⟨b, 1, none⟩ = some (.int .i64 (n : Int))) (_h2 : n ≤ 64) :
    Calls Tryz.prog 109 #[.pointer (some ⟨b, 0, none⟩)] w fun e w' => e = .returned (.int .i64 ((M.wds n + 1 : Nat) : Int)) ∧ ∃ k, w' = w.drewN k := by
  have HC := hide (fun k => show (w.drewN k).cell? ⟨b, 1, none⟩ = some (.int .i64 (n : Int)) from c1)
  have htw : M.tw n ≤ 4 := by unfold M.tw; omega
  have hq : (M.wds n + 1 : Nat) = M.tw n + 2 * n + 1 := rfl
  have HQ := hide hq
  have HW := hide (fun k => docWords (w.drewN k) (HC.out k) _h2)
  clear hq
  generalize M.tw n = a at *
  go_enter Tryz.func109, Tryz.ntmps109
  go_wp2
  go_quiet ((go_at_call 86; exact Calls.quiet_of_same (HW.out _)))
  go_wp2
  go_ret
  exact ⟨by rw [HQ.out]; first | rfl | (push_cast; rfl), _, rfl⟩
set_option maxHeartbeats 2000000 in
theorem docLength (x : RTh) (a : Option Addr) (c p : Nat) (c1 : w.cell? ⟨b, 1, none⟩ = some (.int .i64 (n : Int))) (c5 : w.cell? ⟨bT, 5, none⟩ = some (.int .i64 (x.backoff : Int))) (c9 : w.cell? ⟨bT, 9, none⟩ = some (.slice a x.pend.length c)) (_h2 : n ≤ 64) (_hl : 8 ≤ p → p ≤ 10 → x.pend.length ≤ 64) (h1 : 1 ≤ p) (h11 : p ≤ 11) :
    Calls Tryz.prog 142 #[.pointer (some ⟨b, 0, none⟩), .pointer (some ⟨bT, 0, none⟩), .int .i64 (p : Int)] w fun e w' => e = .returned (.int .i64 (x.len n p : Int)) ∧ ∃ k, w' = w.drewN k := by
  have HC := hide c1
  rcases M.eleven h1 h11 with rfl | rfl | rfl | rfl | rfl | rfl | rfl | rfl | rfl | rfl | rfl
  case' inr.inr.inr.inr.inl | inr.inr.inr.inr.inr.inr.inr.inr.inl =>
    go_enter Tryz.func142, Tryz.ntmps142
    go_wp2_with fail
    refine (docParts _ HC.out _h2).mono ?_
    rintro e w1 ⟨rfl, k, rfl⟩
    go_wp2_with fail
    go_ret
    exact ⟨rfl, _, rfl⟩
  case' inr.inr.inr.inr.inr.inl =>
    go_enter Tryz.func142, Tryz.ntmps142
    go_wp2_with fail
    refine (docWords _ HC.out _h2).mono ?_
    rintro e w1 ⟨rfl, rfl⟩
    go_wp2_with fail
    go_ret
    exact ⟨rfl, 0, rfl⟩
  case' inr.inr.inr.inr.inr.inr.inr.inl =>
    have hl := _hl (by decide) (by decide)
    go_enter Tryz.func142, Tryz.ntmps142
    go_wp2
    go_ret
    exact ⟨by simp [RTh.len], 0, rfl⟩
  all_goals
    go_enter Tryz.func142, Tryz.ntmps142
    go_wp2
    go_ret
    exact ⟨by simp [RTh.len], 0, rfl⟩
end
end Go.Proofs.YtefjhnhdagolhaaGreat
namespace Go.Proofs.YtefjhnhdagolhaaGreat
open Go.RowKit
open M (upd upd_same upd_other RSt RTh)
attribute [local go_sem ↓] Go.wp_at_zero Go.wp_at_succ
section
variable {L : DL} {S : Nat → Prop} {Y : RSt} {w : World} {lab : Nat → Nat} {vo vp : Nat → Value} {vb : Value} {bv : Nat → Value} {t : Nat}
theorem DR.ne (h : DR L S Y w lab vo vp vb bv) (ht : t < L.n) : L.b ≠ L.bT t := by
  intro e
  have h1 := h.obL.2
  have h2 := (h.thL t ht).2
  rw [e] at h1
  omega
theorem DR.tcell (h : DR L S Y w lab vo vp vb bv) (ht : t < L.n) {j : Nat} {v : Value} (hj : (dth (Y.th t) (L.bF t) L.n (vo t) (vp t))[j]? = some v) : w.cell? ⟨L.bT t, j, none⟩ = some v := (h.th t ht).cell_of hj
theorem DR.ocell (h : DR L S Y w lab vo vp vb bv) {j : Nat} {v : Value} (hj : (dob L vb)[j]? = some v) : w.cell? ⟨L.b, j, none⟩ = some v := h.obj.cell_of hj
theorem DR.drewN (h : DR L S Y w lab vo vp vb bv) (k : Nat) : DR L S Y (w.drewN k) lab vo vp vb bv := h.stay (fun _ _ => rfl) (fun _ h => h) h.lt
theorem Fr.here {own : Nat → Prop} {w w' : World} (h : Fr own w w') {b : Nat} (hb : own b) (o : Nat) (v : Value) : Fr own w (w'.setCell ⟨b, o, none⟩ v) := h.trans (Fr.set w' hb v)
structure TLeft (L : DL) (S : Nat → Prop) (Y' : RSt) (lab : Nat → Nat) (vo vp : Nat → Value) (vb : Value) (bv : Nat → Value) (w w' : World) : Prop where
  dr : DR L S Y' w' lab vo vp vb bv
  fr : Fr S w w'
  size : w'.heap.size = w.heap.size
theorem TLeft.next {Y' Y'' : RSt} {w1 w2 : World} (h : TLeft L S Y' lab vo vp vb bv w w1) (h' : TLeft L S Y'' lab vo vp vb bv w1 w2) : TLeft L S Y'' lab vo vp vb bv w w2 := ⟨h'.dr, h.fr.trans h'.fr, h'.size.trans h.size⟩
theorem TLeft.cast {Y' Y'' : RSt} {w1 : World} (h : TLeft L S Y' lab vo vp vb bv w w1) (e : Y' = Y'') : TLeft L S Y'' lab vo vp vb bv w w1 := e ▸ h
theorem TLeft.refl (h : DR L S Y w lab vo vp vb bv) (k : Nat) : TLeft L S Y lab vo vp vb bv w (w.drewN k) := ⟨h.drewN k, ⟨rfl, rfl, rfl, Nat.le_refl _, fun _ _ _ => rfl⟩, rfl⟩
theorem DR.put (h : DR L S Y w lab vo vp vb bv) (ht : t < L.n) (j : Nat) (v : Value) {x' : RTh} (e : (dth (Y.th t) (L.bF t) L.n (vo t) (vp t)).set j v = dth x' (L.bF t) L.n (vo t) (vp t)) (h1 : x'.ops = (Y.th t).ops) (h2 : x'.flipped = (Y.th t).flipped) (h3 : x'.pend = (Y.th t).pend) : TLeft L S (Y.set t x') lab vo vp vb bv w (w.setCell ⟨L.bT t, j, none⟩ v) := by
  refine ⟨DR.thread h ht (fun k hk => Below.heap_setCell w _ v k hk) (by simp [World.setCell]) ?_ h1 h2 h3, Fr.set w (h.thL t ht).1 v, by simp [World.setCell]⟩
  have := (h.th t ht).set j v
  rw [e] at this
  exact this
set_option maxHeartbeats 1000000 in
theorem docEnter_pos (h : DR L S Y w lab vo vp vb bv) (ht : t < L.n) (p : Nat) (h1 : 1 ≤ p) (h11 : p ≤ 11) (hl : 8 ≤ p → p ≤ 10 → (Y.th t).pend.length ≤ 64) (h0 : (Y.th t).len L.n p ≠ 0) :
    Calls Tryz.prog 112 #[.pointer (some ⟨L.b, 0, none⟩), .pointer (some ⟨L.bT t, 0, none⟩), .int .i64 (p : Int)] w fun e w' => e = .returned (.tuple #[]) ∧ TLeft L S (Y.set t { Y.th t with part := p, left := (Y.th t).len L.n p }) lab vo vp vb bv w w' := by
  obtain ⟨a, c, ep⟩ := (h.pnd t ht).form
  have hn := h.n64
  have c3 : w.cell? ⟨L.bT t, 3, none⟩ = some _ := h.tcell ht rfl
  have f3 := (h.th t ht).frozen 3
  have H1 := hide (h.put ht 3 (.int .i64 (p : Int)) (x' := { Y.th t with part := p }) rfl rfl rfl rfl)
  have HH := hide h
  clear h
  go_enter Tryz.func112, Tryz.ntmps112
  go_wp2_with fail
  generalize hW : World.setCell w _ _ = W1 at *
  have q := H1.out.dr
  have HL := hide (docLength (b := L.b) (n := L.n) (bT := L.bT t) W1 (Y.th t) a c p (q.ocell rfl) (by have := q.tcell ht (j := 5) rfl; rw [set_th] at this; exact this) (by have := q.tcell ht (j := 9) rfl; rw [ep] at this; exact this) hn hl h1 h11)
  have H2 := hide (fun k => (q.drewN k).put ht 4 (.int .i64 ((Y.th t).len L.n p : Int)) (x' := { Y.th t with part := p, left := (Y.th t).len L.n p }) (by rw [set_th]; rfl) (by rw [set_th]) (by rw [set_th]) (by rw [set_th]))
  have c4 : ∀ k, (W1.drewN k).cell? ⟨L.bT t, 4, none⟩ = some _ := fun k => q.tcell ht (j := 4) rfl
  have f4 : ∀ k, (W1.drewN k).frozen? ⟨L.bT t, 4, none⟩ = false := fun k => (q.th t ht).frozen 4
  clear q c3 f3 hW
  refine HL.out.mono ?_
  rintro e w1 ⟨rfl, k, rfl⟩
  have c4' := c4 k
  have f4' := f4 k
  have hz : ¬ ((Y.th t).len L.n p : Int) = 0 := by omega
  have H3 := hide (H1.out.next (TLeft.next (TLeft.refl H1.out.dr k) ((H2.out k).cast (set_set _ _ _ _))))
  clear c4 f4 H1 H2 HL
  generalize W1.drewN k = W2 at *
  go_wp2_with fail
  exact bodyPost_end (v := .tuple #[]) (by simp [results, Tryz.results112, go_sem]) rfl ⟨rfl, H3.out⟩
set_option maxHeartbeats 1000000 in
theorem docEnter_zero (h : DR L S Y w lab vo vp vb bv) (ht : t < L.n) (p : Nat) (h1 : p = 3 ∨ p = 8) (h0 : (Y.th t).len L.n p = 0) :
    Calls Tryz.prog 112 #[.pointer (some ⟨L.b, 0, none⟩), .pointer (some ⟨L.bT t, 0, none⟩), .int .i64 (p : Int)] w fun e w' => e = .returned (.tuple #[]) ∧ TLeft L S (Y.set t { Y.th t with part := p + 1, left := (Y.th t).len L.n (p + 1) }) lab vo vp vb bv w w' := by
  obtain ⟨a, c, ep⟩ := (h.pnd t ht).form
  have hn := h.n64
  have hn1 := h.n1
  have hl8 : 8 ≤ p → p ≤ 10 → (Y.th t).pend.length ≤ 64 := by
    intro q _
    have : p = 8 := by omega
    subst this
    simp [RTh.len] at h0
    omega
  have hl9 : 8 ≤ p + 1 → p + 1 ≤ 10 → (Y.th t).pend.length ≤ 64 := fun _ _ => hl8 (by omega) (by omega)
  have hpos : (Y.th t).len L.n (p + 1) ≠ 0 := fun q => by have := M.len_zero (by omega) q; omega
  have c3 : w.cell? ⟨L.bT t, 3, none⟩ = some _ := h.tcell ht rfl
  have f3 := (h.th t ht).frozen 3
  have H1 := hide (h.put ht 3 (.int .i64 (p : Int)) (x' := { Y.th t with part := p }) rfl rfl rfl rfl)
  have HH := hide h
  clear h
  go_enter Tryz.func112, Tryz.ntmps112
  go_wp2_with fail
  generalize hW : World.setCell w _ _ = W1 at *
  have q := H1.out.dr
  have HL := hide (docLength (b := L.b) (n := L.n) (bT := L.bT t) W1 (Y.th t) a c p (q.ocell rfl) (by have := q.tcell ht (j := 5) rfl; rw [set_th] at this; exact this) (by have := q.tcell ht (j := 9) rfl; rw [ep] at this; exact this) hn hl8 (by omega) (by omega))
  rw [h0] at HL
  have H2 := hide (fun k => (q.drewN k).put ht 4 (.int .i64 ((0 : Nat) : Int)) (x' := { Y.th t with part := p, left := 0 }) (by rw [set_th]; rfl) (by rw [set_th]) (by rw [set_th]) (by rw [set_th]))
  have c4 : ∀ k, (W1.drewN k).cell? ⟨L.bT t, 4, none⟩ = some _ := fun k => q.tcell ht (j := 4) rfl
  have f4 : ∀ k, (W1.drewN k).frozen? ⟨L.bT t, 4, none⟩ = false := fun k => (q.th t ht).frozen 4
  clear q c3 f3 hW
  refine HL.out.mono ?_
  rintro e w1 ⟨rfl, k, rfl⟩
  have c4' := c4 k
  have f4' := f4 k
  have H3 := hide (H1.out.next (TLeft.next (TLeft.refl H1.out.dr k) ((H2.out k).cast (set_set _ _ _ _))))
  clear c4 f4 H1 H2 HL
  generalize W1.drewN k = W2 at *
  have H3' : Hid (TLeft L S (Y.set t { Y.th t with part := p, left := 0 }) lab vo vp vb bv w (W2.setCell ⟨L.bT t, 4, none⟩ (.int .i64 0))) := H3
  clear H3
  go_wp2_with fail
  have hq := docEnter_pos H3'.out.dr ht (p + 1) (by omega) (by omega) (by rw [set_th]; exact hl9) (by rw [set_th]; exact hpos)
  refine Calls.mono (by first | exact hq | (rw [show ((p + 1 : Nat) : Int) = (p : Int) + 1 from by push_cast; rfl] at hq; exact hq)) ?_
  rintro e w3 ⟨rfl, h3⟩
  have H4 := hide (H3'.out.next (h3.cast (by rw [set_th, set_set])))
  go_wp2_with fail
  exact bodyPost_end (v := .tuple #[]) (by simp [results, Tryz.results112, go_sem]) rfl ⟨rfl, H4.out⟩
theorem docEnter (h : DR L S Y w lab vo vp vb bv) (ht : t < L.n) (p : Nat) (h1 : 1 ≤ p) (h11 : p ≤ 11) (hl : 8 ≤ p → p ≤ 10 → (Y.th t).pend.length ≤ 64) :
    Calls Tryz.prog 112 #[.pointer (some ⟨L.b, 0, none⟩), .pointer (some ⟨L.bT t, 0, none⟩), .int .i64 (p : Int)] w fun e w' => e = .returned (.tuple #[]) ∧ TLeft L S (Y.set t ((Y.th t).enter L.n p)) lab vo vp vb bv w w' := by
  by_cases q : (Y.th t).len L.n p = 0
  · have : (Y.th t).enter L.n p = { Y.th t with part := p + 1, left := (Y.th t).len L.n (p + 1) } := by unfold RTh.enter; rw [if_pos q]
    rw [this]
    exact docEnter_zero h ht p (M.len_zero (Nat.lt_of_lt_of_le (by decide) h.n1) q) q
  · have : (Y.th t).enter L.n p = { Y.th t with part := p, left := (Y.th t).len L.n p } := by unfold RTh.enter; rw [if_neg q]
    rw [this]
    exact docEnter_pos h ht p h1 h11 hl q
end
end Go.Proofs.YtefjhnhdagolhaaGreat
namespace Go.Proofs.YtefjhnhdagolhaaGreat
open Go.RowKit
open M (upd upd_same upd_other RSt RTh)
attribute [local go_sem ↓] Go.wp_at_zero Go.wp_at_succ
section
variable {L : DL} {S : Nat → Prop} {Y : RSt} {w : World} {lab : Nat → Nat} {vo vp : Nat → Value} {vb : Value} {bv : Nat → Value} {t : Nat}
set_option maxRecDepth 20000 in
set_option maxHeartbeats 2000000 in
theorem docFail (h : DR L S Y w lab vo vp vb bv) (ht : t < L.n) (hb : (Y.th t).backoff ≤ L.cap) :
    Calls Tryz.prog 110 #[.pointer (some ⟨L.b, 0, none⟩), .pointer (some ⟨L.bT t, 0, none⟩)] w fun e w' => e = .returned (.tuple #[]) ∧ TLeft L S (Y.set t ((Y.th t).fail L.n L.cap)) lab vo vp vb bv w w' := by
  have hc := h.c64
  have c5 : w.cell? ⟨L.bT t, 5, none⟩ = some (.int .i64 ((Y.th t).backoff : Int)) := h.tcell ht rfl
  have f5 := (h.th t ht).frozen 5
  have H1 := hide (h.put ht 5 (.int .i64 ((2 * (Y.th t).backoff + 1 : Nat) : Int)) (x' := { Y.th t with backoff := 2 * (Y.th t).backoff + 1 }) rfl rfl rfl rfl)
  have HW := hide (show (((2 * (Y.th t).backoff + 1 : Nat) : Int)) = 2 * ((Y.th t).backoff : Int) + 1 by push_cast; rfl)
  rw [HW.out] at H1
  clear h
  go_enter Tryz.func110, Tryz.ntmps110
  go_upto_region 1 with fail
  generalize hW : World.setCell w _ _ = W1 at *
  have q := H1.out.dr
  have d5 : W1.cell? ⟨L.bT t, 5, none⟩ = some (.int .i64 (2 * ((Y.th t).backoff : Int) + 1)) := by have := q.tcell ht (j := 5) rfl; rw [set_th] at this; rw [← HW.out]; exact this
  have d2 : W1.cell? ⟨L.b, 2, none⟩ = some (.int .i64 (L.cap : Int)) := q.ocell rfl
  have g5 := (q.th t ht).frozen 5
  clear q c5 f5 hW
  go_quiet (fail)
  by_cases hgt : L.cap < 2 * (Y.th t).backoff + 1
  · have hgt' : (L.cap : Int) < 2 * ((Y.th t).backoff : Int) + 1 := by omega
    have hmin : min (2 * (Y.th t).backoff + 1) L.cap = L.cap := by omega
    go_upto_region 3 with fail
    have H2 := hide (show TLeft L S (Y.set t { Y.th t with backoff := min (2 * (Y.th t).backoff + 1) L.cap }) lab vo vp vb bv w (World.setCell (W1.drewN nq) ⟨L.bT t, 5, none⟩ (.int .i64 (L.cap : Int))) from by
      refine H1.out.next (TLeft.next (TLeft.refl H1.out.dr nq) ?_)
      refine ((H1.out.dr.drewN nq).put ht 5 (.int .i64 (L.cap : Int)) (x' := { Y.th t with backoff := min (2 * (Y.th t).backoff + 1) L.cap }) (by rw [set_th, hmin]; rfl) (by rw [set_th]) (by rw [set_th]) (by rw [set_th])).cast (set_set _ _ _ _))
    clear H1 d5 d2 g5
    generalize World.setCell (W1.drewN nq) _ _ = W2 at *
    have q := H2.out.dr
    have c6 : W2.cell? ⟨L.bT t, 6, none⟩ = some (.int .i64 ((Y.th t).tries : Int)) := by have := q.tcell ht (j := 6) rfl; rw [set_th] at this; exact this
    have f6 := (q.th t ht).frozen 6
    have HE1 := hide (docEnter q ht 11 (by decide) (by decide) (fun _ h => absurd h (by decide)))
    have HE2 := hide (q.put ht 6 (.int .i64 ((2 : Nat) : Int)) (x' := { Y.th t with backoff := min (2 * (Y.th t).backoff + 1) L.cap, tries := 2 }) (by rw [set_th]; rfl) (by rw [set_th]) (by rw [set_th]) (by rw [set_th]))
    clear q
    by_cases hq : (Y.th t).tries = 2
    · rw [hq] at c6
      go_wp2_with fail
      refine HE1.out.mono ?_
      rintro e w3 ⟨rfl, h3⟩
      have H4 := hide (H2.out.next (h3.cast (by rw [set_th, set_set])))
      clear h3
      go_wp2_with fail
      refine bodyPost_ret (v := .tuple #[]) (by simp [results, Tryz.results110, go_sem]) rfl ⟨rfl, ?_⟩
      have e : (Y.th t).fail L.n L.cap = RTh.enter L.n { Y.th t with backoff := min (2 * (Y.th t).backoff + 1) L.cap } 11 := by unfold RTh.fail; rw [if_pos hq]
      rw [e]
      exact H4.out
    · have hq' : ¬ ((Y.th t).tries : Int) = 2 := by omega
      go_wp2_with fail
      have hd := HE2.out.dr
      rw [set_set] at hd
      refine (docEnter hd ht 3 (by decide) (by decide) (fun h => absurd h (by decide))).mono ?_
      rintro e w3 ⟨rfl, h3⟩
      have H4 := hide (H2.out.next ((HE2.out.cast (set_set _ _ _ _)).next (h3.cast (by rw [set_th, set_set]))))
      clear h3 hd
      go_wp2_with fail
      refine bodyPost_end (v := .tuple #[]) (by simp [results, Tryz.results110, go_sem]) rfl ⟨rfl, ?_⟩
      have e : (Y.th t).fail L.n L.cap = RTh.enter L.n { Y.th t with backoff := min (2 * (Y.th t).backoff + 1) L.cap, tries := 2 } 3 := by unfold RTh.fail; rw [if_neg hq]
      rw [e]
      exact H4.out
  · have hgt' : ¬ (L.cap : Int) < 2 * ((Y.th t).backoff : Int) + 1 := by omega
    have hmin : min (2 * (Y.th t).backoff + 1) L.cap = 2 * (Y.th t).backoff + 1 := by omega
    go_upto_region 3 with fail
    have H2 := hide (show TLeft L S (Y.set t { Y.th t with backoff := min (2 * (Y.th t).backoff + 1) L.cap }) lab vo vp vb bv w (W1.drewN nq) from by
      rw [hmin]
      exact H1.out.next (TLeft.refl H1.out.dr nq))
    clear H1 d5 d2 g5
    generalize W1.drewN nq = W2 at *
    have q := H2.out.dr
    have c6 : W2.cell? ⟨L.bT t, 6, none⟩ = some (.int .i64 ((Y.th t).tries : Int)) := by have := q.tcell ht (j := 6) rfl; rw [set_th] at this; exact this
    have f6 := (q.th t ht).frozen 6
    have HE1 := hide (docEnter q ht 11 (by decide) (by decide) (fun _ h => absurd h (by decide)))
    have HE2 := hide (q.put ht 6 (.int .i64 ((2 : Nat) : Int)) (x' := { Y.th t with backoff := min (2 * (Y.th t).backoff + 1) L.cap, tries := 2 }) (by rw [set_th]; rfl) (by rw [set_th]) (by rw [set_th]) (by rw [set_th]))
    clear q
    by_cases hq : (Y.th t).tries = 2
    · rw [hq] at c6
      go_wp2_with fail
      refine HE1.out.mono ?_
      rintro e w3 ⟨rfl, h3⟩
      have H4 := hide (H2.out.next (h3.cast (by rw [set_th, set_set])))
      clear h3
      go_wp2_with fail
      refine bodyPost_ret (v := .tuple #[]) (by simp [results, Tryz.results110, go_sem]) rfl ⟨rfl, ?_⟩
      have e : (Y.th t).fail L.n L.cap = RTh.enter L.n { Y.th t with backoff := min (2 * (Y.th t).backoff + 1) L.cap } 11 := by unfold RTh.fail; rw [if_pos hq]
      rw [e]
      exact H4.out
    · have hq' : ¬ ((Y.th t).tries : Int) = 2 := by omega
      go_wp2_with fail
      have hd := HE2.out.dr
      rw [set_set] at hd
      refine (docEnter hd ht 3 (by decide) (by decide) (fun h => absurd h (by decide))).mono ?_
      rintro e w3 ⟨rfl, h3⟩
      have H4 := hide (H2.out.next ((HE2.out.cast (set_set _ _ _ _)).next (h3.cast (by rw [set_th, set_set]))))
      clear h3 hd
      go_wp2_with fail
      refine bodyPost_end (v := .tuple #[]) (by simp [results, Tryz.results110, go_sem]) rfl ⟨rfl, ?_⟩
      have e : (Y.th t).fail L.n L.cap = RTh.enter L.n { Y.th t with backoff := min (2 * (Y.th t).backoff + 1) L.cap, tries := 2 } 3 := by unfold RTh.fail; rw [if_neg hq]
      rw [e]
      exact H4.out
end
end Go.Proofs.YtefjhnhdagolhaaGreat
