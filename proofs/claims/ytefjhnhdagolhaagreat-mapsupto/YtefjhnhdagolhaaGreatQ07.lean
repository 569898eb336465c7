import Derived.Test.YtefjhnhdagolhaaGreatQ05
import Derived.Test.YtefjhnhdagolhaaGreatQ01
import Derived.Test.YtefjhnhdagolhaaGreatQ06
import Derived.Test.YtefjhnhdagolhaaGreatProg
namespace Go.Proofs.YtefjhnhdagolhaaGreat.tree
open Go.RowKit
open M (upd upd_same upd_other Op Ver ETh ESt tw wds)
structure Lt where
  n : Nat
  cap : Nat
  oT : TypeId
  ov : Value
  bE : Nat
  bS : Nat
  bTg : Nat
  bAn : Nat
  bP : Nat
  bW : Nat → Nat
  g : Nat
  gc : Nat
  gD : Nat → Nat
  gG : Nat → Nat
def Lt.own (L : Lt) (k : Nat) : Prop := k = L.bS ∨ k = L.bTg ∨ k = L.bAn ∨ k = L.bP ∨ (∃ r, r < 2 * L.n + 1 ∧ k = L.bW r) ∨ k = L.g ∨ ∃ t, t < L.n ∧ (k = L.gD t ∨ k = L.gG t)
structure Lt.Ok (L : Lt) : Prop where
  n1 : 1 ≤ L.n
  n64 : L.n ≤ 64
  c64 : L.cap ≤ 64
  gn : L.n ≤ L.gc
  tw : ∀ r, r < 2 * L.n + 1 → L.bTg ≠ L.bW r
  ww : ∀ r s, r < 2 * L.n + 1 → s < 2 * L.n + 1 → L.bW r = L.bW s → r = s
  dg : ∀ t u, t < L.n → u < L.n → L.gD t ≠ L.gG u
  dd : ∀ t u, t < L.n → u < L.n → L.gD t = L.gD u → t = u
  gg : ∀ t u, t < L.n → u < L.n → L.gG t = L.gG u → t = u
structure SR (σ : Type) where
  sz : σ → Nat
  rep : (Nat → Prop) → World → σ → List Value → Prop
  len : ∀ {I w s c}, rep I w s c → c.length = 1
  shape : ∀ {I w s c}, rep I w s c → ∀ v ∈ c, ∃ z, v = (Value.pointer) z
  stay : ∀ {I I' : Nat → Prop} {w w' : World} {s c}, (∀ k, I k → k < w.heap.size → I' k ∧ w'.heap[k]? = w.heap[k]?) → rep I w s c → rep I' w' s c
def BRep (I : Nat → Prop) (w : World) : List (Nat × List Nat) → Nat → Prop
  | [], b => I b ∧ Row w b 306 [.int .i64 0, .slice none 0 0, .pointer none]
  | (q, p) :: bs, b => ∃ v b', I b ∧ Row w b 306 [.int .i64 (q : Int), v, .pointer (some ⟨b', 0, none⟩)] ∧ (∃ gp, I gp ∧ Sl w v (ints (p.map Int.ofNat)) ∧ ∃ l c, v = .slice (some ⟨gp, 0, none⟩) l c) ∧ BRep I w bs b'
section
variable {σ : Type} (R : SR σ)
def VRep (I : Nat → Prop) (w : World) (v : Ver σ) (c : List Value) : Prop := ∃ sc b, c = sc ++ [.pointer (some ⟨b, 0, none⟩)] ∧ R.rep I w v.st sc ∧ BRep I w v.bs.reverse b
theorem SR.one {I : Nat → Prop} {w : World} {s : σ} {c : List Value} (h : R.rep I w s c) : ∀ v ∈ c, v.oneCell' = true := by
  intro v hv
  obtain ⟨z, rfl⟩ := R.shape h v hv
  rfl
theorem VRep.one {I : Nat → Prop} {w : World} {v : Ver σ} {c : List Value} (h : VRep R I w v c) : ∀ u ∈ c, u.oneCell' = true := by
  obtain ⟨sc, b, rfl, h1, -⟩ := h
  intro u hu
  rcases List.mem_append.1 hu with hu | hu
  · exact SR.one R h1 u hu
  · rw [List.mem_singleton.1 hu]; rfl
theorem VRep.len {I : Nat → Prop} {w : World} {v : Ver σ} {c : List Value} (h : VRep R I w v c) : c.length = 1 + 1 := by
  obtain ⟨sc, b, rfl, h1, -⟩ := h
  simp [R.len h1]
def DRep (I : Nat → Prop) (w : World) (v : Option (Ver σ)) (c : List Value) : Prop := c.length = 1 + 1 ∧ ∀ u, v = some u → VRep R I w u c
def EdRep (I : Nat → Prop) (w : World) (x : Option (Ver σ × Ver σ)) (p : Option Nat) : Prop :=
  ∀ v f, x = some (v, f) → ∃ b cv cf, p = some b ∧ I b ∧ Row w b 269 (cv ++ cf) ∧ VRep R I w v cv ∧ VRep R I w f cf
def PRep (I : Nat → Prop) (w : World) (p : List Nat) (v : Value) : Prop := (v = .slice none 0 0 ∧ p = []) ∨ ∃ gp l c, I gp ∧ v = .slice (some ⟨gp, 0, none⟩) l c ∧ Sl w v (ints (p.map Int.ofNat))
def thCells (L : Lt) (t : Nat) (e : ETh σ) (cv cf : List Value) (pv : Value) : List Value :=
  [.pointer (some ⟨L.bS, 0, none⟩), .int .i64 (t : Int), .int .i64 (L.cap : Int), .int .i64 (e.phase : Int), .int .i64 (e.past : Int), .int .i64 e.op.c, .int .i64 e.op.a, .int .i64 e.op.b, .bool e.toggle, .int .i64 (e.backoff : Int), .bool e.again, .int .i64 (e.spare : Int), .int .i64 (e.kept : Int), .int .i64 ((e.stamp : Int) * 129 + (e.srec : Int)),
    .slice (some ⟨L.gD t, 0, none⟩) (wds L.n) (wds L.n)] ++ cv ++ cf ++ [.slice (some ⟨L.gG t, 0, none⟩) (tw L.n) (tw L.n), pv, .int .i64 (e.heard 0), .int .i64 (e.heard 1), .int .i64 (e.heard 2), .int .i64 (e.found : Int), .int .i64 e.sta, .int .i64 e.val, .bool e.ended]
structure ThRep (L : Lt) (I : Nat → Prop) (w : World) (t : Nat) (e : ETh σ) (f : Nat → Value) (cv cf : List Value) (pv : Value) : Prop where
  like : Like f (thCells L t e cv cf pv)
  now : DRep R I w e.now cv
  frm : DRep R I w e.frm cf
  pend : PRep I w e.pend pv
structure RE (L : Lt) (S : Nat → Prop) (E : ESt σ) (w : World) : Prop where
  ok : L.Ok
  eng : Row w L.bE 265 [.pointer (some ⟨L.bS, 0, none⟩), .slice (some ⟨L.g, 0, none⟩) L.n L.gc, .int .i64 (L.cap : Int)]
  enS : S L.bE ∧ ¬ L.own L.bE
  sh : Row w L.bS 336 [.int .i64 (L.n : Int), .iface L.oT L.ov, .slice (some ⟨L.bTg, 0, none⟩) (tw L.n) (tw L.n), .slice (some ⟨L.bAn, 0, none⟩) L.n L.n, .slice (some ⟨L.bP, 0, none⟩) (2 * L.n + 1) (2 * L.n + 1), .int .i64 ((E.pst : Int) * 129 + (E.prec : Int))]
  tg : Fn w L.bTg 387 (tw L.n) (fun i => .int .i64 (E.togs i))
  an : Fn2 w L.bAn 388 L.n 3 (fun t i => .int .i64 (E.ann t i))
  po : ∃ sp : Nat → Option Nat, Fn2 w L.bP 344 (2 * L.n + 1) 2 (fun r j => if j = 0 then .slice (some ⟨L.bW r, 0, none⟩) (wds L.n) (wds L.n) else .pointer ((sp r).map fun b => ⟨b, 0, none⟩)) ∧ ∀ r, r < 2 * L.n + 1 → EdRep R (fun k => S k ∧ ¬ L.own k) w (E.rst r) (sp r)
  rw : ∀ r, r < 2 * L.n + 1 → Fn w (L.bW r) 387 (wds L.n) (fun i => .int .i64 (E.rw r i))
  th : ∃ T, Fn2 w L.g 273 L.gc 28 T ∧ ∀ t, t < L.n → ∃ cv cf pv, ThRep R L (fun k => S k ∧ ¬ L.own k) w t (E.th t) (T t) cv cf pv
  gd : ∀ t, t < L.n → Fn w (L.gD t) 3 (wds L.n) (fun i => .int .i64 ((E.th t).dw i))
  gg : ∀ t, t < L.n → Fn w (L.gG t) 3 (tw L.n) (fun i => .int .i64 ((E.th t).tg i))
  ow : ∀ k, L.own k → S k
  lt : ∀ k, S k → k < w.heap.size
end
section
variable {σ : Type} {R : SR σ} {I I' : Nat → Prop} {w w' : World}
theorem Sl.block {v : Value} {xs : List Value} {gp l c : Nat} (hv : v = .slice (some ⟨gp, 0, none⟩) l c) (h : Sl w v xs) (e : w'.heap[gp]? = w.heap[gp]?) : Sl w' v xs := by
  obtain ⟨a, cap, hv2, h1, h2, h3⟩ := h
  refine ⟨a, cap, hv2, h1, h2, ?_⟩
  rcases h3 with h3 | ⟨g, off, ha, h3⟩
  · exact .inl h3
  · refine .inr ⟨g, off, ha, fun j x hj => ?_⟩
    have : g = gp := by
      rw [hv] at hv2
      injection hv2 with q1
      rw [ha] at q1
      injection q1 with q2
      injection q2 with q3
      exact q3.symm
    subst this
    rw [World.cell?_of_block (w := w) (a := ⟨g, off + j, none⟩) e]
    exact h3 j x hj
theorem Sl.lt {v : Value} {xs : List Value} {gp l c : Nat} (hv : v = .slice (some ⟨gp, 0, none⟩) l c) (h : Sl w v xs) (hx : xs ≠ []) : gp < w.heap.size := by
  obtain ⟨a, cap, hv2, h1, h2, h3⟩ := h
  rcases h3 with h3 | ⟨g, off, ha, h3⟩
  · exact absurd h3 hx
  · have : g = gp := by
      rw [hv] at hv2
      injection hv2 with q1
      rw [ha] at q1
      injection q1 with q2
      injection q2 with q3
      exact q3.symm
    subst this
    obtain ⟨x, hx0⟩ : ∃ x, xs[0]? = some x := by cases xs with | nil => exact absurd rfl hx | cons x r => exact ⟨x, rfl⟩
    exact World.block_lt_of_cell? w _ (h3 0 x hx0)
theorem Sl.stay {v : Value} {xs : List Value} {gp l c : Nat} (hv : v = .slice (some ⟨gp, 0, none⟩) l c) (h : Sl w v xs) (e : gp < w.heap.size → w'.heap[gp]? = w.heap[gp]?) : Sl w' v xs := by
  by_cases hx : xs = []
  · obtain ⟨a, cap, hv2, h1, h2, h3⟩ := h
    exact ⟨a, cap, hv2, h1, h2, .inl hx⟩
  · exact Sl.block hv h (e (Sl.lt hv h hx))
theorem BRep.stay (hst : ∀ k, I k → k < w.heap.size → I' k ∧ w'.heap[k]? = w.heap[k]?) (hI : ∀ k, I k → k < w.heap.size) : ∀ (bs : List (Nat × List Nat)) (b : Nat), BRep I w bs b → BRep I' w' bs b
  | [], b, h => ⟨(hst b h.1 h.2.lt).1, h.2.of_block (hst b h.1 h.2.lt).2⟩
  | (q, p) :: bs, b, h => by
    obtain ⟨v, b', h1, h2, ⟨gp, g1, g2, l, c, g3⟩, h4⟩ := h
    exact ⟨v, b', (hst b h1 h2.lt).1, h2.of_block (hst b h1 h2.lt).2, ⟨gp, (hst gp g1 (hI gp g1)).1, Sl.stay g3 g2 (fun q => (hst gp g1 q).2), l, c, g3⟩, BRep.stay hst hI bs b' h4⟩
theorem VRep.stay (hst : ∀ k, I k → k < w.heap.size → I' k ∧ w'.heap[k]? = w.heap[k]?) (hI : ∀ k, I k → k < w.heap.size) {v : Ver σ} {c : List Value} (h : VRep R I w v c) : VRep R I' w' v c := by
  obtain ⟨sc, b, h1, h2, h3⟩ := h
  exact ⟨sc, b, h1, R.stay hst h2, BRep.stay hst hI _ _ h3⟩
theorem DRep.stay (hst : ∀ k, I k → k < w.heap.size → I' k ∧ w'.heap[k]? = w.heap[k]?) (hI : ∀ k, I k → k < w.heap.size) {v : Option (Ver σ)} {c : List Value} (h : DRep R I w v c) : DRep R I' w' v c := ⟨h.1, fun u hu => VRep.stay hst hI (h.2 u hu)⟩
theorem EdRep.stay (hst : ∀ k, I k → k < w.heap.size → I' k ∧ w'.heap[k]? = w.heap[k]?) (hI : ∀ k, I k → k < w.heap.size) {x : Option (Ver σ × Ver σ)} {p : Option Nat} (h : EdRep R I w x p) : EdRep R I' w' x p := by
  intro v f hx
  obtain ⟨b, cv, cf, h1, h2, h3, h4, h5⟩ := h v f hx
  exact ⟨b, cv, cf, h1, (hst b h2 h3.lt).1, h3.of_block (hst b h2 h3.lt).2, VRep.stay hst hI h4, VRep.stay hst hI h5⟩
theorem PRep.stay (hst : ∀ k, I k → k < w.heap.size → I' k ∧ w'.heap[k]? = w.heap[k]?) (hI : ∀ k, I k → k < w.heap.size) {p : List Nat} {v : Value} (h : PRep I w p v) : PRep I' w' p v := by
  rcases h with h | ⟨gp, l, c, h1, h2, h3⟩
  · exact .inl h
  · exact .inr ⟨gp, l, c, (hst gp h1 (hI gp h1)).1, h2, Sl.stay h2 h3 (fun q => (hst gp h1 q).2)⟩
theorem ThRep.stay (hst : ∀ k, I k → k < w.heap.size → I' k ∧ w'.heap[k]? = w.heap[k]?) (hI : ∀ k, I k → k < w.heap.size) {L : Lt} {t : Nat} {e : ETh σ} {f : Nat → Value} {cv cf : List Value} {pv : Value} (h : ThRep R L I w t e f cv cf pv) : ThRep R L I' w' t e f cv cf pv :=
  ⟨h.like, DRep.stay hst hI h.now, DRep.stay hst hI h.frm, PRep.stay hst hI h.pend⟩
end
end Go.Proofs.YtefjhnhdagolhaaGreat.tree
namespace Go.Proofs.YtefjhnhdagolhaaGreat.tree
open Go.RowKit
attribute [local go_sem ↓] Go.wp_at_zero Go.wp_at_succ
def thNew (bS : Nat) (i most : Int) (gD nD gG nG : Nat) : List Value :=
  [.pointer (some ⟨bS, 0, none⟩), .int .i64 i, .int .i64 most, .int .i64 0, .int .i64 0, .int .i64 0, .int .i64 0, .int .i64 0, .bool false, .int .i64 0, .bool false, .int .i64 (2 * i + 1), .int .i64 (2 * i + 2), .int .i64 0,
    .slice (some ⟨gD, 0, none⟩) nD nD] ++ [.pointer none] ++ [.pointer none] ++ [.pointer none] ++ [.pointer none, .slice (some ⟨gG, 0, none⟩) nG nG, .slice none 0 0, .int .i64 0, .int .i64 0, .int .i64 0, .int .i64 0, .int .i64 0, .int .i64 0, .bool false]
set_option maxRecDepth 20000 in
set_option maxHeartbeats 4000000 in
theorem newThread_any (bS : Nat) (n i most : Int) (w : World) (hc : w.cell? ⟨bS, 0, none⟩ = some (.int .i64 n)) (h0 : 1 ≤ n) (h1 : n ≤ 64) (h2 : 0 ≤ i) (h3 : i ≤ 64) :
    Calls Tryz.prog 140 #[.pointer (some ⟨bS, 0, none⟩), .int .i64 i, .int .i64 most] w fun e w' => ∃ gD gG, e = .returned (.agg (thNew bS i most gD ((n + 15) / 16 + 2 * n).toNat gG ((n + 15) / 16).toNat).toArray) ∧ w.heap.size ≤ gD ∧ w.heap.size ≤ gG ∧ gD ≠ gG ∧
      Row w' gD 3 (zeros (.int .i64 0) ((n + 15) / 16 + 2 * n).toNat) ∧ Row w' gG 3 (zeros (.int .i64 0) ((n + 15) / 16).toNat) ∧ Below w.heap.size w w' := by
  have hmk1 := run_make_zeros (P := Tryz.prog) 22 3 (.int .i64 0) 8 Tryz.underlying22 info_int rfl ((n + 15) / 16 + 2 * n) ((n + 15) / 16 + 2 * n).toNat (by omega) (by omega) (by omega)
  have hmk2 := run_make_zeros (P := Tryz.prog) 22 3 (.int .i64 0) 8 Tryz.underlying22 info_int rfl ((n + 15) / 16) ((n + 15) / 16).toNat (by omega) (by omega) (by omega)
  have hi : (Tryz.prog.info? 273).map (·.size) = some 28 := by kernel_rfl
  have hw1 : IntKind.i64.wrap (2 * i) = 2 * i := wrapi _ (by omega) (by omega)
  have hw2 : IntKind.i64.wrap (2 * i + 1) = 2 * i + 1 := wrapi _ (by omega) (by omega)
  have hw3 : IntKind.i64.wrap (2 * i + 2) = 2 * i + 2 := wrapi _ (by omega) (by omega)
  have hlt : bS < w.heap.size := World.block_lt_of_cell? w _ hc
  go_enter Tryz.func140, Tryz.ntmps140
  go_wp2
  generalize hW0 : World.alloc w _ = W0
  have hb0 : Below w.heap.size w W0 := by rw [← hW0]; exact below_alloc w _
  have hs0 : w.heap.size < W0.heap.size := by rw [← hW0]; simp
  have hth : W0.there w.heap.size 0 28 := by rw [← hW0]; exact Row.there (t := 273) (Row.new w _ 273) (by simp)
  clear hW0
  refine rg0 (S := (fun w' => Below w.heap.size w w' ∧ w'.cell? ⟨bS, 0, none⟩ = some (.int .i64 n) ∧ w'.there w.heap.size 0 28)) 24 rfl (by kernel_rfl) ?_ (fun hHeld => ?_)
  · exact keepI hb0 hc hth
  iterate 13 (refine tk 23 (by rfl) (by kernel_rfl) (by exact fun _ _ _ h => h) (.inl ⟨by rfl, fun w hS => by (try dsimp only at hS); go_simp; (try with_reducible rfl)⟩) (by assumption) ?_; try go_frame)
  iterate 4 (refine tk 26 (by rfl) (by kernel_rfl) (by exact fun _ _ _ h => h) (.inl ⟨by rfl, fun w hS => by (try dsimp only at hS); go_simp; (try with_reducible rfl)⟩) (by assumption) ?_; try go_frame)
  refine rd1 13 (by rfl) (by kernel_rfl) (fun K hK => ?_)
  go_simp
  refine (recordWords_any n _ h0 h1).mono ?_
  rintro e w3 ⟨rfl, hb3⟩
  have hz3 := hb3.size
  (try simp at hz3)
  go_wp2_with fail
  refine hK.out _ _ ?_ (fun hHeld => ?_)
  · exact keepC hHeld hb3
  clear hK K
  (try go_frame)
  refine wpAnyH_ready (rs := [14, 20]) (by kernel_rfl) (by simp) (rc (by rfl) (fun K hK => ?_) (rc (by rfl) (fun K hK => ?_) AllReadyH.nil))
  · go_simp
    refine hK.out _ _ ?_ (fun hHeld => ?_)
    · exact keepA hHeld _
    clear hK K
    (try go_frame)
    iterate 1 (refine tk 19 (by rfl) (by kernel_rfl) (by exact fun _ _ _ h => h) (.inl ⟨by rfl, fun w hS => by (try dsimp only at hS); go_simp; (try with_reducible rfl)⟩) (by assumption) ?_; try go_frame)
    refine rd1 20 (by rfl) (by kernel_rfl) (fun K hK => ?_)
    go_simp
    refine (toggleWords_any n _ h0 h1).mono ?_
    rintro e w2 ⟨rfl, hb2⟩
    have hz2 := hb2.size
    (try simp at hz2)
    go_wp2_with fail
    refine hK.out _ _ ?_ (fun hHeld => ?_)
    · exact keepC hHeld hb2
    clear hK K
    (try go_frame)
    refine rd1 21 (by rfl) (by kernel_rfl) (fun K hK => ?_)
    go_simp
    refine hK.out _ _ ?_ (fun hHeld => ?_)
    · exact keepA hHeld _
    clear hK K
    (try go_frame)
    iterate 1 (refine tk 23 (by rfl) (by kernel_rfl) (by exact fun _ _ _ h => h) (.inl ⟨by rfl, fun w hS => by (try dsimp only at hS); go_simp; (try with_reducible rfl)⟩) (by assumption) ?_; try go_frame)
    refine rd1 23 (by rfl) (by kernel_rfl) (fun K hK => ?_)
    rw [if_pos (by rfl)]
    refine wp_store_mid _ _ _ rfl _ _ (List.toArray _) rfl rfl ?_ ?_ ?_ ?_
    · exact hHeld.2.2
    · exact hi
    · exact all_oneCell_toArray (by simp [Value.oneCell'])
    have hthz := hHeld.2.2
    refine hK.out _ _ ?_ (fun hHeld => ?_)
    · exact keepS hHeld hlt _
    clear hK K
    (try go_frame)
    refine wpAnyH_done (by kernel_rfl) ?_ _
    go_wp2
    refine bodyPost_ret (v := .agg (List.toArray _)) (results_agg rfl rfl (World.rangeAt_setCells_same _ _ _ _ hthz) Tryz.underlying273 rfl hi) rfl ?_
    refine ⟨_, _, rfl, ?_, ?_, ?_, ?_, ?_, hHeld.1⟩
    · omega
    · omega
    · omega
    · refine Row.setCells' (by omega) _ _ ?_
      repeat (first | exact Row.new' (by simp) | refine Row.alloc ?_ _ | refine Row.old ?_ hb2)
    · refine Row.setCells' (by omega) _ _ ?_
      repeat (first | exact Row.new' (by simp) | refine Row.alloc ?_ _ | refine Row.old ?_ hb2)
  · go_simp
    refine (toggleWords_any n _ h0 h1).mono ?_
    rintro e w2 ⟨rfl, hb2⟩
    have hz2 := hb2.size
    (try simp at hz2)
    go_wp2_with fail
    refine hK.out _ _ ?_ (fun hHeld => ?_)
    · exact keepC hHeld hb2
    clear hK K
    (try go_frame)
    refine wpAnyH_ready (rs := [14, 21]) (by kernel_rfl) (by simp) (rc (by rfl) (fun K hK => ?_) (rc (by rfl) (fun K hK => ?_) AllReadyH.nil))
    · go_simp
      refine hK.out _ _ ?_ (fun hHeld => ?_)
      · exact keepA hHeld _
      clear hK K
      (try go_frame)
      iterate 1 (refine tk 18 (by rfl) (by kernel_rfl) (by exact fun _ _ _ h => h) (.inl ⟨by rfl, fun w hS => by (try dsimp only at hS); go_simp; (try with_reducible rfl)⟩) (by assumption) ?_; try go_frame)
      refine rd1 21 (by rfl) (by kernel_rfl) (fun K hK => ?_)
      go_simp
      refine hK.out _ _ ?_ (fun hHeld => ?_)
      · exact keepA hHeld _
      clear hK K
      (try go_frame)
      iterate 1 (refine tk 23 (by rfl) (by kernel_rfl) (by exact fun _ _ _ h => h) (.inl ⟨by rfl, fun w hS => by (try dsimp only at hS); go_simp; (try with_reducible rfl)⟩) (by assumption) ?_; try go_frame)
      refine rd1 23 (by rfl) (by kernel_rfl) (fun K hK => ?_)
      rw [if_pos (by rfl)]
      refine wp_store_mid _ _ _ rfl _ _ (List.toArray _) rfl rfl ?_ ?_ ?_ ?_
      · exact hHeld.2.2
      · exact hi
      · exact all_oneCell_toArray (by simp [Value.oneCell'])
      have hthz := hHeld.2.2
      refine hK.out _ _ ?_ (fun hHeld => ?_)
      · exact keepS hHeld hlt _
      clear hK K
      (try go_frame)
      refine wpAnyH_done (by kernel_rfl) ?_ _
      go_wp2
      refine bodyPost_ret (v := .agg (List.toArray _)) (results_agg rfl rfl (World.rangeAt_setCells_same _ _ _ _ hthz) Tryz.underlying273 rfl hi) rfl ?_
      refine ⟨_, _, rfl, ?_, ?_, ?_, ?_, ?_, hHeld.1⟩
      · omega
      · omega
      · omega
      · refine Row.setCells' (by omega) _ _ ?_
        repeat (first | exact Row.new' (by simp) | refine Row.alloc ?_ _ | refine Row.old ?_ hb2)
      · refine Row.setCells' (by omega) _ _ ?_
        repeat (first | exact Row.new' (by simp) | refine Row.alloc ?_ _ | refine Row.old ?_ hb2)
    · go_simp
      refine hK.out _ _ ?_ (fun hHeld => ?_)
      · exact keepA hHeld _
      clear hK K
      (try go_frame)
      refine rd1 14 (by rfl) (by kernel_rfl) (fun K hK => ?_)
      go_simp
      refine hK.out _ _ ?_ (fun hHeld => ?_)
      · exact keepA hHeld _
      clear hK K
      (try go_frame)
      iterate 1 (refine tk 17 (by rfl) (by kernel_rfl) (by exact fun _ _ _ h => h) (.inl ⟨by rfl, fun w hS => by (try dsimp only at hS); go_simp; (try with_reducible rfl)⟩) (by assumption) ?_; try go_frame)
      iterate 1 (refine tk 23 (by rfl) (by kernel_rfl) (by exact fun _ _ _ h => h) (.inl ⟨by rfl, fun w hS => by (try dsimp only at hS); go_simp; (try with_reducible rfl)⟩) (by assumption) ?_; try go_frame)
      refine rd1 23 (by rfl) (by kernel_rfl) (fun K hK => ?_)
      rw [if_pos (by rfl)]
      refine wp_store_mid _ _ _ rfl _ _ (List.toArray _) rfl rfl ?_ ?_ ?_ ?_
      · exact hHeld.2.2
      · exact hi
      · exact all_oneCell_toArray (by simp [Value.oneCell'])
      have hthz := hHeld.2.2
      refine hK.out _ _ ?_ (fun hHeld => ?_)
      · exact keepS hHeld hlt _
      clear hK K
      (try go_frame)
      refine wpAnyH_done (by kernel_rfl) ?_ _
      go_wp2
      refine bodyPost_ret (v := .agg (List.toArray _)) (results_agg rfl rfl (World.rangeAt_setCells_same _ _ _ _ hthz) Tryz.underlying273 rfl hi) rfl ?_
      refine ⟨_, _, rfl, ?_, ?_, ?_, ?_, ?_, hHeld.1⟩
      · omega
      · omega
      · omega
      · refine Row.setCells' (by omega) _ _ ?_
        repeat (first | exact Row.new' (by simp) | refine Row.alloc ?_ _ | refine Row.old ?_ hb2)
      · refine Row.setCells' (by omega) _ _ ?_
        repeat (first | exact Row.new' (by simp) | refine Row.alloc ?_ _ | refine Row.old ?_ hb2)
end Go.Proofs.YtefjhnhdagolhaaGreat.tree
namespace Go.Proofs.YtefjhnhdagolhaaGreat.tree
open Go.RowKit
theorem sized_edition : (Tryz.prog.info? 269).map (fun i => decide (i.size = 0)) = some false := by kernel_rfl
set_option maxHeartbeats 400000 in
theorem atomStore (b o g : Nat) (u v : Value) (w : World) (hc : w.cell? ⟨b, o, none⟩ = some u) (hz : w.frozen? ⟨b, o, none⟩ = false) (hg : w.cell? ⟨g, 0, none⟩ = some v) :
    Calls Tryz.prog 161 #[.pointer (some ⟨b, o, none⟩), .pointer (some ⟨g, 0, none⟩)] w fun e w' => e = .returned (.tuple #[]) ∧ w' = w.setCell ⟨b, o, none⟩ (.pointer (some ⟨g, 0, none⟩)) := by
  have hcv := run_convert_to_unsafe (P := Tryz.prog) (src := 337) (dst := 208) (t := 269) Tryz.underlying337 Tryz.underlying208 sized_edition hg
  have hst := run_call_storeP (P := Tryz.prog) Tryz.func165 (by kernel_rfl) (by kernel_rfl) (by kernel_rfl) (by kernel_rfl) (y := some ⟨g, 0, none⟩) hc hz
  clear hc hz hg
  go_enter Tryz.func161, Tryz.ntmps161
  go_wp2
  go_end0
  exact ⟨rfl, rfl⟩
theorem lies_edition : liesAt Tryz.prog Tryz.prog.depth 269 (4 / Tryz.prog.cellsOf 269) 0 269 1 = true := by kernel_rfl
set_option maxHeartbeats 400000 in
theorem atomLoad (b o g : Nat) (xs : List Value) (w : World) (hc : w.cell? ⟨b, o, none⟩ = some (.pointer (some ⟨g, 0, none⟩))) (hg : Row w g 269 xs) (hx : xs.length = 4) :
    Calls Tryz.prog 359 #[.pointer (some ⟨b, o, none⟩)] w fun e w' => e = .returned (.pointer (some ⟨g, 0, none⟩)) ∧ w' = w := by
  have hcv := run_from_unsafe (P := Tryz.prog) (src := 208) (dst := 337) (u := 269) Tryz.underlying208 Tryz.underlying337 hg sized_edition (by rw [hx]; exact lies_edition)
  have hld := run_call_loadP (P := Tryz.prog) Tryz.func245 (by kernel_rfl) (by kernel_rfl) (by kernel_rfl) (by kernel_rfl) hc
  clear hc hg hx
  go_enter Tryz.func359, Tryz.ntmps359
  go_wp2
  go_ret
  exact ⟨rfl, rfl⟩
end Go.Proofs.YtefjhnhdagolhaaGreat.tree
