import Derived.Test.YtefjhnhdagolhaaGreatQ05
import Derived.Test.YtefjhnhdagolhaaGreatQ26
namespace Go.Proofs.YtefjhnhdagolhaaGreat.tree
open Go.RowKit
open M (upd upd_same upd_other Op Ver ETh ESt wds statusAt valueAt)
attribute [local go_sem ↓] Go.wp_at_zero Go.wp_at_succ
section
variable {σ : Type} {R : SR σ} {L : Lt} {S : Nat → Prop} {E E' : ESt σ} {w : World} {t : Nat}
theorem keepB {w W W2 : World} {b1 b2 o1 o2 b3 : Nat} {u1 u2 u3 u4 u5 v0 : Value} (hb : Below W.heap.size W W2) (h : Below w.heap.size w W ∧ W.cell? ⟨b1, o1, none⟩ = some u1 ∧ W.cell? ⟨b2, o2, none⟩ = some u2 ∧ W.cell? ⟨b1, o1 + 15, none⟩ = some v0 ∧ W.cell? ⟨b3, 0, none⟩ = some u3 ∧ W.cell? ⟨b3, 1, none⟩ = some u4 ∧ W.cell? ⟨b3, 2, none⟩ = some u5) :
    Below w.heap.size w W2 ∧ W2.cell? ⟨b1, o1, none⟩ = some u1 ∧ W2.cell? ⟨b2, o2, none⟩ = some u2 ∧ W2.cell? ⟨b1, o1 + 15, none⟩ = some v0 ∧ W2.cell? ⟨b3, 0, none⟩ = some u3 ∧ W2.cell? ⟨b3, 1, none⟩ = some u4 ∧ W2.cell? ⟨b3, 2, none⟩ = some u5 := by
  obtain ⟨h0, h1, h2, k0, h3, h4, h5⟩ := h
  exact ⟨Below.next h0 hb h0.size, cell_later hb h1, cell_later hb h2, cell_later hb k0, cell_later hb h3, cell_later hb h4, cell_later hb h5⟩
theorem fin6 {I : Nat → Prop} {w W w2 w3 : World} {b6 : Nat} {s : σ} {c : List Value} (hz : R.rep (fun k => I k ∨ (W.heap.size ≤ k ∧ k < w2.heap.size)) w2 s c) (hI : ∀ k, I k → k < w.heap.size) (hwW : w.heap.size ≤ W.heap.size) (hb6 : w.heap.size ≤ b6) (hbb : b6 < W.heap.size ∨ w2.heap.size ≤ b6)
    (h3 : ∀ k, k < w2.heap.size → k ≠ b6 → w3.heap[k]? = w2.heap[k]?) (hs : w2.heap.size ≤ w3.heap.size) : R.rep (fun k => I k ∨ (w.heap.size ≤ k ∧ k < w3.heap.size)) w3 s c := by
  refine R.stay (fun k hk hlt => ?_) hz
  rcases hk with hk | hk
  · have := hI k hk
    exact ⟨.inl hk, h3 k hlt (by omega)⟩
  · exact ⟨.inr ⟨by omega, by omega⟩, h3 k hlt (by omega)⟩
theorem keepC {w W : World} {b1 b2 o1 o2 b3 b6 : Nat} {u1 u2 u3 u4 u5 v0 : Value} (vs : List Value) (q6 : w.heap.size ≤ b6) (q1 : b1 < b6) (q2 : b2 < b6) (q3 : b3 < b6) (h : Below w.heap.size w W ∧ W.cell? ⟨b1, o1, none⟩ = some u1 ∧ W.cell? ⟨b2, o2, none⟩ = some u2 ∧ W.cell? ⟨b1, o1 + 15, none⟩ = some v0 ∧ W.cell? ⟨b3, 0, none⟩ = some u3 ∧ W.cell? ⟨b3, 1, none⟩ = some u4 ∧ W.cell? ⟨b3, 2, none⟩ = some u5) :
    Below w.heap.size w (W.setCells b6 0 vs) ∧ (W.setCells b6 0 vs).cell? ⟨b1, o1, none⟩ = some u1 ∧ (W.setCells b6 0 vs).cell? ⟨b2, o2, none⟩ = some u2 ∧ (W.setCells b6 0 vs).cell? ⟨b1, o1 + 15, none⟩ = some v0 ∧ (W.setCells b6 0 vs).cell? ⟨b3, 0, none⟩ = some u3 ∧ (W.setCells b6 0 vs).cell? ⟨b3, 1, none⟩ = some u4 ∧ (W.setCells b6 0 vs).cell? ⟨b3, 2, none⟩ = some u5 := by
  obtain ⟨h0, h1, h2, k0, h3, h4, h5⟩ := h
  have out : ∀ {b o : Nat} {u : Value}, b < b6 → W.cell? ⟨b, o, none⟩ = some u → (W.setCells b6 0 vs).cell? ⟨b, o, none⟩ = some u := fun hb hu => by
    rw [World.cell?_setCells_out b6 vs 0 W _ (fun q _ => by dsimp only at q; omega)]
    exact hu
  exact ⟨below_setCells q6 vs 0 W h0, out q1 h1, out q2 h2, out q1 k0, out q3 h3, out q3 h4, out q3 h5⟩
theorem thCells_mid (e : ETh σ) (cv cf : List Value) (pv : Value) (hv : cv.length = 1 + 1) (hf : cf.length = 1 + 1) (j : Nat) (hj : j < 2 * (1 + 1)) : (thCells L t e cv cf pv)[15 + j]? = (cv ++ cf)[j]? := by
  unfold thCells
  rw [List.getElem?_append_left (by simp [hv, hf]; omega), List.append_assoc, List.getElem?_append_right (by simp)]
  simp
theorem tail_eq (l1 l2 m n : List Value) {j c : Nat} (h1 : l1.length = c) (h2 : l2.length = c) (hj : c ≤ j) : ((l1 ++ m) ++ n)[j]? = ((l2 ++ m) ++ n)[j]? := by
  have e : ∀ l : List Value, l.length = c → ((l ++ m) ++ n)[j]? = (m ++ n)[j - c]? := fun l hl => by rw [List.append_assoc, List.getElem?_append_right (by omega), hl]
  rw [e l1 h1, e l2 h2]
structure ApOk (R : SR σ) (P : M.Plain σ) (L : Lt) (fA : Nat) (rv : Value) : Prop where
  z : M.Grows R.sz P
  m : ∀ W, (method 553 L.oT L.ov "Apply").run Tryz.prog W = .ok (fA, rv) W
  c : ∀ (s o : Value) (W : World), (callFunc fA #[rv, s, o]).run Tryz.prog W = .ok (.enter fA #[rv, s, o]) W
  ap : ∀ (I : Nat → Prop) (W : World) (s : σ) (x0 : Value) (op : M.Op), R.rep I W s [x0] → R.sz s ≤ 1000000000000 → (∀ k, I k → k < W.heap.size) →
    Calls Tryz.prog fA #[rv, x0, .agg #[.int .i64 op.c, .int .i64 op.a, .int .i64 op.b]] W fun e w' => ∃ y0 : Value, e = .returned (.tuple #[y0, .agg #[.int .i64 (P.apply s op).2.s, .int .i64 (P.apply s op).2.v]]) ∧
      R.rep (fun k => I k ∨ (W.heap.size ≤ k ∧ k < w'.heap.size)) w' (P.apply s op).1 [y0] ∧ Below W.heap.size W w'
set_option maxRecDepth 20000 in
set_option maxHeartbeats 4000000 in
theorem apply_w {P : M.Plain σ} {fA : Nat} {rv : Value} (hA : ApOk R P L fA rv) (h : RE R L S E w) (ht : t < L.n) {k : Nat} (hk : k < L.n) {v f : Ver σ} (hv : (E.th t).now = some v) (hf : (E.th t).frm = some f) (hsz : R.sz v.st ≤ 1000000000000) :
    Calls Tryz.prog 355 #[.pointer (some ⟨L.g, t * 28, none⟩), .int .i64 (k : Int)] w fun e w' => e = .returned (.tuple #[]) ∧ Left R L S w { E with th := upd E.th t (ETh.apply P L.n (E.th t) k) } w' := by
  obtain ⟨cv, cf, pv, hc, hcv, hcf, -, hfz⟩ := h.cells ht rfl
  have hvr := hcv.2 v hv
  have hfr := hcf.2 f hf
  obtain ⟨x0, xl, rfl⟩ : ∃ x0 l, cv = [x0] ++ [l] := by obtain ⟨c0, c1, rfl⟩ := list_cells hcv.1; exact ⟨_, _, rfl⟩
  obtain ⟨y0, y1, rfl⟩ := list_cells hcf.1
  have hn := h.ok.n64
  have hn1 := h.ok.n1
  have c0 : w.cell? ⟨L.g, t * 28, none⟩ = some (.pointer (some ⟨L.bS, 0, none⟩)) := hc 0 _ (by decide) rfl
  have s1 : w.cell? ⟨L.bS, 1, none⟩ = some (.iface L.oT L.ov) := h.sh.cell_of rfl
  have xc0 := hc 15 _ (by decide) rfl
  have hh0 := hc 21 _ (by decide) rfl
  have hh1 := hc 22 _ (by decide) rfl
  have hh2 := hc 23 _ (by decide) rfl
  have hh0' := fun ob => cell_new hh0 ob
  have hh1' := fun ob => cell_new hh1 ob
  have hh2' := fun ob => cell_new hh2 ob
  have HH := hide h
  have HV := hide (And.intro hvr hfr)
  have HC := hide (And.intro hv hf)
  have HX := hide (show ∀ j, j < 2 * (1 + 1) → w.cell? ⟨L.g, t * 28 + (15 + j), none⟩ = (([x0] ++ [xl]) ++ [y0, y1])[j]? from fun j hj => by
    have q := thCells_mid (L := L) (t := t) (E.th t) ([x0] ++ [xl]) [y0, y1] pv hcv.1 hcf.1 j hj
    obtain ⟨u, hu⟩ : ∃ u, (([x0] ++ [xl]) ++ [y0, y1])[j]? = some u := ⟨_, List.getElem?_eq_getElem (by simp; omega)⟩
    rw [hu] at q ⊢
    exact hc (15 + j) u (by omega) q)
  clear h hc hcv hcf hvr hfr hfz hv hf
  go_enter Tryz.func355, Tryz.ntmps355
  go_wp2
  go_region
  generalize hW1 : World.drew _ = W1
  have hb1 : Below w.heap.size w W1 := by rw [← hW1]; exact Below.drew (below_alloc w _)
  have hro : Row W1 w.heap.size 36 [.int .i64 ((E.th t).heard 0), .int .i64 ((E.th t).heard 1), .int .i64 ((E.th t).heard 2)] := by rw [← hW1]; exact Row.new w [_, _, _] _
  have o0 : W1.cell? ⟨w.heap.size, 0, none⟩ = some (.int .i64 ((E.th t).heard 0)) := hro.cell_of rfl
  have o1 : W1.cell? ⟨w.heap.size, 1, none⟩ = some (.int .i64 ((E.th t).heard 1)) := hro.cell_of rfl
  have o2 : W1.cell? ⟨w.heap.size, 2, none⟩ = some (.int .i64 ((E.th t).heard 2)) := hro.cell_of rfl
  have e0 := cell_later hb1 c0
  have e1 := cell_later hb1 s1
  have xe0 := cell_later hb1 xc0
  have hrep : R.rep (fun k => S k ∧ ¬ L.own k) w v.st [x0] := by
    obtain ⟨sc, b, hsc, hr, -⟩ := HV.out.1
    have : sc = [x0] := (List.append_inj' hsc rfl).1.symm
    rw [← this]; exact hr
  have hIw : ∀ k, (S k ∧ ¬ L.own k) → k < w.heap.size := fun k hk => HH.out.lt k hk.1
  obtain ⟨r, hr⟩ : ∃ r, r = P.apply v.st (M.heardOp (E.th t).heard) := ⟨_, rfl⟩
  have HAP := hide (fun (W : World) (hW : Below w.heap.size w W) => hA.ap (fun k => S k ∧ ¬ L.own k) W v.st x0 (M.heardOp (E.th t).heard) (R.stay (fun k hk hlt => ⟨hk, hW.block k hlt⟩) hrep) hsz (fun k hk => Nat.lt_of_lt_of_le (hIw k hk) hW.size))
  rw [← hr] at HAP
  have HRR := hide hr
  have hm := hA.m
  have hcl := hA.c
  have hgl : L.g < w.heap.size := HH.out.lt _ (HH.out.ow _ own_g)
  have hSl : L.bS < w.heap.size := HH.out.lt _ (HH.out.ow _ own_bS)
  have hW1s : w.heap.size < W1.heap.size := hro.lt
  clear hW1 hro hrep hh0 hh1 hh2 hh0' hh1' hh2' c0 s1 xc0 hr
  go_upto_region 1 with fail
  go_cut [5, 6] (fun st an w' => ∃ (y0 : Value) (b6 : Nat), st = y0 ∧ an = .pointer (some ⟨b6, 0, none⟩) ∧ Row w' b6 94 [.int .i64 r.2.s, .int .i64 r.2.v] ∧ Below w.heap.size w w' ∧ w.heap.size ≤ b6 ∧ R.rep (fun k => (S k ∧ ¬ L.own k) ∨ (w.heap.size ≤ k ∧ k < w'.heap.size)) w' r.1 [y0])
  case first =>
    refine rg0 (S := (fun w' => Below w.heap.size w w' ∧ w'.cell? ⟨L.g, t * 28, none⟩ = some (.pointer (some ⟨L.bS, 0, none⟩)) ∧ w'.cell? ⟨L.bS, 1, none⟩ = some (.iface L.oT L.ov) ∧ w'.cell? ⟨L.g, t * 28 + 15, none⟩ = some x0 ∧ w'.cell? ⟨w.heap.size, 0, none⟩ = some (.int .i64 ((E.th t).heard 0)) ∧ w'.cell? ⟨w.heap.size, 1, none⟩ = some (.int .i64 ((E.th t).heard 1)) ∧ w'.cell? ⟨w.heap.size, 2, none⟩ = some (.int .i64 ((E.th t).heard 2)))) 24 rfl (by kernel_rfl) ?_ (fun hHeld => ?_)
    · exact ⟨Below.drew hb1, e0, e1, xe0, o0, o1, o2⟩
    iterate 17 (refine tk 23 (by rfl) (by kernel_rfl) (by exact fun _ _ _ h => h) (.inl ⟨by rfl, fun w hS => by (try dsimp only at hS); go_simp; (try with_reducible rfl)⟩) (by assumption) ?_; try go_frame)
    refine wpAnyH_ready (rs := [17, 21]) (by kernel_rfl) (by simp) (rc (by rfl) (fun K hK => ?_) (rc (by rfl) (fun K hK => ?_) AllReadyH.nil))
    · go_simp
      refine (HAP.out _ hHeld.1).mono ?_
      rintro e w2 ⟨z0, rfl, hz, hb2⟩
      go_wp2_with fail
      refine hK.out _ _ ?_ (fun hHeld => ?_)
      · exact keepB hb2 hHeld
      clear hK K
      (try go_frame)
      iterate 3 (refine tk 23 (by rfl) (by kernel_rfl) (by exact fun _ _ _ h => h) (.inl ⟨by rfl, fun w hS => by (try dsimp only at hS); go_simp; (try with_reducible rfl)⟩) (by assumption) ?_; try go_frame)
      refine rd1 21 (by rfl) (by kernel_rfl) (fun K hK => ?_)
      go_simp
      refine hK.out _ _ ?_ (fun hHeld => ?_)
      · exact keepB (below_alloc _ _) hHeld
      clear hK K
      (try go_frame)
      iterate 1 (refine tk 23 (by rfl) (by kernel_rfl) (by exact fun _ _ _ h => h) (.inl ⟨by rfl, fun w hS => by (try dsimp only at hS); go_simp; (try with_reducible rfl)⟩) (by assumption) ?_; try go_frame)
      refine rd1 23 (by rfl) (by kernel_rfl) (fun K hK => ?_)
      rw [if_pos (by rfl)]
      have hz2 : W1.heap.size ≤ w2.heap.size := by have q := hb2.size; simp at q; omega
      refine wp_store_mid _ _ _ rfl _ 0 #[.int .i64 r.2.s, .int .i64 r.2.v] rfl rfl ?_ (by kernel_rfl) (by simp [Value.oneCell']) ?_
      · first | exact Row.there (Row.new _ [_, _] _) (by simp) | exact there_later hb2 (Row.there (Row.new _ [_, _] _) (by simp))
      refine hK.out _ _ ?_ (fun hHeld => ?_)
      · exact keepC _ (by omega) (by omega) (by omega) (by omega) hHeld
      clear hK K
      (try go_frame)
      refine wpAnyH_done (by kernel_rfl) ?_ _
      (try go_wp2_with fail)
      go_meet
      case rel =>
        first
          | exact ⟨z0, w2.heap.size, rfl, rfl, ((Row.new' rfl).set 0 _).set 1 _, hHeld.1, by omega, fin6 (b6 := w2.heap.size) hz hIw (by simp; omega) (by omega) (.inr (Nat.le_refl _)) (fun k hk hne => ((Below.heap_setCell _ _ _ k hne).trans (Below.heap_setCell _ _ _ k hne)).trans (Below.heap_alloc w2 _ k hk)) (by simp [World.setCells, World.setCell])⟩
          | exact ⟨z0, W1.heap.size, rfl, rfl, (((show Row (W1.alloc _).drew W1.heap.size 94 [_, _] from Row.new W1 [_, _] _).old hb2).set 0 _).set 1 _, hHeld.1, by omega, fin6 (b6 := W1.heap.size) hz hIw (by simp; omega) (by omega) (.inl (by simp)) (fun k hk hne => (Below.heap_setCell _ _ _ k hne).trans (Below.heap_setCell _ _ _ k hne)) (by simp [World.setCells, World.setCell])⟩
    · go_simp
      refine hK.out _ _ ?_ (fun hHeld => ?_)
      · exact keepB (below_alloc _ _) hHeld
      clear hK K
      (try go_frame)
      refine rd1 17 (by rfl) (by kernel_rfl) (fun K hK => ?_)
      go_simp
      refine (HAP.out _ hHeld.1).mono ?_
      rintro e w2 ⟨z0, rfl, hz, hb2⟩
      go_wp2_with fail
      refine hK.out _ _ ?_ (fun hHeld => ?_)
      · exact keepB hb2 hHeld
      clear hK K
      (try go_frame)
      iterate 3 (refine tk 22 (by rfl) (by kernel_rfl) (by exact fun _ _ _ h => h) (.inl ⟨by rfl, fun w hS => by (try dsimp only at hS); go_simp; (try with_reducible rfl)⟩) (by assumption) ?_; try go_frame)
      iterate 1 (refine tk 23 (by rfl) (by kernel_rfl) (by exact fun _ _ _ h => h) (.inl ⟨by rfl, fun w hS => by (try dsimp only at hS); go_simp; (try with_reducible rfl)⟩) (by assumption) ?_; try go_frame)
      refine rd1 23 (by rfl) (by kernel_rfl) (fun K hK => ?_)
      rw [if_pos (by rfl)]
      have hz2 : W1.heap.size ≤ w2.heap.size := by have q := hb2.size; simp at q; omega
      refine wp_store_mid _ _ _ rfl _ 0 #[.int .i64 r.2.s, .int .i64 r.2.v] rfl rfl ?_ (by kernel_rfl) (by simp [Value.oneCell']) ?_
      · first | exact Row.there (Row.new _ [_, _] _) (by simp) | exact there_later hb2 (Row.there (Row.new _ [_, _] _) (by simp))
      refine hK.out _ _ ?_ (fun hHeld => ?_)
      · exact keepC _ (by omega) (by omega) (by omega) (by omega) hHeld
      clear hK K
      (try go_frame)
      refine wpAnyH_done (by kernel_rfl) ?_ _
      (try go_wp2_with fail)
      go_meet
      case rel =>
        first
          | exact ⟨z0, w2.heap.size, rfl, rfl, ((Row.new' rfl).set 0 _).set 1 _, hHeld.1, by omega, fin6 (b6 := w2.heap.size) hz hIw (by simp; omega) (by omega) (.inr (Nat.le_refl _)) (fun k hk hne => ((Below.heap_setCell _ _ _ k hne).trans (Below.heap_setCell _ _ _ k hne)).trans (Below.heap_alloc w2 _ k hk)) (by simp [World.setCells, World.setCell])⟩
          | exact ⟨z0, W1.heap.size, rfl, rfl, (((show Row (W1.alloc _).drew W1.heap.size 94 [_, _] from Row.new W1 [_, _] _).old hb2).set 0 _).set 1 _, hHeld.1, by omega, fin6 (b6 := W1.heap.size) hz hIw (by simp; omega) (by omega) (.inl (by simp)) (fun k hk hne => (Below.heap_setCell _ _ _ k hne).trans (Below.heap_setCell _ _ _ k hne)) (by simp [World.setCells, World.setCell])⟩
  case rest =>
    obtain ⟨_, b6, rfl, rfl, hr6, hbc, h6, hrp⟩ := hcut
    obtain ⟨q0, rfl⟩ := R.shape hrp u5 (by simp)
    have hst : ∀ k, (S k ∧ ¬ L.own k) → k < w.heap.size → (grown S w wc k ∧ ¬ L.own k) ∧ wc.heap[k]? = w.heap[k]? := fun k hk hlt => ⟨⟨.inl hk.1, hk.2⟩, hbc.block k hlt⟩
    have rp1 : R.rep (fun k => grown S w wc k ∧ ¬ L.own k) wc r.1 [.pointer q0] := R.stay (fun k (hk : (S k ∧ ¬ L.own k) ∨ (w.heap.size ≤ k ∧ k < wc.heap.size)) _ => ⟨by
      rcases hk with hk | hk
      · exact ⟨.inl hk.1, hk.2⟩
      · exact ⟨.inr hk, fun q => by have := HH.out.lt _ (HH.out.ow _ q); omega⟩, rfl⟩) hrp
    have vr : VRep R (fun k => grown S w wc k ∧ ¬ L.own k) wc { v with st := r.1 } ([.pointer q0] ++ [xl]) := by
      obtain ⟨sc, b, hsc, -, hbb⟩ := HV.out.1
      have e := (List.append_inj' hsc rfl).2
      exact ⟨[.pointer q0], b, by rw [e], rp1, BRep.stay hst hIw _ _ hbb⟩
    have fr := VRep.stay hst hIw HV.out.2
    have hLc := Left.below HH.out hbc
    obtain ⟨r2, k2⟩ := hLc.re.set_vers ht [.pointer q0] 0 (by simp) (by simp) vr fr (fun j hj => by
      by_cases q : j < 1
      · rw [if_pos ⟨Nat.zero_le _, by simpa using q⟩, List.append_assoc, List.getElem?_append_left (by simpa using q)]
        rfl
      · rw [if_neg (by simpa using q), hbc.cell (p := ⟨L.g, t * 28 + (15 + j), none⟩) hgl, HX.out j hj]
        exact tail_eq (c := 1) [x0] [.pointer q0] [xl] [y0, y1] rfl rfl (by omega)) { E.th t with now := some { v with st := r.1 } } (by rw [← HC.out.2])
    have hL2 := hLc.next (Left.of r2 k2 rfl)
    obtain ⟨cv5, cf5, pv5, hc5, hcv5, hcf5, -, hf5⟩ := hLc.re.cells ht rfl
    obtain ⟨c0, c1, rfl⟩ := list_cells hcv5.1
    obtain ⟨d0, d1, rfl⟩ := list_cells hcf5.1
    have oc0 := hc5 15 _ (by decide) rfl
    have of0 := hf5 (t * 28 + 15)
    have HL2 := hide hL2
    have HR6 := hide (And.intro hr6 h6)
    have HBC := hide hbc
    clear hst rp1 vr fr hLc r2 k2 hL2 hc5 hcv5 hcf5 hf5 hr6 hrp hbc hm hcl
    go_upto_region 3 with fail
    generalize hW2 : World.setCell _ _ _ = W2
    have hL2 : Left R L S w { E with th := upd E.th t { E.th t with now := some { v with st := r.1 } } } W2 := by rw [← hW2]; exact HL2.out
    have hr2 : Row W2 b6 94 [.int .i64 r.2.s, .int .i64 r.2.v] := by rw [← hW2]; exact (show Row (wc.setCells L.g (t * 28 + (15 + 0)) [.pointer q0]) b6 94 _ from Row.setCells' (by omega) _ _ HR6.out.1)
    clear hW2 HL2
    obtain ⟨cv6, cf6, pv6, hc6, -, -, -, -⟩ := hL2.re.cells ht (upd_same _ _ _)
    have g0 : W2.cell? ⟨L.g, t * 28, none⟩ = some (.pointer (some ⟨L.bS, 0, none⟩)) := hc6 0 _ (by decide) rfl
    have g14 := hc6 14 _ (by decide) rfl
    have gs0 : W2.cell? ⟨L.bS, 0, none⟩ = some (.int .i64 (L.n : Int)) := hL2.re.sh.cell_of rfl
    have ga0 : W2.cell? ⟨b6, 0, none⟩ = some (.int .i64 r.2.s) := hr2.cell_of rfl
    have ga1 : W2.cell? ⟨b6, 1, none⟩ = some (.int .i64 r.2.v) := hr2.cell_of rfl
    have hsk : M.statusAt L.n k < M.wds L.n := by unfold M.statusAt M.wds; omega
    have hvk : M.valueAt L.n k < M.wds L.n := by unfold M.valueAt M.wds; omega
    have hwd : M.wds L.n ≤ 200 := by unfold M.wds M.tw; omega
    have th1 : W2.there (L.gD t) (M.statusAt L.n k) 1 := (hL2.re.gd t ht).there hsk
    have th2 : W2.there (L.gD t) (M.valueAt L.n k) 1 := (hL2.re.gd t ht).there hvk
    have ngD : L.g ≠ L.gD t := by obtain ⟨T, q, -⟩ := HH.out.th; exact Row.apart q (HH.out.gd t ht) (by decide)
    have nSD : L.bS ≠ L.gD t := Row.apart HH.out.sh (HH.out.gd t ht) (by decide)
    have n6D : b6 ≠ L.gD t := fun q => by have := HH.out.lt _ (HH.out.ow _ (own_gD ht)); have := HR6.out.2; omega
    have HL2 := hide hL2
    generalize hsk' : M.statusAt L.n k = sk at *
    generalize hvk' : M.valueAt L.n k = vk at *
    have hsk2 : (sk : Int) < (M.wds L.n : Int) := by omega
    have hvk2 : (vk : Int) < (M.wds L.n : Int) := by omega
    clear hL2 hr2 hc6
    go_cut [6] (fun an w' => an = .pointer (some ⟨b6, 0, none⟩) ∧ Left R L S w { E with th := upd (upd E.th t { E.th t with now := some { v with st := r.1 } }) t { (upd E.th t { E.th t with now := some { v with st := r.1 } }) t with dw := upd ((upd E.th t { E.th t with now := some { v with st := r.1 } }) t).dw sk r.2.s } } w' ∧ w'.cell? ⟨L.g, t * 28, none⟩ = some (.pointer (some ⟨L.bS, 0, none⟩)) ∧ w'.cell? ⟨L.g, t * 28 + 14, none⟩ = some (.slice (some ⟨L.gD t, 0, none⟩) (M.wds L.n) (M.wds L.n)) ∧ w'.cell? ⟨L.bS, 0, none⟩ = some (.int .i64 (L.n : Int)) ∧ w'.cell? ⟨b6, 1, none⟩ = some (.int .i64 r.2.v) ∧ w'.there (L.gD t) vk 1)
    case first =>
      refine rg0 (S := (fun w' => w'.cell? ⟨L.g, t * 28, none⟩ = some (.pointer (some ⟨L.bS, 0, none⟩)) ∧ w'.cell? ⟨L.g, t * 28 + 14, none⟩ = some (.slice (some ⟨L.gD t, 0, none⟩) (M.wds L.n) (M.wds L.n)) ∧ w'.cell? ⟨L.bS, 0, none⟩ = some (.int .i64 (L.n : Int)) ∧ w'.cell? ⟨b6, 0, none⟩ = some (.int .i64 r.2.s) ∧ w'.cell? ⟨b6, 1, none⟩ = some (.int .i64 r.2.v) ∧ w'.there (L.gD t) (sk) 1 ∧ w'.there (L.gD t) (vk) 1)) 18 rfl (by kernel_rfl) ?_ (fun hHeld => ?_)
      · exact ⟨g0, g14, gs0, ga0, ga1, th1, th2⟩
      iterate 13 (refine tk 17 (by rfl) (by kernel_rfl) (by exact fun _ _ _ h => h) (.inl ⟨by rfl, fun w hS => by (try dsimp only at hS); go_simp; (try with_reducible rfl)⟩) (by assumption) ?_; try go_frame)
      iterate 2 (refine tk 18 (by rfl) (by kernel_rfl) (by exact fun _ _ _ h => h) (.inl ⟨by rfl, fun w hS => by (try dsimp only at hS); go_simp; (try with_reducible rfl)⟩) (by assumption) ?_; try go_frame)
      refine rd1 13 (by rfl) (by kernel_rfl) (fun K hK => ?_)
      go_simp
      refine (statusAt_any L.n k _ hn1 hn hk).mono ?_
      rintro e w3 ⟨rfl, hb3⟩
      rw [hsk']
      go_wp2_with fail
      refine hK.out _ _ ?_ (fun hHeld => ?_)
      · exact ⟨cell_later hb3 hHeld.1, cell_later hb3 hHeld.2.1, cell_later hb3 hHeld.2.2.1, cell_later hb3 hHeld.2.2.2.1, cell_later hb3 hHeld.2.2.2.2.1, there_later hb3 hHeld.2.2.2.2.2.1, there_later hb3 hHeld.2.2.2.2.2.2⟩
      clear hK K
      (try go_frame)
      iterate 1 (refine tk 17 (by rfl) (by kernel_rfl) (by exact fun _ _ _ h => h) (.inl ⟨by rfl, fun w hS => by (try dsimp only at hS); go_simp; (try with_reducible rfl)⟩) (by assumption) ?_; try go_frame)
      refine rd1 17 (by rfl) (by kernel_rfl) (fun K hK => ?_)
      rw [if_pos (by rfl)]
      refine wp_store_one _ _ _ rfl (L.gD t) sk (.int .i64 r.2.s) rfl rfl rfl rfl hHeld.2.2.2.2.2.1 (by kernel_rfl) ?_
      refine hK.out _ _ ?_ (fun hHeld => ?_)
      · exact ⟨cell_kept hHeld.1 (by first | exact .inr (by dsimp only; omega) | exact .inl (by assumption) | exact .inl (Ne.symm (by assumption))), cell_kept hHeld.2.1 (by first | exact .inr (by dsimp only; omega) | exact .inl (by assumption) | exact .inl (Ne.symm (by assumption))), cell_kept hHeld.2.2.1 (by first | exact .inr (by dsimp only; omega) | exact .inl (by assumption) | exact .inl (Ne.symm (by assumption))), cell_kept hHeld.2.2.2.1 (by first | exact .inr (by dsimp only; omega) | exact .inl (by assumption) | exact .inl (Ne.symm (by assumption))), cell_kept hHeld.2.2.2.2.1 (by first | exact .inr (by dsimp only; omega) | exact .inl (by assumption) | exact .inl (Ne.symm (by assumption))), there_set hHeld.2.2.2.2.2.1 _ rfl _, there_set hHeld.2.2.2.2.2.2 _ rfl _⟩
      clear hK K
      (try go_frame)
      refine wpAnyH_done (by kernel_rfl) ?_ _
      have hL3 := HL2.out.next (Left.below HL2.out.re (Below.undrew hb3))
      have hL4 := hL3.next (Left.of (hL3.re.set_draft t ht sk r.2.s) (Fr.set w3 (own_gD ht) _) rfl)
      have HL4 := hide hL4
      clear hL3 hL4 hb3
      (try go_wp2_with fail)
      go_meet
      case rel => exact ⟨rfl, HL4.out, hHeld.1, hHeld.2.1, hHeld.2.2.1, hHeld.2.2.2.2.1, hHeld.2.2.2.2.2.2⟩
    case rest =>
      obtain ⟨rfl, hL5, i0, i14, is0, ia1, ith⟩ := hcut
      have HL5 := hide hL5
      clear hL5 g0 g14 gs0 ga0 ga1 th1 th2
      go_upto_region 4 with fail
      refine rg0 (S := (fun w' => w'.cell? ⟨L.g, t * 28, none⟩ = some (.pointer (some ⟨L.bS, 0, none⟩)) ∧ w'.cell? ⟨L.g, t * 28 + 14, none⟩ = some (.slice (some ⟨L.gD t, 0, none⟩) (M.wds L.n) (M.wds L.n)) ∧ w'.cell? ⟨L.bS, 0, none⟩ = some (.int .i64 (L.n : Int)) ∧ w'.cell? ⟨b6, 1, none⟩ = some (.int .i64 r.2.v) ∧ w'.there (L.gD t) (vk) 1)) 18 rfl (by kernel_rfl) ?_ (fun hHeld => ?_)
      · exact ⟨i0, i14, is0, ia1, ith⟩
      iterate 13 (refine tk 17 (by rfl) (by kernel_rfl) (by exact fun _ _ _ h => h) (.inl ⟨by rfl, fun w hS => by (try dsimp only at hS); go_simp; (try with_reducible rfl)⟩) (by assumption) ?_; try go_frame)
      iterate 2 (refine tk 18 (by rfl) (by kernel_rfl) (by exact fun _ _ _ h => h) (.inl ⟨by rfl, fun w hS => by (try dsimp only at hS); go_simp; (try with_reducible rfl)⟩) (by assumption) ?_; try go_frame)
      refine rd1 13 (by rfl) (by kernel_rfl) (fun K hK => ?_)
      go_simp
      refine (valueAt_any L.n k _ hn1 hn hk).mono ?_
      rintro e w7 ⟨rfl, hb7⟩
      rw [hvk']
      go_wp2_with fail
      refine hK.out _ _ ?_ (fun hHeld => ?_)
      · exact ⟨cell_later hb7 hHeld.1, cell_later hb7 hHeld.2.1, cell_later hb7 hHeld.2.2.1, cell_later hb7 hHeld.2.2.2.1, there_later hb7 hHeld.2.2.2.2⟩
      clear hK K
      (try go_frame)
      iterate 1 (refine tk 17 (by rfl) (by kernel_rfl) (by exact fun _ _ _ h => h) (.inl ⟨by rfl, fun w hS => by (try dsimp only at hS); go_simp; (try with_reducible rfl)⟩) (by assumption) ?_; try go_frame)
      refine rd1 17 (by rfl) (by kernel_rfl) (fun K hK => ?_)
      rw [if_pos (by rfl)]
      refine wp_store_one _ _ _ rfl (L.gD t) vk (.int .i64 r.2.v) rfl rfl rfl rfl hHeld.2.2.2.2 (by kernel_rfl) ?_
      refine hK.out _ _ ?_ (fun hHeld => ?_)
      · exact ⟨cell_kept hHeld.1 (by first | exact .inr (by dsimp only; omega) | exact .inl (by assumption) | exact .inl (Ne.symm (by assumption))), cell_kept hHeld.2.1 (by first | exact .inr (by dsimp only; omega) | exact .inl (by assumption) | exact .inl (Ne.symm (by assumption))), cell_kept hHeld.2.2.1 (by first | exact .inr (by dsimp only; omega) | exact .inl (by assumption) | exact .inl (Ne.symm (by assumption))), cell_kept hHeld.2.2.2.1 (by first | exact .inr (by dsimp only; omega) | exact .inl (by assumption) | exact .inl (Ne.symm (by assumption))), there_set hHeld.2.2.2.2 _ rfl _⟩
      clear hK K
      (try go_frame)
      refine wpAnyH_done (by kernel_rfl) ?_ _
      have hL7 := HL5.out.next (Left.below HL5.out.re (Below.undrew hb7))
      have hL8 := hL7.next (Left.of (hL7.re.set_draft t ht vk r.2.v) (Fr.set w7 (own_gD ht) _) rfl)
      have HL8 := hide hL8
      clear hL7 hL8 hb7 hHeld
      go_wp2
      refine bodyPost_end (v := .tuple #[]) (by simp [results, Tryz.results355, go_sem]) rfl ⟨rfl, HL8.out.cast ?_⟩
      simp only [upd_upd, upd_same]
      unfold ETh.apply
      rw [HC.out.1]
      simp only [← HRR.out, hsk', hvk']
end
end Go.Proofs.YtefjhnhdagolhaaGreat.tree
