import Derived.Test.YtefjhnhdagolhaaGreatQ14
namespace Go.Proofs.YtefjhnhdagolhaaGreat
open Go.RowKit
open M (upd upd_same upd_other RSt RTh Dd PI)
attribute [local go_sem ↓] Go.wp_at_zero Go.wp_at_succ
theorem info_deed : (Tryz.prog.info? 77).map (fun i => (i.zero, i.size, i.bytes)) = some (some (.agg #[.int .i64 0, .int .i64 0, .int .i64 0, .int .i64 0, .int .i64 0, .int .i64 0, .int .i64 0, .int .i64 0, .int .i64 0, .int .i64 0, .int .i64 0, .int .i64 0]), 12, 96) := by kernel_rfl
def uv (u : Nat → Option Nat) (t : Nat) : Int := match u t with | none => -1 | some i => (i : Int)
def uvs (n : Nat) (u : Nat → Option Nat) : List Int := (List.range n).map (uv u)
def sqs (n : Nat) (Y : RSt) : List Int := (List.range n).map fun t => ((Y.th t).ops.length : Int)
theorem range_map_get {f : Nat → Int} {n t : Nat} (h : t < n) : ((List.range n).map f)[t]? = some (f t) := by rw [List.getElem?_map, List.getElem?_range h]; rfl
theorem range_map_set {f g : Nat → Int} {n t : Nat} {x : Int} (h : t < n) (hx : g t = x) (ho : ∀ k, k ≠ t → g k = f k) : ((List.range n).map f).set t x = (List.range n).map g := by
  apply List.ext_getElem?
  intro j
  by_cases e : j = t
  · subst e
    rw [List.getElem?_set_self (by simpa using h), range_map_get h, hx]
  · rw [List.getElem?_set_ne (Ne.symm e), List.getElem?_map, List.getElem?_map]
    by_cases hj : j < n
    · rw [List.getElem?_range hj]; show some (f j) = some (g j); rw [ho j e]
    · rw [List.getElem?_eq_none (by simpa using hj)]; rfl
theorem uvs_set {n t : Nat} {u : Nat → Option Nat} (h : t < n) (i : Nat) : (uvs n u).set t (i : Int) = uvs n (upd u t (some i)) :=
  range_map_set h (by unfold uv; rw [upd_same]) (fun k hk => by unfold uv; rw [upd_other _ _ hk])
theorem uvs_none {n t : Nat} {u : Nat → Option Nat} (h : t < n) : (uvs n u).set t (-1) = uvs n (upd u t none) :=
  range_map_set h (by unfold uv; rw [upd_same]) (fun k hk => by unfold uv; rw [upd_other _ _ hk])
theorem sqs_begin {n t : Nat} {Y : RSt} {o : M.Op} (h : t < n) : (sqs n Y).set t (((Y.th t).ops.length : Int) + 1) = sqs n (M.rbegin Y t o) :=
  range_map_set h (by simp [M.rbegin, RSt.set, upd_same]) (fun k hk => by simp only [M.rbegin, RSt.set, upd_other _ _ hk])
theorem sqs_step {n cap t m : Nat} {Y : RSt} : sqs m (M.rstep n cap Y t).1 = sqs m Y := by unfold sqs; simp only [M.rstep_ops]
section
variable {σ : Type} {P : M.Plain σ} {tell : σ → List Int} {D : DL} {X : (Nat → Prop) → RSt → World → Prop} {A : PL} {S : Nat → Prop} {w0 : QW} {w w1 : World} {vd vu vs : Value} {Y Y' : RSt} {ds : List Dd} {us ss : List Int} {c : Nat} {fBe fSt fAn fDo fOr fTe fBo K t : Nat} {u : Nat → Option Nat}
def PS (P : M.Plain σ) (X : (Nat → Prop) → RSt → World → Prop) (D : DL) (A : PL) (w0 : QW) (K : Nat) (Y : RSt) (ds : List Dd) (u : Nat → Option Nat) (c : Nat) (w : World) : Prop :=
  ∃ S vd vu vs, PM X D A w0 S vd vu vs Y ds (uvs D.n u) (sqs D.n Y) c w ∧ PI P D.n D.cap Y ds u c ∧ Lim D K Y ∧ c ≤ K
theorem PS.below (xo : XOk P tell D A.tE A.bN X fBe fSt fAn fDo fOr fTe fBo) (h : PS P X D A w0 K Y ds u c w) (hb : Below w.heap.size w w1) : PS P X D A w0 K Y ds u c w1 := by
  obtain ⟨S, vd, vu, vs, hm, hp⟩ := h
  exact ⟨S, vd, vu, vs, hm.below xo hb, hp⟩
theorem PS.mono (h : PS P X D A w0 K Y ds u c w) {K' : Nat} (hk : K ≤ K') : PS P X D A w0 K' Y ds u c w := by
  obtain ⟨S, vd, vu, vs, hm, hp, hl, hc⟩ := h
  exact ⟨S, vd, vu, vs, hm, hp, hl.mono hk, by omega⟩
theorem keepP {w w' : World} {a1 a2 a3 a4 a5 a6 o1 o2 o3 o4 o5 o6 b o n : Nat} {v1 v2 v3 v4 v5 v6 : Value} (hb : Below w.heap.size w w') (h : w.cell? ⟨a1, o1, none⟩ = some v1 ∧ w.cell? ⟨a2, o2, none⟩ = some v2 ∧ w.cell? ⟨a3, o3, none⟩ = some v3 ∧ w.cell? ⟨a4, o4, none⟩ = some v4 ∧ w.cell? ⟨a5, o5, none⟩ = some v5 ∧ w.cell? ⟨a6, o6, none⟩ = some v6 ∧ w.there b o n) :
    w'.cell? ⟨a1, o1, none⟩ = some v1 ∧ w'.cell? ⟨a2, o2, none⟩ = some v2 ∧ w'.cell? ⟨a3, o3, none⟩ = some v3 ∧ w'.cell? ⟨a4, o4, none⟩ = some v4 ∧ w'.cell? ⟨a5, o5, none⟩ = some v5 ∧ w'.cell? ⟨a6, o6, none⟩ = some v6 ∧ w'.there b o n :=
  ⟨cell_later hb h.1, cell_later hb h.2.1, cell_later hb h.2.2.1, cell_later hb h.2.2.2.1, cell_later hb h.2.2.2.2.1, cell_later hb h.2.2.2.2.2.1, there_later hb h.2.2.2.2.2.2⟩
theorem keepPG {w w' : World} {row : Option Nat} {a1 a2 a3 a4 a5 a6 o1 o2 o3 o4 o5 o6 b o : Nat} {v1 v2 v3 v4 v5 v6 : Value} (hg : w.grownBy w' row) (n1 : some a1 ≠ row) (n2 : some a2 ≠ row) (n3 : some a3 ≠ row) (n4 : some a4 ≠ row) (n5 : some a5 ≠ row) (n6 : some a6 ≠ row) (n7 : some b ≠ row) (h : w.cell? ⟨a1, o1, none⟩ = some v1 ∧ w.cell? ⟨a2, o2, none⟩ = some v2 ∧ w.cell? ⟨a3, o3, none⟩ = some v3 ∧ w.cell? ⟨a4, o4, none⟩ = some v4 ∧ w.cell? ⟨a5, o5, none⟩ = some v5 ∧ w.cell? ⟨a6, o6, none⟩ = some v6 ∧ w.there b o 1) :
    w'.cell? ⟨a1, o1, none⟩ = some v1 ∧ w'.cell? ⟨a2, o2, none⟩ = some v2 ∧ w'.cell? ⟨a3, o3, none⟩ = some v3 ∧ w'.cell? ⟨a4, o4, none⟩ = some v4 ∧ w'.cell? ⟨a5, o5, none⟩ = some v5 ∧ w'.cell? ⟨a6, o6, none⟩ = some v6 ∧ w'.there b o 1 :=
  ⟨hg.cell h.1 n1, hg.cell h.2.1 n2, hg.cell h.2.2.1 n3, hg.cell h.2.2.2.1 n4, hg.cell h.2.2.2.2.1 n5, hg.cell h.2.2.2.2.2.1 n6, (keepG9 hg ⟨h.1, h.2.2.2.2.2.2⟩ n7 n1).2⟩
theorem PM.push (xo : XOk P tell D A.tE A.bN X fBe fSt fAn fDo fOr fTe fBo) (h : PM X D A w0 S vd vu vs Y ds us ss c w) {W w7 : World} (hb : Below w.heap.size w W) (hg : W.grownBy w7 vd.ownBlock) {g gc : Nat} {d : Dd} (ho : w7.ownsRow 0 77 12 (.slice (some ⟨g, 0, none⟩) (ds.length + 1) gc) (ds.length + 1) (ddcs ds ++ ddc d)) (hat : vd.ownBlock = some g ∨ g = W.heap.size) :
    PM X D A w0 S (.slice (some ⟨g, 0, none⟩) (ds.length + 1) gc) vu vs Y (ds ++ [d]) us ss c (w7.setCell ⟨A.bP, 8, none⟩ (.slice (some ⟨g, 0, none⟩) (ds.length + 1) gc)) := by
  have hz := hb.size
  have hr := h.row.lt
  have hx := h.obj.lt
  obtain ⟨n1, n2, n3, n4, n5, n6, n7, n8⟩ := h.ne
  have hk : ∀ k, k < w.heap.size → vd.ownBlock ≠ some k → w7.heap[k]? = w.heap[k]? := fun k hk hn => (hg.block k (by omega) (fun e => hn e.symm)).trans (hb.block k hk)
  have hgn : ∀ k, k < w.heap.size → vd.ownBlock ≠ some k → k ≠ g := fun k hk hn e => by
    rcases hat with q | q
    · exact hn (by rw [e]; exact q)
    · omega
  have hgl : ¬ w0.q g := by
    rcases hat with q | q
    · exact h.lo.2.2.2 g (.inl q)
    · exact fun c => by have := h.ql g c; have := h.bl.size; omega
  have hgP : g ≠ A.bP := fun e => hgn A.bP hr n2 e.symm
  have hz7 := hg.size
  have hzS : (w7.setCell ⟨A.bP, 8, none⟩ (.slice (some ⟨g, 0, none⟩) (ds.length + 1) gc)).heap.size = w7.heap.size := by simp [World.setCell]
  have hob : (Value.slice (some ⟨g, 0, none⟩) (ds.length + 1) gc).ownBlock = some g := rfl
  have hne : ∀ k, S k → k ≠ A.bP := fun k hS => (h.sx k hS).1
  exact {
    row := (h.row.of_block (hk _ hr n2)).set 8 _
    obj := (h.obj.of_block (hk _ hx n5)).setOther (Ne.symm n1) _
    x := xo.stay _ _ _ _ _ h.x (fun k hS => (set_block (hne k hS)).trans (hk k (h.xl k hS) (h.sx k hS).2.2.1)) (fun _ q => q) (fun k hS => by rw [hzS]; have := h.xl k hS; omega)
    xl := fun k hS => by rw [hzS]; have := h.xl k hS; omega
    od := by
      rw [List.length_append, ddcs_append]
      have e : ddcs [d] = ddc d := by simp [ddcs]
      rw [e]
      exact owns_block ho fun k e => set_block (by rw [hob] at e; injection e with e; rw [← e]; exact hgP)
    ou := owns_block h.ou fun k e => (set_block (fun q => n3 (by rw [← q]; exact e))).trans (hk k (h.ou.lt k e).2 (fun q => (n8 k q).1 e))
    os := owns_block h.os fun k e => (set_block (fun q => n4 (by rw [← q]; exact e))).trans (hk k (h.os.lt k e).2 (fun q => (n8 k q).2 e))
    sx := fun k hS => ⟨(h.sx k hS).1, (h.sx k hS).2.1, fun e => by rw [hob] at e; injection e with e; exact hgn k (h.xl k hS) (h.sx k hS).2.2.1 e.symm, (h.sx k hS).2.2.2⟩
    nu := h.nu
    lo := ⟨h.lo.1, h.lo.2.1, h.lo.2.2.1, fun k e => by
      rcases e with e | e
      · rw [hob] at e; injection e with e; rw [← e]; exact hgl
      · exact h.lo.2.2.2 k (.inr e)⟩
    ql := h.ql
    bl := below_low (low_of_fr (h.bl.trans (Fr.of_below hb)) (U := fun k => vd.ownBlock = some k) ⟨hg.os, hg.tape, hg.output, hg.size, fun k hk hn => hg.block k hk (fun e => hn e.symm)⟩ (fun q e => h.lo.2.2.2 q (.inl e))) h.lo.1 _ _ }
set_option maxRecDepth 20000 in
set_option maxHeartbeats 8000000 in
theorem begins_w (xo : XOk P tell D A.tE A.bN X fBe fSt fAn fDo fOr fTe fBo) (h : PS P X D A w0 K Y ds u c w) (h64 : D.n ≤ 64) (ht : t < D.n) (o : M.Op) (hK : K + 1 ≤ 900000000) :
    Calls Tryz.prog 69 #[.pointer (some ⟨A.bP, 0, none⟩), .int .i64 (t : Int), .agg #[.int .i64 o.c, .int .i64 o.a, .int .i64 o.b]] w fun e w' => e = .returned (.bool true) ∧ ∃ ds' u', PS P X D A w0 (K + 1) (beY D.n Y (t : Int) o) ds' u' (c + 1) w' := by
  obtain ⟨di, hdi, hdz⟩ := Option.map_eq_some_iff.1 info_deed
  simp only [Prod.mk.injEq] at hdz
  obtain ⟨hd1, hd2, hd3⟩ := hdz
  have HDI := hide hdi
  have HD1 := hide hd1
  have HD2 := hide hd2
  have HD3 := hide hd3
  clear hdi hd1 hd2 hd3
  obtain ⟨S, vd, vu, vs, hm, hp, hl, hc⟩ := h
  have hmx := xo.mBe
  have hcx := xo.cBe
  have hir : inR D.n (t : Int) := ⟨by omega, by omega⟩
  have hdl : ds.length ≤ 100000000000 := by
    have h1 : ∀ d ∈ ds, d.t < D.n := fun d hd => (hp.lt hd).1
    have h2 := M.length_counts D.n K (ds.map Dd.t) (fun k hk => by obtain ⟨d, hd, e⟩ := List.mem_map.mp hk; rw [← e]; exact h1 d hd) (fun k hk => by rw [← hp.ln k hk]; exact hl.1 k hk)
    rw [List.length_map] at h2
    have : D.n * K ≤ 64 * K := Nat.mul_le_mul_right _ h64
    omega
  have hw : IntKind.i64.wrap ((c : Int) + 1) = (c : Int) + 1 := wrapi _ (by omega) (by omega)
  go_enter Tryz.func69, Tryz.ntmps69
  go_upto_region 1 with fail
  generalize hW : World.alloc w _ = W
  have hb : Below w.heap.size w W := by rw [← hW]; exact below_alloc w _
  have hr : Row W w.heap.size 36 [.int .i64 o.c, .int .i64 o.a, .int .i64 o.b] := by rw [← hW]; exact Row.new' rfl
  have hbP : w.heap.size ≠ A.bP := by have := hm.row.lt; omega
  have hm1 := hm.below xo hb
  have p11 : W.cell? ⟨A.bP, 11, none⟩ = some (.int .i64 (c : Int)) := hm1.row.cell_of rfl
  have q11 := hm1.row.frozen 11
  have hm2 := hm1.setP xo (c + 1) ((c : Int) + 1) (by push_cast; rfl)
  have hr2 := hr.setOther (a := ⟨A.bP, 11, none⟩) hbP (.int .i64 ((c : Int) + 1))
  have hzS := hm.xl
  have HX := hide xo
  have HP := hide hp
  have HL := hide hl
  have HM2 := hide hm2
  have HR2 := hide hr2
  clear hW hr hb hm hm1 hm2 hr2 xo hp hl
  go_upto_region 2 with fail
  generalize hW2 : World.setCell W ⟨A.bP, 11, none⟩ (.int .i64 ((c : Int) + 1)) = W2 at *
  have hz2 : w.heap.size < W2.heap.size := HR2.out.lt
  have d0 : W2.cell? ⟨A.bP, 0, none⟩ = some (.pointer (some ⟨A.bX, 0, none⟩)) := HM2.out.row.cell_of (i := 0) rfl
  have dx : W2.cell? ⟨A.bX, 0, none⟩ = some (.iface A.tE (.pointer (some ⟨A.bN, 0, none⟩))) := HM2.out.obj.cell_of (i := 0) rfl
  have b0 := HR2.out.cell_of (i := 0) rfl
  have b1 := HR2.out.cell_of (i := 1) rfl
  have b2 := HR2.out.cell_of (i := 2) rfl
  have hdr : Below W2.heap.size W2 W2.drew := Below.drew (Below.refl _ _)
  have HM3 := hide (HM2.out.below HX.out hdr)
  have HBX := hide (HX.out.be _ _ _ (t : Int) o HM3.out.x)
  have hnS : ¬ S w.heap.size := fun q => by have := hzS _ q; omega
  have HROW := hide (show ∀ w3, XGo X S W2.drew (beY D.n Y (t : Int) o) w3 → Row w3 w.heap.size 36 [.int .i64 o.c, .int .i64 o.a, .int .i64 o.b] ∧ PM X D A w0 (Grow S W2.drew w3) vd vu vs (beY D.n Y (t : Int) o) ds (uvs D.n u) (sqs D.n Y) (c + 1) w3 from fun w3 hg => ⟨HR2.out.of_block (hg.fr.block _ hz2 hnS), HM3.out.xgo HX.out hg⟩)
  clear p11 q11 hW2 hdr
  refine rg0 (S := (fun w' => w'.cell? ⟨A.bP, 0, none⟩ = some (.pointer (some ⟨A.bX, 0, none⟩)) ∧ w'.cell? ⟨A.bX, 0, none⟩ = some (.iface A.tE (.pointer (some ⟨A.bN, 0, none⟩))) ∧ w'.cell? ⟨w.heap.size, 0, none⟩ = some (.int .i64 o.c) ∧ w'.cell? ⟨w.heap.size, 1, none⟩ = some (.int .i64 o.a) ∧ w'.cell? ⟨w.heap.size, 2, none⟩ = some (.int .i64 o.b))) 11 rfl (by kernel_rfl) ?_ (fun hHeld => ?_)
  · exact ⟨d0, dx, b0, b1, b2⟩
  iterate 9 (refine tk 10 (by rfl) (by kernel_rfl) (by exact fun _ _ _ h => h) (.inl ⟨by rfl, fun w hS => by (try dsimp only at hS); go_simp; (try with_reducible rfl)⟩) (by assumption) ?_; try go_frame)
  refine rd1 9 (by rfl) (by kernel_rfl) (fun K hK => ?_)
  go_simp
  refine HBX.out.mono ?_
  rintro e w3 ⟨rfl, hg⟩
  obtain ⟨r3, r1⟩ := HROW.out w3 hg
  clear hg
  go_wp2_with fail
  refine hK.out _ _ ?_ (fun hHeld => ?_)
  · exact ⟨r1.row.cell_of rfl, r1.obj.cell_of rfl, r3.cell_of rfl, r3.cell_of rfl, r3.cell_of rfl⟩
  clear hK K
  (try go_frame)
  iterate 1 (refine tk 10 (by rfl) (by kernel_rfl) (by exact fun _ _ _ h => h) (.inl ⟨by rfl, fun w hS => by (try dsimp only at hS); go_simp; (try with_reducible rfl)⟩) (by assumption) ?_; try go_frame)
  refine wpAnyH_done (by kernel_rfl) ?_ _
  clear hHeld d0 dx b0 b1 b2 hmx hcx HBX HROW HM2 HM3 hnS
  have hut : (ints (uvs D.n u))[t]? = some (.int .i64 (uv u t)) := ints_get (range_map_get ht)
  obtain ⟨gu, cu, rfl, cut⟩ := owns_get r1.ou hut
  have e9 : w3.cell? ⟨A.bP, 9, none⟩ = some (.slice (some ⟨gu, 0, none⟩) (uvs D.n u).length cu) := r1.row.cell_of rfl
  have hul : (uvs D.n u).length = D.n := by simp [uvs]
  have ht0 : (0 : Int) ≤ (t : Int) := by omega
  have ht1 : (t : Int) < ((uvs D.n u).length : Int) := by omega
  by_cases hp0 : (Y.th t).part = 0
  · have hu0 : u t = none := (HP.out.un t ht).2 hp0
    have euv : uv u t = -1 := by unfold uv; rw [hu0]
    have ebe : beE D.n Y (t : Int) = 0 := by unfold beE; rw [if_pos hir, Int.toNat_natCast, if_pos hp0]
    have ebY : beY D.n Y (t : Int) o = M.rbegin Y t o := by unfold beY; rw [if_pos hir, Int.toNat_natCast, if_pos hp0]
    rw [euv] at cut
    rw [ebe]
    rw [ebY] at r1
    have EBY := hide ebY
    clear ebY ebe euv
    have fu := owns_frozen r1.ou (g := gu) rfl t
    have e8 : w3.cell? ⟨A.bP, 8, none⟩ = some vd := r1.row.cell_of rfl
    obtain ⟨⟨va, vc, rfl⟩, -⟩ := owns_form r1.od
    have hne3 : gu ≠ w.heap.size := fun q => owns_apart r1.ou r3 (by decide) (by rw [q]; rfl)
    have HM4 := hide (r1.setU HX.out (g := gu) rfl t (ds.length : Int))
    have HR4 := hide (r3.setOther (a := ⟨gu, t, none⟩) (Ne.symm hne3) (.int .i64 (ds.length : Int)))
    clear r1 r3
    go_upto_region 5 with fail
    go_region
    generalize hW5 : World.drew _ = W5
    have HM5 := hide (show PM X D A w0 _ _ _ _ _ _ _ _ _ W5 by rw [← hW5]; exact HM4.out.below HX.out (Below.drew (Below.refl _ _)))
    have HR5 := hide (show Row W5 w.heap.size 36 [.int .i64 o.c, .int .i64 o.a, .int .i64 o.b] by rw [← hW5]; exact HR4.out.old (Below.drew (Below.refl _ _)))
    clear hW5 e9 cut fu e8 HM4 HR4
    have hst : (ints (sqs D.n Y))[t]? = some (.int .i64 ((Y.th t).ops.length : Int)) := ints_get (range_map_get ht)
    obtain ⟨gs, cs, rfl, cst⟩ := owns_get HM5.out.os hst
    have hsl : (sqs D.n Y).length = D.n := by simp [sqs]
    have hs1 : (t : Int) < ((sqs D.n Y).length : Int) := by omega
    have e10 : W5.cell? ⟨A.bP, 10, none⟩ = some (.slice (some ⟨gs, 0, none⟩) (sqs D.n Y).length cs) := HM5.out.row.cell_of rfl
    have e11 : W5.cell? ⟨A.bP, 11, none⟩ = some (.int .i64 ((c : Int) + 1)) := HM5.out.row.cell_of rfl
    have HE8 := hide (show W5.cell? ⟨A.bP, 8, none⟩ = some (.slice va ds.length vc) from HM5.out.row.cell_of rfl)
    have th8 : W5.there A.bP 8 1 := HM5.out.row.there (by simp [plcs])
    have b0 := HR5.out.cell_of (i := 0) rfl
    have b1 := HR5.out.cell_of (i := 1) rfl
    have b2 := HR5.out.cell_of (i := 2) rfl
    obtain ⟨-, n2, -, n4, -, -, -, n8⟩ := HM5.out.ne
    have hneP : some A.bP ≠ (Value.slice va ds.length vc).ownBlock := fun q => n2 q.symm
    have hneB : some w.heap.size ≠ (Value.slice va ds.length vc).ownBlock := fun q => owns_apart HM5.out.od HR5.out (by decide) q.symm
    have hneS : some gs ≠ (Value.slice va ds.length vc).ownBlock := fun q => (n8 gs q.symm).2 rfl
    have hPs : gs ≠ A.bP := fun q => n4 (by rw [← q]; rfl)
    have hsz : (Tryz.prog.info? 67).map (·.size) = some 1 := by kernel_rfl
    have HOW := hide HM5.out.od
    go_upto_region 6 with fail
    refine rg0 (S := (fun w' => w'.cell? ⟨w.heap.size, 0, none⟩ = some (.int .i64 o.c) ∧ w'.cell? ⟨w.heap.size, 1, none⟩ = some (.int .i64 o.a) ∧ w'.cell? ⟨w.heap.size, 2, none⟩ = some (.int .i64 o.b) ∧ w'.cell? ⟨A.bP, 10, none⟩ = some (.slice (some ⟨gs, 0, none⟩) (sqs D.n Y).length cs) ∧ w'.cell? ⟨gs, t, none⟩ = some (.int .i64 ((Y.th t).ops.length : Int)) ∧ w'.cell? ⟨A.bP, 11, none⟩ = some (.int .i64 ((c : Int) + 1)) ∧ w'.there A.bP 8 1)) 24 rfl (by kernel_rfl) ?_ (fun hHeld => ?_)
    · exact ⟨b0, b1, b2, e10, cst, e11, th8⟩
    iterate 4 (refine tk 23 (by rfl) (by kernel_rfl) (by exact fun _ _ _ h => h) (.inl ⟨by rfl, fun w hS => by (try dsimp only at hS); go_simp; (try with_reducible rfl)⟩) (by assumption) ?_; try go_frame)
    iterate 14 (refine tk 24 (by rfl) (by kernel_rfl) (by exact fun _ _ _ h => h) (.inl ⟨by rfl, fun w hS => by (try dsimp only at hS); go_simp; (try with_reducible rfl)⟩) (by assumption) ?_; try go_frame)
    refine wpAnyH_ready (rs := [4, 19]) (by kernel_rfl) (by simp) (rc (by rfl) (fun K hK => ?_) (rc (by rfl) (fun K hK => ?_) AllReadyH.nil))
    · rw [if_pos (by rfl)]
      refine wp_load_one _ _ rfl _ _ (.slice va ds.length vc) rfl (by kernel_rfl) (by refine cell_later ?_ HE8.out; repeat (first | exact Below.refl _ _ | refine Below.drew ?_ | refine Below.alloc ?_ (by first | (simp; done) | (simp; omega)) _)) ?_
      refine hK.out _ _ ?_ (fun hHeld => ?_)
      · exact hHeld
      clear hK K
      (try go_frame)
      refine rd1 19 (by rfl) (by kernel_rfl) (fun K hK => ?_)
      go_simp
      refine hK.out _ _ ?_ (fun hHeld => ?_)
      · exact keepP (below_alloc _ _) hHeld
      clear hK K
      (try go_frame)
      refine rd1 20 (by rfl) (by kernel_rfl) (fun K hK => ?_)
      refine step_append_lies _ rfl (.tmp 50) (.tmp 65) 67 rfl 0 77 di (.agg #[.int .i64 0, .int .i64 0, .int .i64 0, .int .i64 0, .int .i64 0, .int .i64 0, .int .i64 0, .int .i64 0, .int .i64 0, .int .i64 0, .int .i64 0, .int .i64 0]) 12 96 Tryz.underlying67 HDI.out HD1.out HD2.out HD3.out rfl (by decide) (.slice va ds.length vc) ds.length (ddcs ds) rfl ?_ ⟨W5.heap.size, 0, none⟩ 1 1 [.int .i64 o.c, .int .i64 o.a, .int .i64 o.b, .int .i64 (t : Int), .int .i64 ((Y.th t).ops.length : Int), .int .i64 ((c : Int) + 1), .int .i64 0, .int .i64 0, .int .i64 0, .int .i64 0, .int .i64 0, .int .i64 0] rfl rfl ?_ (by simp [Value.oneCell']) (by decide) (by unfold maxLen; omega) (by omega) (Nat.zero_le _) _ rfl ?_
      · exact HOW.out.alloc _
      · exact World.news_of_block (Row.new' (by simp))
      intro g gc w4 hown hgr hat hlt4
      have HO := hide hown
      have HG := hide hgr
      have HA := hide hat
      clear hown hgr hat hlt4
      refine hK.out _ _ ?_ (fun hHeld => ?_)
      · exact keepPG HG.out hneB hneB hneB hneP hneS hneP hneP hHeld
      clear hK K
      (try go_frame)
      iterate 2 (refine tk 23 (by rfl) (by kernel_rfl) (by exact fun _ _ _ h => h) (.inl ⟨by rfl, fun w hS => by (try dsimp only at hS); go_simp; (try with_reducible rfl)⟩) (by assumption) ?_; try go_frame)
      refine rd1 23 (by rfl) (by kernel_rfl) (fun K hK => ?_)
      rw [if_pos (by rfl)]
      refine wp_store_one _ _ _ rfl A.bP 8 (.slice (some ⟨g, 0, none⟩) (ds.length + 1) gc) rfl rfl rfl rfl hHeld.2.2.2.2.2.2 hsz ?_
      refine hK.out _ _ ?_ (fun hHeld => ?_)
      · exact ⟨cell_kept hHeld.1 (.inl hbP), cell_kept hHeld.2.1 (.inl hbP), cell_kept hHeld.2.2.1 (.inl hbP), cell_kept hHeld.2.2.2.1 (.inr (by dsimp only; omega)), cell_kept hHeld.2.2.2.2.1 (.inl hPs), cell_kept hHeld.2.2.2.2.2.1 (.inr (by dsimp only; omega)), there_set hHeld.2.2.2.2.2.2 _ rfl _⟩
      clear hK K
      (try go_frame)
      refine wpAnyH_done (by kernel_rfl) ?_ _
      have hBel : Below W5.heap.size W5 (World.drew (World.alloc W5 (.cells #[.int .i64 o.c, .int .i64 o.a, .int .i64 o.b, .int .i64 (t : Int), .int .i64 ((Y.th t).ops.length : Int), .int .i64 ((c : Int) + 1), .int .i64 0, .int .i64 0, .int .i64 0, .int .i64 0, .int .i64 0, .int .i64 0] 77))) := Below.drew (below_alloc W5 _)
      have HM7 := hide (HM5.out.push HX.out (d := ⟨o, t, (Y.th t).ops.length, c + 1, 0, 0, 0, 0, ⟨0, 0⟩⟩) hBel HG.out HO.out HA.out)
      clear hHeld HG HA HO hBel e10 e11 cst th8 b0 b1 b2 HOW HE8 HM5 HR5
      generalize World.setCell w4 ⟨A.bP, 8, none⟩ (.slice (some ⟨g, 0, none⟩) (ds.length + 1) gc) = W7 at *
      have e10 : W7.cell? ⟨A.bP, 10, none⟩ = some (.slice (some ⟨gs, 0, none⟩) (sqs D.n Y).length cs) := HM7.out.row.cell_of rfl
      obtain ⟨gs', cs', q1, cst⟩ := owns_get HM7.out.os hst
      injection q1 with q1 _ _
      injection q1 with q1
      injection q1 with q1
      subst q1
      have fs := owns_frozen HM7.out.os (g := gs) rfl t
      have hol : (Y.th t).ops.length ≤ 900000000 := by have := HL.out.1 t ht; omega
      have hws : IntKind.i64.wrap (((Y.th t).ops.length : Int) + 1) = ((Y.th t).ops.length : Int) + 1 := wrapi _ (by omega) (by omega)
      have HM8 := hide (HM7.out.setS HX.out (g := gs) rfl t (((Y.th t).ops.length : Int) + 1))
      clear HM7
      go_upto_region 7 with fail
      go_region
      generalize hW9 : World.drew _ = W9
      have HM9 := hide (show PM X D A w0 _ _ _ _ _ _ _ _ _ W9 by rw [← hW9]; exact HM8.out.below HX.out (Below.drew (Below.refl _ _)))
      clear hW9 e10 cst fs HM8
      go_wp2
      go_ret
      rw [EBY.out]
      have hM9 := HM9.out
      rw [uvs_set ht, sqs_begin (o := o) ht] at hM9
      exact ⟨rfl, _, _, ⟨_, _, _, _, hM9, HP.out.begin ht hp0 o, HL.out.begin t o, by omega⟩⟩
    · go_simp
      refine hK.out _ _ ?_ (fun hHeld => ?_)
      · exact keepP (below_alloc _ _) hHeld
      clear hK K
      (try go_frame)
      refine rd1 4 (by rfl) (by kernel_rfl) (fun K hK => ?_)
      rw [if_pos (by rfl)]
      refine wp_load_one _ _ rfl _ _ (.slice va ds.length vc) rfl (by kernel_rfl) (by refine cell_later ?_ HE8.out; repeat (first | exact Below.refl _ _ | refine Below.drew ?_ | refine Below.alloc ?_ (by first | (simp; done) | (simp; omega)) _)) ?_
      refine hK.out _ _ ?_ (fun hHeld => ?_)
      · exact hHeld
      clear hK K
      (try go_frame)
      refine rd1 20 (by rfl) (by kernel_rfl) (fun K hK => ?_)
      refine step_append_lies _ rfl (.tmp 50) (.tmp 65) 67 rfl 0 77 di (.agg #[.int .i64 0, .int .i64 0, .int .i64 0, .int .i64 0, .int .i64 0, .int .i64 0, .int .i64 0, .int .i64 0, .int .i64 0, .int .i64 0, .int .i64 0, .int .i64 0]) 12 96 Tryz.underlying67 HDI.out HD1.out HD2.out HD3.out rfl (by decide) (.slice va ds.length vc) ds.length (ddcs ds) rfl ?_ ⟨W5.heap.size, 0, none⟩ 1 1 [.int .i64 o.c, .int .i64 o.a, .int .i64 o.b, .int .i64 (t : Int), .int .i64 ((Y.th t).ops.length : Int), .int .i64 ((c : Int) + 1), .int .i64 0, .int .i64 0, .int .i64 0, .int .i64 0, .int .i64 0, .int .i64 0] rfl rfl ?_ (by simp [Value.oneCell']) (by decide) (by unfold maxLen; omega) (by omega) (Nat.zero_le _) _ rfl ?_
      · exact HOW.out.alloc _
      · exact World.news_of_block (Row.new' (by simp))
      intro g gc w4 hown hgr hat hlt4
      have HO := hide hown
      have HG := hide hgr
      have HA := hide hat
      clear hown hgr hat hlt4
      refine hK.out _ _ ?_ (fun hHeld => ?_)
      · exact keepPG HG.out hneB hneB hneB hneP hneS hneP hneP hHeld
      clear hK K
      (try go_frame)
      iterate 2 (refine tk 23 (by rfl) (by kernel_rfl) (by exact fun _ _ _ h => h) (.inl ⟨by rfl, fun w hS => by (try dsimp only at hS); go_simp; (try with_reducible rfl)⟩) (by assumption) ?_; try go_frame)
      refine rd1 23 (by rfl) (by kernel_rfl) (fun K hK => ?_)
      rw [if_pos (by rfl)]
      refine wp_store_one _ _ _ rfl A.bP 8 (.slice (some ⟨g, 0, none⟩) (ds.length + 1) gc) rfl rfl rfl rfl hHeld.2.2.2.2.2.2 hsz ?_
      refine hK.out _ _ ?_ (fun hHeld => ?_)
      · exact ⟨cell_kept hHeld.1 (.inl hbP), cell_kept hHeld.2.1 (.inl hbP), cell_kept hHeld.2.2.1 (.inl hbP), cell_kept hHeld.2.2.2.1 (.inr (by dsimp only; omega)), cell_kept hHeld.2.2.2.2.1 (.inl hPs), cell_kept hHeld.2.2.2.2.2.1 (.inr (by dsimp only; omega)), there_set hHeld.2.2.2.2.2.2 _ rfl _⟩
      clear hK K
      (try go_frame)
      refine wpAnyH_done (by kernel_rfl) ?_ _
      have hBel : Below W5.heap.size W5 (World.drew (World.alloc W5 (.cells #[.int .i64 o.c, .int .i64 o.a, .int .i64 o.b, .int .i64 (t : Int), .int .i64 ((Y.th t).ops.length : Int), .int .i64 ((c : Int) + 1), .int .i64 0, .int .i64 0, .int .i64 0, .int .i64 0, .int .i64 0, .int .i64 0] 77))) := Below.drew (below_alloc W5 _)
      have HM7 := hide (HM5.out.push HX.out (d := ⟨o, t, (Y.th t).ops.length, c + 1, 0, 0, 0, 0, ⟨0, 0⟩⟩) hBel HG.out HO.out HA.out)
      clear hHeld HG HA HO hBel e10 e11 cst th8 b0 b1 b2 HOW HE8 HM5 HR5
      generalize World.setCell w4 ⟨A.bP, 8, none⟩ (.slice (some ⟨g, 0, none⟩) (ds.length + 1) gc) = W7 at *
      have e10 : W7.cell? ⟨A.bP, 10, none⟩ = some (.slice (some ⟨gs, 0, none⟩) (sqs D.n Y).length cs) := HM7.out.row.cell_of rfl
      obtain ⟨gs', cs', q1, cst⟩ := owns_get HM7.out.os hst
      injection q1 with q1 _ _
      injection q1 with q1
      injection q1 with q1
      subst q1
      have fs := owns_frozen HM7.out.os (g := gs) rfl t
      have hol : (Y.th t).ops.length ≤ 900000000 := by have := HL.out.1 t ht; omega
      have hws : IntKind.i64.wrap (((Y.th t).ops.length : Int) + 1) = ((Y.th t).ops.length : Int) + 1 := wrapi _ (by omega) (by omega)
      have HM8 := hide (HM7.out.setS HX.out (g := gs) rfl t (((Y.th t).ops.length : Int) + 1))
      clear HM7
      go_upto_region 7 with fail
      go_region
      generalize hW9 : World.drew _ = W9
      have HM9 := hide (show PM X D A w0 _ _ _ _ _ _ _ _ _ W9 by rw [← hW9]; exact HM8.out.below HX.out (Below.drew (Below.refl _ _)))
      clear hW9 e10 cst fs HM8
      go_wp2
      go_ret
      rw [EBY.out]
      have hM9 := HM9.out
      rw [uvs_set ht, sqs_begin (o := o) ht] at hM9
      exact ⟨rfl, _, _, ⟨_, _, _, _, hM9, HP.out.begin ht hp0 o, HL.out.begin t o, by omega⟩⟩
  · obtain ⟨i, hui⟩ : ∃ i, u t = some i := by
      cases q : u t with
      | none => exact (hp0 ((HP.out.un t ht).1 q)).elim
      | some i => exact ⟨i, rfl⟩
    have euv : uv u t = (i : Int) := by unfold uv; rw [hui]
    have ebe : beE D.n Y (t : Int) = 4 := by unfold beE; rw [if_pos hir, Int.toNat_natCast, if_neg hp0]
    have ebY : beY D.n Y (t : Int) o = Y := by unfold beY; rw [if_pos hir, Int.toNat_natCast, if_neg hp0]
    rw [euv] at cut
    rw [ebe]
    rw [ebY] at r1
    have EBY := hide ebY
    clear ebY ebe euv
    have hi0 : (0 : Int) ≤ (i : Int) := by omega
    have HM4 := hide r1
    clear r1 r3
    go_wp2
    go_ret
    rw [EBY.out]
    exact ⟨rfl, ds, u, ⟨_, _, _, _, HM4.out, HP.out.tick, HL.out.mono (by omega), by omega⟩⟩
end
end Go.Proofs.YtefjhnhdagolhaaGreat
namespace Go.Proofs.YtefjhnhdagolhaaGreat
open Go.RowKit
open M (upd upd_same upd_other RSt RTh Dd PI)
attribute [local go_sem ↓] Go.wp_at_zero Go.wp_at_succ
namespace M
theorem all_last {bs : List (List Nat)} (hb : BOk bs) (h : bs ≠ []) : ∃ l t, tagged (num bs) = l ++ [(bs.length, t)] := by
  obtain ⟨cs, p, rfl⟩ : ∃ cs p, bs = cs ++ [p] := by
    rcases List.eq_nil_or_concat bs with q | ⟨cs, p, q⟩
    · exact absurd q h
    · exact ⟨cs, p, by simpa using q⟩
  rw [num_append, tagged_snoc]
  have hp := (hb p (by simp)).1
  obtain ⟨q, t, rfl⟩ : ∃ q t, p = q ++ [t] := by
    rcases List.eq_nil_or_concat p with c | ⟨q, t, c⟩
    · exact absurd c hp
    · exact ⟨q, t, by simpa using c⟩
  exact ⟨tagged (num cs) ++ q.map fun t => (cs.length + 1, t), t, by simp⟩
theorem order_last {Y : RSt} (hb : BOk Y.bs) : (Y.bs.length = 0 → Y.order.length = 0) ∧ (Y.bs.length ≠ 0 → ∃ k, Y.order.length = k + 1 ∧ ∃ m, Y.order[k]? = some m ∧ m.b = Y.bs.length) := by
  refine ⟨fun h => ?_, fun h => ?_⟩
  · have : Y.bs = [] := List.length_eq_zero_iff.mp h
    unfold RSt.order RSt.all
    rw [this]; rfl
  · obtain ⟨l, t, e⟩ := all_last hb (fun q => h (by rw [q]; rfl))
    unfold RSt.order RSt.all
    rw [e, marks_snoc, List.length_append]
    exact ⟨(marks l).length, by simp, _, by rw [List.getElem?_append_right (Nat.le_refl _)]; simp; rfl, rfl⟩
end M
section
variable {σ : Type} {P : M.Plain σ} {tell : σ → List Int} {D : DL} {X : (Nat → Prop) → RSt → World → Prop} {A : PL} {S : Nat → Prop} {w0 : QW} {w w1 : World} {vd vu vs : Value} {Y Y' : RSt} {ds : List Dd} {us ss : List Int} {c : Nat} {fBe fSt fAn fDo fOr fTe fBo K t : Nat} {u : Nat → Option Nat}
set_option maxRecDepth 20000 in
set_option maxHeartbeats 2000000 in
theorem batches_w (xo : XOk P tell D A.tE A.bN X fBe fSt fAn fDo fOr fTe fBo) (c0 : w.cell? ⟨A.bP, 0, none⟩ = some (.pointer (some ⟨A.bX, 0, none⟩))) (cx : w.cell? ⟨A.bX, 0, none⟩ = some (.iface A.tE (.pointer (some ⟨A.bN, 0, none⟩)))) (hx : X S Y w) (hL : Lim D 1000000000 Y) (hb : M.BOk Y.bs) (hz : Y.order.length ≤ 1000000000000) :
    Calls Tryz.prog 39 #[.pointer (some ⟨A.bP, 0, none⟩)] w fun e w' => e = .returned (.int .i64 (Y.bs.length : Int)) ∧ Below w.heap.size w w' := by
  have hm := xo.mOr
  have hc := xo.cOr
  have HO := hide (xo.or _ _ _ hx hL)
  have HLA := hide (M.order_last hb)
  clear hx xo hL hb
  go_enter Tryz.func39, Tryz.ntmps39
  go_wp2_with fail
  refine HO.out.mono ?_
  rintro e w1 ⟨va, rfl, ho, hb1⟩
  obtain ⟨⟨a, cp, rfl⟩, -⟩ := owns_form ho
  have HB := hide hb1
  have HOW := hide ho
  clear ho hb1 c0 cx hm hc
  by_cases h0 : Y.bs.length = 0
  · have hl : Y.order.length = 0 := HLA.out.1 h0
    have H0 := hide h0
    rw [hl]
    clear h0 hl
    go_wp2
    go_ret
    exact ⟨by rw [H0.out]; rfl, HB.out⟩
  · obtain ⟨k, hk, m, hm2, hmb⟩ := HLA.out.2 h0
    have hkl : k < Y.order.length := by omega
    have hme : Y.order[k] = m := (List.getElem?_eq_some_iff.mp hm2).2
    have hg := (markcs_get Y.order k hkl).1
    rw [hme, hmb] at hg
    obtain ⟨g, cp', e', q⟩ := owns_get HOW.out hg
    injection e' with e1 _ _
    subst e1
    rw [hk]
    have hw : IntKind.i64.wrap (((k + 1 : Nat) : Int) - 1) = (k : Int) := by rw [wrapi _ (by omega) (by omega)]; omega
    have hw2 : IntKind.i64.wrap ((k : Int) + 1 - 1) = (k : Int) := by rw [wrapi _ (by omega) (by omega)]; omega
    have hw3 : wrap64 (k : Int) = (k : Int) := by unfold wrap64; omega
    have i0 : (0 : Int) ≤ (k : Int) := by omega
    have i1 : (k : Int) < ((k + 1 : Nat) : Int) := by omega
    have i2 : (k : Int) < (k : Int) + 1 := by omega
    have i3 : ¬ ((k : Int) + 1 = 0) := by omega
    have HK := hide hk
    clear hk hm2 hmb hme hg h0 hkl
    go_wp2
    go_ret
    exact ⟨rfl, HB.out⟩
end
end Go.Proofs.YtefjhnhdagolhaaGreat
