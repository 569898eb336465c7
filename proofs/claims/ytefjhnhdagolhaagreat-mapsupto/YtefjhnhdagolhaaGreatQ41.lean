import Derived.Test.YtefjhnhdagolhaaGreatQ22
import Derived.Test.YtefjhnhdagolhaaGreatQ13
import Derived.Test.YtefjhnhdagolhaaGreatQ38
import Derived.Test.YtefjhnhdagolhaaGreatQ40
namespace Go.Proofs.YtefjhnhdagolhaaGreat
open Go.RowKit
open M (upd upd_same upd_other RSt RTh cnt marks tagged num)
attribute [local go_sem ↓] Go.wp_at_zero Go.wp_at_succ
theorem owns_not {w : World} {base : Nat} {e t : TypeId} {size : Nat} {v : Value} {n : Nat} {xs ys : List Value} {b : Nat} (h : w.ownsRow base e size v n xs) (hr : Row w b t ys) (hne : e ≠ t) : v.ownBlock ≠ some b := by
  intro c
  rcases h.2 with ⟨rfl, -⟩ | ⟨g, cap, cur, rfl, -, h4, -⟩
  · cases c
  · have : g = b := by simpa [Value.ownBlock] using c
    subst this
    unfold Row at hr
    rw [h4] at hr
    injection hr with hr
    injection hr with _ h2
    exact hne h2
structure MapI (w : World) (l : Prs) (c a b2 : Int) (b5 k : Nat) (v6 : Value) (w' : World) : Prop where
  be : Below w.heap.size w w'
  ow : w'.ownsRow w.heap.size 3 1 v6 (flat (mdel (l.take k) a)).length (ints (flat (mdel (l.take k) a)))
  op : Row w' w.heap.size 36 [.int .i64 c, .int .i64 a, .int .i64 b2]
  re : Row w' (w.heap.size + 1) 94 [.int .i64 0, .int .i64 0]
  an : Row w' b5 94 [.int .i64 (mans (l.take k) a).s, .int .i64 (mans (l.take k) a).v]
theorem MapI.drewN {w : World} {l : Prs} {c a b2 : Int} {b5 k : Nat} {v6 : Value} {w' : World} (h : MapI w l c a b2 b5 k v6 w') (n : Nat) : MapI w l c a b2 b5 k v6 (w'.drewN n) := ⟨Below.drewN h.be n, h.ow, h.op, h.re, h.an⟩
theorem MapI.hit {w : World} {l : Prs} {c a b2 : Int} {b5 k : Nat} {v6 : Value} {w' : World} (h : MapI w l c a b2 b5 k v6 w') (hk : k < l.length) (hd : Dis l) (he : (l[k]).1 = a) (hb : b5 = w.heap.size + 1 + 1) :
    MapI w l c a b2 b5 (k + 1) v6 ((w'.setCell ⟨b5, 0, none⟩ (.int .i64 1)).setCell ⟨b5, 1, none⟩ (.int .i64 (l[k]).2)) := by
  have e1 : mans (l.take (k + 1)) a = ⟨1, (l[k]).2⟩ := by rw [take_snoc hk]; exact mans_snoc_eq (by rw [← take_snoc hk]; exact dis_take hd _) he
  have e2 : mdel (l.take (k + 1)) a = mdel (l.take k) a := by rw [take_snoc hk, del_snoc, if_pos he]
  have hn := owns_not h.ow h.an (by decide)
  refine ⟨((h.be.setCell (by simp; omega) _).setCell (by simp; omega) _), ?_, (h.op.setOther (show w.heap.size ≠ b5 by omega) _).setOther (show w.heap.size ≠ b5 by omega) _, (h.re.setOther (show w.heap.size + 1 ≠ b5 by omega) _).setOther (show w.heap.size + 1 ≠ b5 by omega) _, ?_⟩
  · rw [e2]
    refine owns_block h.ow fun q eq => ?_
    have hne : q ≠ b5 := fun c => hn (by rw [← c]; exact eq)
    rw [Below.heap_setCell _ _ _ q hne, Below.heap_setCell _ _ _ q hne]
  · rw [e1]
    exact (h.an.set 0 _).set 1 _
theorem MapI.miss {w : World} {l : Prs} {c a b2 : Int} {b5 k : Nat} {v6 : Value} {w' w2 w4 : World} (h : MapI w l c a b2 b5 k v6 w') (hk : k < l.length) (he : (l[k]).1 ≠ a) (hb2 : Below w'.heap.size w' w2) (hg : w2.grownBy w4 v6.ownBlock) {g cap : Nat}
    (ho : w4.ownsRow w.heap.size 3 1 (.slice (some ⟨g, 0, none⟩) ((flat (mdel (l.take k) a)).length + 2) cap) ((flat (mdel (l.take k) a)).length + 2) (ints (flat (mdel (l.take k) a)) ++ [.int .i64 (l[k]).1, .int .i64 (l[k]).2])) :
    MapI w l c a b2 b5 (k + 1) (.slice (some ⟨g, 0, none⟩) ((flat (mdel (l.take k) a)).length + 2) cap) w4 := by
  have e1 : mans (l.take (k + 1)) a = mans (l.take k) a := by rw [take_snoc hk]; exact mans_snoc_ne _ _ he
  have e2 : mdel (l.take (k + 1)) a = mdel (l.take k) a ++ [l[k]] := by rw [take_snoc hk, del_snoc, if_neg he]
  have hs := hb2.size
  have row : ∀ {b : Nat} {t : TypeId} {xs : List Value}, Row w' b t xs → 3 ≠ t → Row w4 b t xs := fun {b t xs} hr ht => (hr.old hb2).of_block (hg.block b (by have := hr.lt; omega) (fun q => owns_not h.ow hr ht q.symm))
  refine ⟨(Below.next h.be hb2 h.be.size).grown hg (by have := h.be.size; omega) (fun q hq => (h.ow.lt q hq).1), ?_, row h.op (by decide), row h.re (by decide), ?_⟩
  · rw [e2, flat_append, List.length_append]
    have e3 : ints (flat (mdel (l.take k) a) ++ flat [l[k]]) = ints (flat (mdel (l.take k) a)) ++ [.int .i64 (l[k]).1, .int .i64 (l[k]).2] := by simp [ints, flat]
    rw [e3, show (flat [l[k]]).length = 2 from rfl]
    exact ho
  · rw [e1]; exact row h.an (by decide)
section
variable {st co c a b2 : Int} {s1 s2 : Value} {b g cc : Nat} {w : World} {l : Prs} {vh : Value}
structure MapE (w : World) (b b4 b5 : Nat) (hd : List Value) (vh vh' : Value) (l' : Prs) (x y : Int) (W5 : World) : Prop where
  fr : Fr (fun k => k = b) w W5
  rb : Row W5 b 159 (hd ++ [vh'])
  ow : W5.ownsRow 0 3 1 vh' (flat l').length (ints (flat l'))
  at' : ∀ k, vh'.ownBlock = some k → vh.ownBlock = some k ∨ w.heap.size ≤ k
  re : Row W5 b4 94 [.int .i64 0, .int .i64 0]
  an : Row W5 b5 94 [.int .i64 x, .int .i64 y]
theorem MapE.fin {w : World} {b b4 b5 : Nat} {hd : List Value} {vh vh' : Value} {l' : Prs} {x y : Int} {W5 : World} (h : MapE w b b4 b5 hd vh vh' l' x y W5) (h4 : w.heap.size ≤ b4) :
    Row ((W5.setCell ⟨b4, 0, none⟩ (.int .i64 x)).setCell ⟨b4, 1, none⟩ (.int .i64 y)) b4 94 [.int .i64 x, .int .i64 y] ∧ Row ((W5.setCell ⟨b4, 0, none⟩ (.int .i64 x)).setCell ⟨b4, 1, none⟩ (.int .i64 y)) b 159 (hd ++ [vh']) ∧
      ((W5.setCell ⟨b4, 0, none⟩ (.int .i64 x)).setCell ⟨b4, 1, none⟩ (.int .i64 y)).ownsRow 0 3 1 vh' (flat l').length (ints (flat l')) ∧ (∀ k, vh'.ownBlock = some k → k ≠ b ∧ (vh.ownBlock = some k ∨ w.heap.size ≤ k)) ∧ Fr (fun k => k = b) w ((W5.setCell ⟨b4, 0, none⟩ (.int .i64 x)).setCell ⟨b4, 1, none⟩ (.int .i64 y)) := by
  have n1 := owns_not h.ow h.rb (by decide)
  have n2 := owns_not h.ow h.re (by decide)
  have hbb : b ≠ b4 := Row.apart h.rb h.re (by decide)
  refine ⟨(h.re.set 0 _).set 1 _, (h.rb.setOther hbb _).setOther hbb _, owns_block h.ow fun q e => ?_, fun k e => ⟨fun c => n1 (by rw [← c]; exact e), h.at' k e⟩, ?_⟩
  · have hne : q ≠ b4 := fun c => n2 (by rw [← c]; exact e)
    rw [Below.heap_setCell _ _ _ q hne, Below.heap_setCell _ _ _ q hne]
  · exact h.fr.grow (own' := fun k => k = b4) (((Fr.refl (fun k => k = b4) _).here (b := b4) rfl _ _).here (b := b4) rfl _ _) (fun k hk => .inr (by omega))
def mnew (l : Prs) (c a b : Int) : Prs := if c = 1 then mdel l a ++ [(a, b)] else if c = 3 then mdel l a else l
set_option maxRecDepth 20000 in
set_option maxHeartbeats 4000000 in
theorem docMaps_w (hk1 : ¬ c < 1) (hk3 : ¬ 3 < c) (hR : Row w b 159 [.int .i64 4, .int .i64 st, .int .i64 co, s1, s2, vh]) (ho : w.ownsRow 0 3 1 vh (flat l).length (ints (flat l))) (hd : Dis l) (hz : l.length ≤ 500000000000) (hnb : vh.ownBlock ≠ some b) :
    Calls Tryz.prog 145 #[.pointer (some ⟨b, 0, none⟩), .agg #[.int .i64 c, .int .i64 a, .int .i64 b2]] w fun e w' => e = .returned (.agg #[.int .i64 (mans l a).s, .int .i64 (mans l a).v]) ∧
      ∃ vh', Row w' b 159 [.int .i64 4, .int .i64 st, .int .i64 co, s1, s2, vh'] ∧ w'.ownsRow 0 3 1 vh' (flat (mnew l c a b2)).length (ints (flat (mnew l c a b2))) ∧ (∀ k, vh'.ownBlock = some k → k ≠ b ∧ (vh.ownBlock = some k ∨ w.heap.size ≤ k)) ∧ Fr (fun k => k = b) w w' := by
  obtain ⟨an, han⟩ : ∃ an, an = mans l a := ⟨_, rfl⟩
  rw [← han]
  have HANS := hide han
  clear han
  obtain ⟨ti, hti, htz⟩ := Option.map_eq_some_iff.1 info_int
  simp only [Prod.mk.injEq] at htz
  obtain ⟨htz1, htz2, htz3⟩ := htz
  have HTI := hide hti
  have HT1 := hide htz1
  have HT2 := hide htz2
  have HT3 := hide htz3
  clear hti htz1 htz2 htz3
  obtain ⟨⟨va, vc, rfl⟩, -⟩ := owns_form ho
  have hfl := flat_len l
  generalize hn2 : (flat l).length = n2 at *
  have HN2 := hide hn2
  have hn3 : (n2 : Int) ≤ 2 * (l.length : Int) := by omega
  have hn4 : 2 * (l.length : Int) ≤ (n2 : Int) := by omega
  have HC5 := hide (hR.cell_of (i := 5) rfl)
  have hbl := hR.lt
  have HO := hide ho
  have HD := hide hd
  have HR := hide hR
  clear hR ho hd hfl hn2
  go_enter Tryz.func145, Tryz.ntmps145
  go_upto_region 3 with fail
  generalize hW : World.alloc (World.alloc w _) _ = W
  have hb0 : Below w.heap.size w W := by rw [← hW]; exact (below_alloc w _).alloc (by simp) _
  have r3 : Row W w.heap.size 36 [.int .i64 c, .int .i64 a, .int .i64 b2] := by rw [← hW]; exact (Row.new' rfl).alloc _
  have r4 : Row W (w.heap.size + 1) 94 [.int .i64 0, .int .i64 0] := by rw [← hW]; exact Row.new' (by simp)
  have hzW : W.heap.size = w.heap.size + 1 + 1 := by rw [← hW]; simp
  have HB0 := hide hb0
  have H3 := hide r3
  have H4 := hide r4
  have HZW := hide hzW
  clear hW hb0 r3 r4 hzW
  go_wp2
  go_loopw [6, 7] (fun v6 i w' => ∃ k : Nat, k ≤ l.length ∧ i = .int .i64 (2 * (k : Int)) ∧ MapI w l c a b2 W.heap.size k v6 w') (fun _ i _ => l.length - (intOf i).toNat / 2)
  case atStart => exact ⟨0, Nat.zero_le _, rfl, ⟨Below.next HB0.out (below_alloc _ _) HB0.out.size, by simpa [mdel, flat, ints] using World.ownsRow_nil _ _ _ _, H3.out.alloc _, H4.out.alloc _, Row.new' rfl⟩⟩
  case round =>
    obtain ⟨k, hk, rfl, hI⟩ := hrel
    have HI := hide hI
    clear hI
    by_cases hlt : k < l.length
    · have c5 := cell_later HI.out.be HC5.out
      have hf := flat_get l hlt
      obtain ⟨g, cg, eg, hx⟩ := owns_at HO.out (i := 2 * k) (u := .int .i64 (l[k]).1) (by rw [ints, List.getElem?_map, hf.1]; rfl)
      obtain ⟨g', cg', eg', hy⟩ := owns_at HO.out (i := 2 * k + 1) (u := .int .i64 (l[k]).2) (by rw [ints, List.getElem?_map, hf.2]; rfl)
      have e1 : va = some ⟨g, 0, none⟩ := by injection eg
      have e2 : g = g' := by rw [e1] at eg'; injection eg' with q; injection q with q; injection q
      subst e1 e2
      have HX := hide hx
      have HY := hide hy
      have x1 := cell_later HI.out.be hx
      have hgl := World.block_lt_of_cell? w _ hx
      have hl1 : 2 * (k : Int) + 1 < (n2 : Int) := by omega
      have hl2 : 2 * (k : Int) < (n2 : Int) := by omega
      have hl0 : (0 : Int) ≤ 2 * (k : Int) := by omega
      have hl3 : (0 : Int) ≤ 2 * (k : Int) + 1 := by omega
      have ht1 : (2 * (k : Int)).toNat = 2 * k := by omega
      have ht2 : (2 * (k : Int) + 1).toNat = 2 * k + 1 := by omega
      have hw1 : IntKind.i64.wrap (2 * (k : Int) + 1) = 2 * (k : Int) + 1 := wrapi _ (by omega) (by omega)
      have o1 := HI.out.op.cell_of (i := 1) rfl
      clear hf eg eg' hx hy
      by_cases he : (l[k]).1 = a
      · have HHit := hide (fun (W2 : World) (h2 : MapI w l c a b2 W.heap.size k u6 W2) => h2.hit hlt HD.out he HZW.out)
        go_wp2
        go_quiet (fail)
        generalize hW2 : World.drewN wr nq = W2
        have h2 : MapI w l c a b2 W.heap.size k u6 W2 := by rw [← hW2]; exact HI.out.drewN _
        have c5' := cell_later h2.be HC5.out
        have y1 := cell_later h2.be HY.out
        have a0 := h2.an.cell_of (i := 0) rfl
        have a1 := h2.an.cell_of (i := 1) rfl
        have f0 := h2.an.frozen 0
        have f1 := h2.an.frozen 1
        have HN := hide (HHit.out W2 h2)
        clear hW2 h2 c5 x1 o1
        go_wp2
        go_roundw
        case rel => exact ⟨k + 1, by omega, by go_num, HN.out⟩
        case measure => simp [intOf]; omega
      · have HMiss := hide (fun (W2 w2 w4 : World) (g cap : Nat) (h2 : MapI w l c a b2 W.heap.size k u6 W2) hb2 hg ho => h2.miss (w2 := w2) (w4 := w4) (g := g) (cap := cap) hlt he hb2 hg ho)
        have hlm : (flat (mdel (l.take k) a)).length ≤ 2 * l.length := by
          rw [flat_len]
          have h1 := List.length_filter_le (fun x : Int × Int => decide (x.1 ≠ a)) (l.take k)
          have h2 := List.length_take_le k l
          have h3 : (mdel (l.take k) a).length ≤ (l.take k).length := h1
          omega
        go_wp2
        go_quiet (fail)
        generalize hW2 : World.drewN wr nq = W2
        have h2 : MapI w l c a b2 W.heap.size k u6 W2 := by rw [← hW2]; exact HI.out.drewN _
        have c5' := cell_later h2.be HC5.out
        have x1' := cell_later h2.be HX.out
        have y1 := cell_later h2.be HY.out
        have HI2 := hide h2
        have hz2 := h2.be.size
        have hvn : ∀ q, q < w.heap.size → some q ≠ u6.ownBlock := fun q hq e => by have := (h2.ow.lt q e.symm).1; omega
        clear hW2 h2 c5 x1 o1
        go_wp2
        refine rg0 (S := (fun w' => w'.cell? ⟨b, 5, none⟩ = some (.slice (some ⟨g, 0, none⟩) n2 vc) ∧ w'.cell? ⟨g, 2 * k, none⟩ = some (.int .i64 (l[k]).1) ∧ w'.cell? ⟨g, 2 * k + 1, none⟩ = some (.int .i64 (l[k]).2))) 19 rfl (by kernel_rfl) ?_ (fun hHeld => ?_)
        · exact ⟨c5', x1', y1⟩
        iterate 16 (refine tk 18 (by rfl) (by kernel_rfl) (by exact fun _ _ _ h => h) (.inl ⟨by rfl, fun w hS => by (try dsimp only at hS); go_simp; (try with_reducible rfl)⟩) (by assumption) ?_; try go_frame)
        refine rd1 16 (by rfl) (by kernel_rfl) (fun K hK => ?_)
        go_simp
        refine hK.out _ _ ?_ (fun hHeld => ?_)
        · exact ⟨cell_later (below_alloc _ _) hHeld.1, cell_later (below_alloc _ _) hHeld.2.1, cell_later (below_alloc _ _) hHeld.2.2⟩
        clear hK K
        (try go_frame)
        refine rd1 17 (by rfl) (by kernel_rfl) (fun K hK => ?_)
        refine step_append_lies _ rfl (.tmp 47) (.tmp 63) 22 rfl w.heap.size 3 ti (.int .i64 0) 1 8 Tryz.underlying22 HTI.out HT1.out HT2.out HT3.out rfl (by decide) u6 (flat (mdel (l.take k) a)).length (ints (flat (mdel (l.take k) a))) rfl (HI2.out.ow.alloc _) ⟨W2.heap.size, 0, none⟩ 2 2 [.int .i64 (l[k]).1, .int .i64 (l[k]).2] rfl rfl (World.news_of_block (Row.new' (by simp))) (by simp [Value.oneCell']) (by decide) (by unfold maxLen; omega) (by omega) (by simp; omega) _ rfl ?_
        intro g4 cap4 w4 hown hgr hat hlt4
        have HO4 := hide hown
        have HG := hide hgr
        clear hown hgr hat hlt4
        refine hK.out _ _ ?_ (fun hHeld => ?_)
        · exact ⟨HG.out.cell hHeld.1 (hvn _ hbl), HG.out.cell hHeld.2.1 (hvn _ hgl), HG.out.cell hHeld.2.2 (hvn _ hgl)⟩
        clear hK K
        (try go_frame)
        iterate 1 (refine tk 18 (by rfl) (by kernel_rfl) (by exact fun _ _ _ h => h) (.inl ⟨by rfl, fun w hS => by (try dsimp only at hS); go_simp; (try with_reducible rfl)⟩) (by assumption) ?_; try go_frame)
        refine wpAnyH_done (by kernel_rfl) ?_ _
        have HN := hide (HMiss.out W2 _ w4 g4 cap4 HI2.out (Below.drew (below_alloc W2 _)) HG.out HO4.out)
        clear hHeld HO4 HG
        go_wp2
        go_roundw
        case rel => exact ⟨k + 1, by omega, by go_num, HN.out⟩
        case measure => simp [intOf]; omega
    · have hke : k = l.length := by omega
      subst hke
      have hl1 : ¬ 2 * (l.length : Int) + 1 < (n2 : Int) := by omega
      have HI' := hide (show MapI w l c a b2 W.heap.size l.length u6 wr from HI.out)
      have c5 := cell_later HI.out.be HC5.out
      have o0 := HI.out.op.cell_of (i := 0) rfl
      have o1 := HI.out.op.cell_of (i := 1) rfl
      have o2 := HI.out.op.cell_of (i := 2) rfl
      have hrb := HR.out.old HI.out.be
      have p5 := hrb.frozen 5
      have hz2 := HI.out.be.size
      have HOW := hide (show wr.ownsRow w.heap.size 3 1 u6 (flat (mdel l a)).length (ints (flat (mdel l a))) by have := HI.out.ow; rwa [List.take_length] at this)
      have HAN := hide (show Row wr W.heap.size 94 [.int .i64 an.s, .int .i64 an.v] by have := HI.out.an; rw [List.take_length] at this; rw [HANS.out]; exact this)
      have hlm : (flat (mdel l a)).length ≤ 2 * l.length := by
        rw [flat_len]
        have h1 := List.length_filter_le (fun x : Int × Int => decide (x.1 ≠ a)) l
        have h3 : (mdel l a).length ≤ l.length := h1
        omega
      have HRB := hide hrb
      clear hrb hk hlt
      by_cases k1 : c = 1
      · subst k1
        go_wp2_with (at_builtin; refine wpList_append_lies _ rfl (.tmp 70) (.tmp 75) 22 rfl w.heap.size 3 ti (.int .i64 0) 1 8 Tryz.underlying22 HTI.out HT1.out HT2.out HT3.out rfl (by decide) u6 (flat (mdel l a)).length (ints (flat (mdel l a))) rfl (HOW.out.alloc _) ⟨wr.heap.size, 0, none⟩ 2 2 [.int .i64 a, .int .i64 b2] rfl rfl ?_ (by simp [Value.oneCell']) (by decide) (by unfold maxLen; omega) (by omega) ?_ (wr.heap.size + 1) (by simp) ?_)
        · omega
        · intro g4 cap4 w4 hown hgr hat hlt4
          have row : ∀ {b : Nat} {t : TypeId} {xs : List Value}, Row wr b t xs → 3 ≠ t → Row w4 b t xs := fun {b t xs} hr ht => (hr.alloc _).of_block (hgr.block b (by have := hr.lt; simp; omega) (fun q => owns_not HOW.out hr ht q.symm))
          have rb4 := row HRB.out (by decide)
          have r4 := row HI'.out.re (by decide)
          have r5 := row HAN.out (by decide)
          have hE : MapE w b (w.heap.size + 1) W.heap.size [.int .i64 4, .int .i64 st, .int .i64 co, s1, s2] (.slice va n2 vc) (.slice (some ⟨g4, 0, none⟩) ((flat (mdel l a)).length + 2) cap4) (mnew l 1 a b2) an.s an.v (w4.setCell ⟨b, 5, none⟩ (.slice (some ⟨g4, 0, none⟩) ((flat (mdel l a)).length + 2) cap4)) := by
            have hgl : ∀ k, (Value.slice (some ⟨g4, 0, none⟩) ((flat (mdel l a)).length + 2) cap4).ownBlock = some k → w.heap.size ≤ k := fun k e => (hown.lt k e).1
            refine ⟨?_, rb4.set 5 _, ?_, fun k e => .inr (hgl k e), r4.setOther (show w.heap.size + 1 ≠ b by omega) _, r5.setOther (show W.heap.size ≠ b by have := HZW.out; omega) _⟩
            · refine Fr.here (own := fun k => k = b) ?_ rfl _ _
              exact Fr.grow (own := fun k => k = b) (Fr.of_below (Below.next HI'.out.be (below_alloc _ _) hz2)) (Fr.of_grown hgr) (fun k hk => .inr (HOW.out.lt k hk).1)
            · have e2 : flat (mnew l 1 a b2) = flat (mdel l a) ++ [a, b2] := by rw [mnew, if_pos rfl, flat_append]; rfl
              rw [e2, List.length_append]
              have e3 : ints (flat (mdel l a) ++ [a, b2]) = ints (flat (mdel l a)) ++ [.int .i64 a, .int .i64 b2] := by simp [ints]
              rw [e3]
              exact owns_block (owns_base hown (Nat.zero_le _)) fun q e => Below.heap_setCell _ _ _ q (show q ≠ b by have := hgl q e; omega)
          have c4 := rb4.cell_of (i := 5) rfl
          have p4 := rb4.frozen 5
          clear hown hgr hat hlt4 row rb4 r4 r5 c5 o0 o1 o2 p5
          go_upto_region 16 with fail
          generalize World.setCell w4 ⟨b, 5, none⟩ _ = W5 at *
          have a0 := hE.an.cell_of (i := 0) rfl
          have a1 := hE.an.cell_of (i := 1) rfl
          have e0 := hE.re.cell_of (i := 0) rfl
          have e1 := hE.re.cell_of (i := 1) rfl
          have f0 := hE.re.frozen 0
          have f1 := hE.re.frozen 1
          have HF := hide (hE.fin (by omega))
          clear hE
          go_wp2
          have q1 := HF.out.1.cell_of (i := 0) rfl
          have q2 := HF.out.1.cell_of (i := 1) rfl
          exact bodyPost_ret (v := .agg #[.int .i64 an.s, .int .i64 an.v]) (by simp [results, Tryz.results145, go_sem, q1, q2]) rfl ⟨rfl, _, HF.out.2.1, HF.out.2.2.1, HF.out.2.2.2.1, HF.out.2.2.2.2⟩
      · by_cases k3 : c = 3
        · subst k3
          obtain ⟨⟨ua, uc, rfl⟩, -⟩ := owns_form HOW.out
          have hE : MapE w b (w.heap.size + 1) W.heap.size [.int .i64 4, .int .i64 st, .int .i64 co, s1, s2] (.slice va n2 vc) (.slice ua (flat (mdel l a)).length uc) (mnew l 3 a b2) an.s an.v (wr.setCell ⟨b, 5, none⟩ (.slice ua (flat (mdel l a)).length uc)) := by
            have hgl : ∀ k, (Value.slice ua (flat (mdel l a)).length uc).ownBlock = some k → w.heap.size ≤ k := fun k e => (HOW.out.lt k e).1
            refine ⟨?_, HRB.out.set 5 _, ?_, fun k e => .inr (hgl k e), HI'.out.re.setOther (show w.heap.size + 1 ≠ b by omega) _, HAN.out.setOther (show W.heap.size ≠ b by have := HZW.out; omega) _⟩
            · exact Fr.here (own := fun k => k = b) (Fr.of_below HI'.out.be) rfl _ _
            · rw [mnew, if_neg (by decide), if_pos rfl]
              exact owns_block (owns_base HOW.out (Nat.zero_le _)) fun q e => Below.heap_setCell _ _ _ q (show q ≠ b by have := hgl q e; omega)
          go_upto_region 16 with fail
          generalize World.setCell wr ⟨b, 5, none⟩ _ = W5 at *
          clear c5 o0 o1 o2 p5
          have a0 := hE.an.cell_of (i := 0) rfl
          have a1 := hE.an.cell_of (i := 1) rfl
          have e0 := hE.re.cell_of (i := 0) rfl
          have e1 := hE.re.cell_of (i := 1) rfl
          have f0 := hE.re.frozen 0
          have f1 := hE.re.frozen 1
          have HF := hide (hE.fin (by omega))
          clear hE
          go_wp2
          have q1 := HF.out.1.cell_of (i := 0) rfl
          have q2 := HF.out.1.cell_of (i := 1) rfl
          exact bodyPost_ret (v := .agg #[.int .i64 an.s, .int .i64 an.v]) (by simp [results, Tryz.results145, go_sem, q1, q2]) rfl ⟨rfl, _, HF.out.2.1, HF.out.2.2.1, HF.out.2.2.2.1, HF.out.2.2.2.2⟩
        · have k2 : c = 2 := by omega
          subst k2
          have hE : MapE w b (w.heap.size + 1) W.heap.size [.int .i64 4, .int .i64 st, .int .i64 co, s1, s2] (.slice va n2 vc) (.slice va n2 vc) (mnew l 2 a b2) an.s an.v wr := by
            refine ⟨Fr.of_below HI'.out.be, HRB.out, ?_, fun k e => .inl e, HI'.out.re, HAN.out⟩
            rw [mnew, if_neg (by decide), if_neg (by decide), HN2.out]
            exact owns_later HO.out HI'.out.be
          go_upto_region 16 with fail
          clear c5 o0 o1 o2 p5
          have a0 := hE.an.cell_of (i := 0) rfl
          have a1 := hE.an.cell_of (i := 1) rfl
          have e0 := hE.re.cell_of (i := 0) rfl
          have e1 := hE.re.cell_of (i := 1) rfl
          have f0 := hE.re.frozen 0
          have f1 := hE.re.frozen 1
          have HF := hide (hE.fin (by omega))
          clear hE
          go_wp2
          have q1 := HF.out.1.cell_of (i := 0) rfl
          have q2 := HF.out.1.cell_of (i := 1) rfl
          exact bodyPost_ret (v := .agg #[.int .i64 an.s, .int .i64 an.v]) (by simp [results, Tryz.results145, go_sem, q1, q2]) rfl ⟨rfl, _, HF.out.2.1, HF.out.2.2.1, HF.out.2.2.2.1, HF.out.2.2.2.2⟩
end
end Go.Proofs.YtefjhnhdagolhaaGreat
