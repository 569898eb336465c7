import Derived.Test.YtefjhnhdagolhaaGreatQ18
import Derived.Test.YtefjhnhdagolhaaGreatQ17
namespace Go.Proofs.YtefjhnhdagolhaaGreat
open Go.RowKit
attribute [local go_sem ↓] Go.wp_at_zero Go.wp_at_succ
set_option maxRecDepth 20000 in
set_option maxHeartbeats 1000000 in
theorem lawOrder {base bL bX bY n g gc : Nat} {bT : Nat → Nat} {kind cap st co : Int} {vn vo : Value} {tE : TypeId} {bN fA fO fS fB : Nat} {is : Value} {w0 : World} (w : World) (h : Both base bL bX bY n g gc bT kind cap st co vn vo tE bN fA fO fS fB (.slice none 0 0) is w0 w) :
    Calls Tryz.prog 49 #[.pointer (some ⟨bL, 0, none⟩)] w fun e w' => e = .returned (.bool true) ∧ ∃ W l, Below w.heap.size w W ∧ LayM W bL (.pointer (some ⟨bX, 0, none⟩)) (.pointer (some ⟨bY, 0, none⟩)) is 3 3 l w' := by
  have c0 : w.cell? ⟨bL, 0, none⟩ = some (.pointer (some ⟨bX, 0, none⟩)) := h.law.cell_of rfl
  have c1 : w.cell? ⟨bL, 1, none⟩ = some (.pointer (some ⟨bY, 0, none⟩)) := h.law.cell_of rfl
  have cx : w.cell? ⟨bX, 0, none⟩ = some (.iface tE (.pointer (some ⟨bN, 0, none⟩))) := h.obj.cell_of rfl
  have hm := h.eng.mO
  have hc := h.eng.cO
  have HH := hide h
  clear h
  go_enter Tryz.func49, Tryz.ntmps49
  go_wp2_with fail
  refine (HH.out.eng.ord _ HH.out.old).mono ?_
  rintro e w1 ⟨rfl, hb1⟩
  have d1 : w1.cell? ⟨bL, 1, none⟩ = some (.pointer (some ⟨bY, 0, none⟩)) := cell_later hb1 c1
  have HB1 := hide hb1
  clear hb1 c0 c1 cx hm hc
  go_wp2_with fail
  refine (refOrder_new w1 (HH.out.ref.later HB1.out)).mono ?_
  rintro e w2 ⟨rfl, rfl⟩
  have HB2 := HB1
  clear d1
  go_wp2_with fail
  refine (sameMarks_nil _).mono ?_
  rintro e w3 ⟨rfl, rfl⟩
  go_wp2_with fail
  refine (ownMarks_nil bL _ _ _ _ (HH.out.law.old HB2.out)).mono ?_
  rintro e w4 ⟨rfl, l, hL⟩
  have HL := hide hL
  clear hL
  go_wp2_with fail
  go_ret
  exact ⟨rfl, _, l, HB2.out, HL.out⟩
end Go.Proofs.YtefjhnhdagolhaaGreat
namespace Go.Proofs.YtefjhnhdagolhaaGreat
open Go.RowKit
attribute [local go_sem ↓] Go.wp_at_zero Go.wp_at_succ
theorem sl_own {w : World} {base : Nat} {e : TypeId} {v : Value} {n : Nat} {xs : List Value} (h : w.ownsRow base e 1 v n xs) : Sl w v xs := by
  have hl : xs.length = n := by simpa using h.1
  rcases h.2 with ⟨rfl, rfl⟩ | ⟨g, cap, cur, rfl, -, hg, hc, hm, hcs, htk⟩
  · obtain rfl : xs = [] := List.eq_nil_of_length_eq_zero hl
    exact Sl.nil w
  · refine ⟨some ⟨g, 0, none⟩, cap, by rw [hl], by rw [hl]; exact hc, hm, .inr ⟨g, 0, rfl, fun j x hj => ?_⟩⟩
    have := h.cells (g := g) rfl j x hj
    rw [show (⟨g, 0, none⟩ : Addr).add j = ⟨g, j, none⟩ by by_cases q : j = 0 <;> simp [Addr.add, q]] at this
    simpa using this
set_option maxRecDepth 20000 in
set_option maxHeartbeats 2000000 in
theorem lawState {base bL bX bY n g gc : Nat} {bT : Nat → Nat} {kind cap st co : Int} {a1 : Option Addr} {l1 c1 : Nat} {a2 : Option Addr} {l2 c2 : Nat} {tE : TypeId} {bN fA fO fS fB : Nat} {ms : Value} {w0 : World} (w : World) (h : Both base bL bX bY n g gc bT kind cap st co (.slice a1 l1 c1) (.slice a2 l2 c2) tE bN fA fO fS fB ms (.slice none 0 0) w0 w) (h1 : 1 ≤ kind) (h5 : kind ≤ 5) :
    Calls Tryz.prog 50 #[.pointer (some ⟨bL, 0, none⟩)] w fun e w' => e = .returned (.bool true) ∧ ∃ l, LayI w bL (.pointer (some ⟨bX, 0, none⟩)) (.pointer (some ⟨bY, 0, none⟩)) ms 3 ((holdsNew kind).length + 3) l w' := by
  have c0 : w.cell? ⟨bL, 0, none⟩ = some (.pointer (some ⟨bX, 0, none⟩)) := h.law.cell_of rfl
  have c1 : w.cell? ⟨bL, 1, none⟩ = some (.pointer (some ⟨bY, 0, none⟩)) := h.law.cell_of rfl
  have cx : w.cell? ⟨bX, 0, none⟩ = some (.iface tE (.pointer (some ⟨bN, 0, none⟩))) := h.obj.cell_of rfl
  have hm := h.eng.mS
  have hc := h.eng.cS
  have hlen : (holdsNew kind).length ≤ 1048576 := by unfold holdsNew; split <;> simp
  have HH := hide h
  clear h
  go_enter Tryz.func50, Tryz.ntmps50
  go_wp2_with fail
  refine (HH.out.eng.sta _ HH.out.old).mono ?_
  rintro e w1 ⟨v, rfl, hO1, hb1⟩
  have d1 : w1.cell? ⟨bL, 1, none⟩ = some (.pointer (some ⟨bY, 0, none⟩)) := cell_later hb1 c1
  have HB1 := hide hb1
  have HO1 := hide hO1
  clear hb1 hO1 c0 c1 cx hm hc
  go_wp2_with fail
  refine (refState_new w1 (HH.out.ref.later HB1.out) h1 h5).mono ?_
  rintro e w2 ⟨v2, rfl, hO2, hb2⟩
  have HB2 := hide (Below.next HB1.out hb2 HB1.out.size)
  have HO12 := hide (HO1.out.kept (grown_below hb2) (by cases v.ownBlock <;> simp))
  have HO2 := hide hO2
  clear hb2 hO2 d1
  go_wp2_with fail
  refine (sameInts_any (holdsNew kind) (holdsNew kind) _ _ _ (sl_own HO12.out) (sl_own HO2.out)).mono ?_
  rintro e w3 ⟨rfl, k3, rfl⟩
  rw [decide_eq_true (rfl : holdsNew kind = holdsNew kind)]
  go_wp2_with fail
  refine (ownInts_nil bL _ _ _ w _ (Below.drewN HB2.out _) HH.out.law.lt (HH.out.law.old (Below.drewN HB2.out _)) _ _ _ (show (w2.drewN k3).ownsRow w.heap.size 3 1 v _ _ from HO12.out) hlen).mono ?_
  rintro e w4 ⟨rfl, l, hL⟩
  have HL := hide hL
  clear hL
  go_wp2_with fail
  go_ret
  exact ⟨rfl, l, HL.out⟩
end Go.Proofs.YtefjhnhdagolhaaGreat
namespace Go.Proofs.YtefjhnhdagolhaaGreat
open Go.RowKit
theorem pairs_get (mk : Value) : ∀ (ss : List Value) (t : Nat) (s : Value), ss[t]? = some s → (ss.flatMap fun s => [s, mk])[t * 2]? = some s ∧ (ss.flatMap fun s => [s, mk])[t * 2 + 1]? = some mk
  | [], _, _, h => by simp at h
  | a :: ss, 0, s, h => by simp at h; subst h; simp
  | a :: ss, t + 1, s, h => by
    have := pairs_get mk ss t s (by simpa using h)
    rw [show (t + 1) * 2 = t * 2 + 1 + 1 by omega]
    simpa using this
theorem Entries.grown {W W' : World} {v : Value} {es : List (Value × Nat)} (h : Entries W v es) {row : Option Nat} (hg : W.grownBy W' row) (hne : ∀ g j c, v = .slice (some ⟨g, 0, none⟩) j c → row ≠ some g) : Entries W' v es := by
  obtain ⟨a, c, rfl, h⟩ := h
  refine ⟨a, c, rfl, fun h0 => ?_⟩
  obtain ⟨g, rfl, h1, h2⟩ := h h0
  have hz := hg.size
  exact ⟨g, rfl, by omega, fun t s k ht => ⟨hg.cell (h2 t s k ht).1 (fun q => hne g _ _ rfl q.symm), hg.cell (h2 t s k ht).2 (fun q => hne g _ _ rfl q.symm)⟩⟩
theorem Lay.entries {w : World} {bL : Nat} {tW tO tL : TypeId} {sz : Nat} {u : Value} {cs : Value → List Value} {i k : Nat} {l : Value} {gm cm : Nat} {ss : List Value} {W : World} (h : Lay w bL tW tO tL sz u (.int .i64 0) cs i k l gm cm ss W) :
    Entries W (.slice (some ⟨gm, 0, none⟩) (i + 1) cm) (ss.map fun s => (s, 0)) := by
  refine ⟨_, cm, by simp [h.len], fun _ => ⟨gm, rfl, (h.own.lt gm rfl).2, fun t s k ht => ?_⟩⟩
  rw [List.getElem?_map] at ht
  obtain ⟨s', hs, he⟩ := Option.map_eq_some_iff.1 ht
  injection he with e1 e2
  subst e1
  subst e2
  obtain ⟨p1, p2⟩ := pairs_get (.int .i64 0) ss t s' hs
  have q1 := h.own.cells (g := gm) rfl _ _ p1
  have q2 := h.own.cells (g := gm) rfl _ _ p2
  rw [show ∀ j, (⟨gm, 0, none⟩ : Addr).add j = ⟨gm, j, none⟩ from fun j => by by_cases q : j = 0 <;> simp [Addr.add, q]] at q1 q2
  exact ⟨q1, q2⟩
structure Seen (bL : Nat) (x y : Value) (W : World) : Prop where
  ex : ∃ ms is es1 es2 J, J ≤ 1099511627776 ∧ Row W bL 90 [x, y, ms, is] ∧ Entries W ms es1 ∧ Entries W is es2 ∧ es1.length ≤ 1099511627776 ∧ es2.length ≤ 1099511627776 ∧
    (∀ s k, (s, k) ∈ es1 → k ≤ 1099511627776 ∧ Reads (markCell k) 3 J s W) ∧ (∀ s k, (s, k) ∈ es2 → k ≤ 1099511627776 ∧ Reads (intCell k) 1 J s W)
theorem Seen.later {bL : Nat} {x y : Value} {W W' : World} (h : Seen bL x y W) (hb : Below W.heap.size W W') : Seen bL x y W' := by
  obtain ⟨ms, is, es1, es2, J, hJ, hR, h1, h2, l1, l2, r1, r2⟩ := h.ex
  have hg := grown_below hb
  exact ⟨ms, is, es1, es2, J, hJ, hR.old hb, h1.grown hg (by simp), h2.grown hg (by simp), l1, l2, fun s k hs => ⟨(r1 s k hs).1, (r1 s k hs).2.grown hg (by simp)⟩, fun s k hs => ⟨(r2 s k hs).1, (r2 s k hs).2.grown hg (by simp)⟩⟩
theorem Reads.more {mk : Nat → Value} {sz i j : Nat} {s : Value} {W : World} (h : Reads mk sz i s W) (hi : i ≤ j) : Reads mk sz j s W := by
  rcases h with h | ⟨g, j', c, rfl, h1, h2⟩
  · exact .inl h
  · exact .inr ⟨g, j', c, rfl, by omega, h2⟩
theorem seen_of {V W W' : World} {bL : Nat} {x y is ms l l' : Value} {k k' : Nat} (hk : k ≤ 1000) (hk' : k' ≤ 2000000) {gm cm : Nat} {ss : List Value} (hM : Lay V bL 90 99 81 3 (.int .i64 (-1)) (.int .i64 0) (fun v => [x, y, v, is]) 3 k l gm cm ss W) (hms : ms = .slice (some ⟨gm, 0, none⟩) 4 cm)
    (hI : LayI W bL x y ms 3 k' l' W') : Seen bL x y W' := by
  obtain ⟨gi, ci, si, hI⟩ := hI
  subst hms
  have hg := hI.gr
  have hgm := (hM.own.lt gm rfl).1
  have hbl := hM.lt
  refine ⟨_, _, ss.map fun s => (s, 0), si.map fun s => (s, 0), 2000000, by decide, hI.row, hM.entries.grown hg ?_, hI.entries, by simp [hM.len], by simp [hI.len], ?_, ?_⟩
  · intro g j c e q
    injection e with e1; injection e1 with e2; injection e2 with e3
    injection q with q
    omega
  · intro s k0 hs
    obtain ⟨s', hs', he⟩ := List.mem_map.1 hs
    injection he with e1 e2
    subst e1
    subst e2
    obtain ⟨r1, r2⟩ := hM.rds s' hs'
    refine ⟨by decide, Reads.more ?_ (show k ≤ 2000000 by omega)⟩
    rw [show markCell 0 = fun _ => .int .i64 (-1) by funext p; unfold markCell; split <;> rfl]
    exact r1.grown hg (fun g j c e q => by have := (r2 g j c e).1; injection q with q; omega)
  · intro s k0 hs
    obtain ⟨s', hs', he⟩ := List.mem_map.1 hs
    injection he with e1 e2
    subst e1
    subst e2
    refine ⟨by decide, Reads.more ?_ hk'⟩
    rw [show intCell 0 = fun _ => .int .i64 (-1) by funext p; rfl]
    exact (hI.rds s' hs').1
theorem below_grown {B : Nat} {wz W W' : World} (h : Below B wz W) (hg : W.grownBy W' (some B)) (hB : B = wz.heap.size) : Below B wz W' := by
  subst hB
  exact ⟨hg.os.trans h.os, hg.tape.trans h.tape, hg.output.trans h.output, Nat.le_trans h.size hg.size, fun k hk => (hg.block k (Nat.lt_of_lt_of_le hk h.size) (fun e => by injection e with e; omega)).trans (h.block k hk)⟩
theorem last_ok (n : Nat) (kind cap st co : Int) (hk1 : 1 ≤ kind) (hk5 : kind ≤ 5) (hn1 : 1 ≤ n) (hn2 : n ≤ 64) (hc0 : 0 ≤ cap) (hc1 : cap ≤ 64) : LastOk n kind cap st co := by
  intro base bX bY g gc bT a1 l1 c1 a2 l2 c2 tE bN fA fO fS fB w0 wz w hS hR hb
  refine last_of hS hn2 w hb hR
    (fun W => Below wz.heap.size wz W ∧ ∃ V l, LayM V wz.heap.size (.pointer (some ⟨bX, 0, none⟩)) (.pointer (some ⟨bY, 0, none⟩)) (.slice none 0 0) 3 3 l W)
    (fun W => Below wz.heap.size wz W ∧ Seen wz.heap.size (.pointer (some ⟨bX, 0, none⟩)) (.pointer (some ⟨bY, 0, none⟩)) W) ?_ ?_ ?_ ?_
  · intro W hW hr
    refine (lawOrder W (hS.both hW hr)).mono ?_
    rintro e w' ⟨he, V, l, hV, hL⟩
    refine ⟨he, ?_, V, l, hL⟩
    obtain ⟨gm, cm, ss, hL⟩ := hL
    exact below_grown (Below.next hW hV hW.size) hL.gr rfl
  · rintro W ⟨hW, V, l, gm, cm, ss, hL⟩
    refine (lawState W (hS.both hW hL.row) hk1 hk5).mono ?_
    rintro e w' ⟨he, l', hI⟩
    have hlen : (holdsNew kind).length ≤ 1 := by unfold holdsNew; split <;> simp
    refine ⟨he, ?_, seen_of (by decide) (by omega) hL rfl hI⟩
    obtain ⟨gi, ci, si, hI⟩ := hI
    exact below_grown hW hI.gr rfl
  · rintro W ⟨hW, hs⟩
    obtain ⟨ms, is, es1, es2, J, -, hr, -⟩ := hs.ex
    refine (lawBound W (hS.both hW hr) hn1 hn2 hc0 hc1).mono ?_
    rintro e w' ⟨he, hb'⟩
    exact ⟨he, Below.next hW hb' hW.size, hs.later hb'⟩
  · rintro W ⟨hW, hs⟩
    obtain ⟨ms, is, es1, es2, J, hJ, hr, h1, h2, l1, l2, r1, r2⟩ := hs.ex
    refine (looks_any _ _ _ ms is es1 es2 J hJ W hr h1 h2 l1 l2 r1 r2).mono ?_
    rintro e w' ⟨he, hb'⟩
    exact ⟨he, Below.next hW hb' hW.size⟩
theorem news_any (kind th cap st co : Int) (nx ou : List Int) (vn vo : Value) (w : World) (hn : Sl w vn (ints nx)) (ho : Sl w vo (ints ou)) (n1 : nx.length ≤ 1048576) (n2 : ou.length ≤ 1048576) :
    Calls Tryz.prog 3 #[.agg #[.int .i64 kind, .int .i64 th, .int .i64 cap, .int .i64 st, .int .i64 co, vn, vo]] w fun e w' => e = .returned (.bool true) ∧ Below w.heap.size w w' := by
  by_cases h : cfgErr kind th cap st co nx ou = 0
  · obtain ⟨⟨q1, q2, q3, q4, q5, q6⟩, -⟩ := cfg_ok h
    obtain ⟨n, rfl⟩ : ∃ n : Nat, th = (n : Int) := ⟨th.toNat, by omega⟩
    exact news_ok kind n cap st co (last_ok n kind cap st co q1 q2 (by omega) (by omega) q5 q6) nx ou vn vo w hn ho n1 n2 h
  · exact news_err kind th cap st co nx ou vn vo w hn ho n1 n2 h
end Go.Proofs.YtefjhnhdagolhaaGreat
