import Derived.Test.YtefjhnhdagolhabGreatQ03
import Derived.Test.YtefjhnhdagolhabGreatQ04
set_option maxHeartbeats 16000000
set_option maxRecDepth 20000
namespace Go.Proofs.YtefjhnhdagolhabGreat
open int list tree
open Go.RowKit
attribute [local go_sem ↓] Go.wp_at_zero Go.wp_at_succ
def int.bY (bS n:Nat) (most:Int) (gD gG:Nat→Nat) (k:Nat):List Value :=
 (List.range k).flatMap fun (t:Nat)=>aW bS (t:Int) most (gD t) (eD n) (gG t) (tw n)
def list.bY (bS n:Nat) (most:Int) (gD gG:Nat→Nat) (k:Nat):List Value :=
 (List.range k).flatMap fun (t:Nat)=>aW bS (t:Int) most (gD t) (eD n) (gG t) (tw n)
def tree.bY (bS n:Nat) (most:Int) (gD gG:Nat→Nat) (k:Nat):List Value :=
 (List.range k).flatMap fun (t:Nat)=>aW bS (t:Int) most (gD t) (eD n) (gG t) (tw n)
def row.bY (bS n:Nat) (most:Int) (gD gG:Nat→Nat) (k:Nat):List Value :=
 (List.range k).flatMap fun (t:Nat)=>aW bS (t:Int) most (gD t) (eD n) (gG t) (tw n)
theorem int.iL (bS:Nat) (i most:Int) (gD nD gG nG:Nat):(aW bS i most gD nD gG nG).length=28:=rfl
theorem list.iL (bS:Nat) (i most:Int) (gD nD gG nG:Nat):(aW bS i most gD nD gG nG).length=28:=rfl
theorem tree.iL (bS:Nat) (i most:Int) (gD nD gG nG:Nat):(aW bS i most gD nD gG nG).length=28:=rfl
theorem row.iL (bS:Nat) (i most:Int) (gD nD gG nG:Nat):(aW bS i most gD nD gG nG).length=30:=rfl
theorem int.eI (bS:Nat) (i most:Int) (gD nD gG nG:Nat):∀ v∈aW bS i most gD nD gG nG,v.oneCell'=true:=by
 simp [aW,Value.oneCell']
theorem list.eI (bS:Nat) (i most:Int) (gD nD gG nG:Nat):∀ v∈aW bS i most gD nD gG nG,v.oneCell'=true:=by
 simp [aW,Value.oneCell']
theorem tree.eI (bS:Nat) (i most:Int) (gD nD gG nG:Nat):∀ v∈aW bS i most gD nD gG nG,v.oneCell'=true:=by
 simp [aW,Value.oneCell']
theorem row.eI (bS:Nat) (i most:Int) (gD nD gG nG:Nat):∀ v∈aW bS i most gD nD gG nG,v.oneCell'=true:=by
 simp [aW,Value.oneCell']
theorem int.kN (bS n:Nat) (most:Int) (gD gG:Nat→Nat) (k a b:Nat) :
  bY bS n most (fun t=>if t=k then a else gD t) (fun t=>if t=k then b else gG t) (k+1)=bY bS n most gD gG k++aW bS (k:Int) most a (eD n) b (tw n):=by
 unfold bY
 rw [List.range_succ,List.flatMap_append]
 congr 1
 ·rw [List.flatMap_def,List.flatMap_def]
  congr 1
  apply List.map_congr_left
  intro t ht
  have:t<k:=List.mem_range.1 ht
  simp only [if_neg (show ¬t=k by omega)]
 ·simp
theorem list.kN (bS n:Nat) (most:Int) (gD gG:Nat→Nat) (k a b:Nat) :
  bY bS n most (fun t=>if t=k then a else gD t) (fun t=>if t=k then b else gG t) (k+1)=bY bS n most gD gG k++aW bS (k:Int) most a (eD n) b (tw n):=by
 unfold bY
 rw [List.range_succ,List.flatMap_append]
 congr 1
 ·rw [List.flatMap_def,List.flatMap_def]
  congr 1
  apply List.map_congr_left
  intro t ht
  have:t<k:=List.mem_range.1 ht
  simp only [if_neg (show ¬t=k by omega)]
 ·simp
theorem tree.kN (bS n:Nat) (most:Int) (gD gG:Nat→Nat) (k a b:Nat) :
  bY bS n most (fun t=>if t=k then a else gD t) (fun t=>if t=k then b else gG t) (k+1)=bY bS n most gD gG k++aW bS (k:Int) most a (eD n) b (tw n):=by
 unfold bY
 rw [List.range_succ,List.flatMap_append]
 congr 1
 ·rw [List.flatMap_def,List.flatMap_def]
  congr 1
  apply List.map_congr_left
  intro t ht
  have:t<k:=List.mem_range.1 ht
  simp only [if_neg (show ¬t=k by omega)]
 ·simp
theorem row.kN (bS n:Nat) (most:Int) (gD gG:Nat→Nat) (k a b:Nat) :
  bY bS n most (fun t=>if t=k then a else gD t) (fun t=>if t=k then b else gG t) (k+1)=bY bS n most gD gG k++aW bS (k:Int) most a (eD n) b (tw n):=by
 unfold bY
 rw [List.range_succ,List.flatMap_append]
 congr 1
 ·rw [List.flatMap_def,List.flatMap_def]
  congr 1
  apply List.map_congr_left
  intro t ht
  have:t<k:=List.mem_range.1 ht
  simp only [if_neg (show ¬t=k by omega)]
 ·simp
def int.lA (W1:World) (bS n:Nat) (most:Int) (v:Value) (k:Nat) (gD gG:Nat→Nat) (w':World):Prop :=
 Row w' W1.heap.size 114 [.pointer (some ⟨bS,0,none⟩),v,.int .i64 most]∧w'.ownsRow (W1.heap.size+1) 126 28 v k (bY bS n most gD gG k) ∧
 (∀ t,t<k→Row w' (gD t) 3 (zeros (.int .i64 0) (eD n))∧Row w' (gG t) 3 (zeros (.int .i64 0) (tw n))∧W1.heap.size<gD t∧W1.heap.size<gG t∧some (gD t)≠v.ownBlock∧some (gG t)≠v.ownBlock∧gD t≠gG t) ∧
 (∀ s t,s<t→t<k→gD s≠gD t∧gD s≠gG t∧gG s≠gD t∧gG s≠gG t)∧Below W1.heap.size W1 w'
def list.lA (W1:World) (bS n:Nat) (most:Int) (v:Value) (k:Nat) (gD gG:Nat→Nat) (w':World):Prop :=
 Row w' W1.heap.size 132 [.pointer (some ⟨bS,0,none⟩),v,.int .i64 most]∧w'.ownsRow (W1.heap.size+1) 140 28 v k (bY bS n most gD gG k) ∧
 (∀ t,t<k→Row w' (gD t) 3 (zeros (.int .i64 0) (eD n))∧Row w' (gG t) 3 (zeros (.int .i64 0) (tw n))∧W1.heap.size<gD t∧W1.heap.size<gG t∧some (gD t)≠v.ownBlock∧some (gG t)≠v.ownBlock∧gD t≠gG t) ∧
 (∀ s t,s<t→t<k→gD s≠gD t∧gD s≠gG t∧gG s≠gD t∧gG s≠gG t)∧Below W1.heap.size W1 w'
def tree.lA (W1:World) (bS n:Nat) (most:Int) (v:Value) (k:Nat) (gD gG:Nat→Nat) (w':World):Prop :=
 Row w' W1.heap.size 160 [.pointer (some ⟨bS,0,none⟩),v,.int .i64 most]∧w'.ownsRow (W1.heap.size+1) 168 28 v k (bY bS n most gD gG k) ∧
 (∀ t,t<k→Row w' (gD t) 3 (zeros (.int .i64 0) (eD n))∧Row w' (gG t) 3 (zeros (.int .i64 0) (tw n))∧W1.heap.size<gD t∧W1.heap.size<gG t∧some (gD t)≠v.ownBlock∧some (gG t)≠v.ownBlock∧gD t≠gG t) ∧
 (∀ s t,s<t→t<k→gD s≠gD t∧gD s≠gG t∧gG s≠gD t∧gG s≠gG t)∧Below W1.heap.size W1 w'
def row.lA (W1:World) (bS n:Nat) (most:Int) (v:Value) (k:Nat) (gD gG:Nat→Nat) (w':World):Prop :=
 Row w' W1.heap.size 146 [.pointer (some ⟨bS,0,none⟩),v,.int .i64 most]∧w'.ownsRow (W1.heap.size+1) 154 30 v k (bY bS n most gD gG k) ∧
 (∀ t,t<k→Row w' (gD t) 3 (zeros (.int .i64 0) (eD n))∧Row w' (gG t) 3 (zeros (.int .i64 0) (tw n))∧W1.heap.size<gD t∧W1.heap.size<gG t∧some (gD t)≠v.ownBlock∧some (gG t)≠v.ownBlock∧gD t≠gG t) ∧
 (∀ s t,s<t→t<k→gD s≠gD t∧gD s≠gG t∧gG s≠gD t∧gG s≠gG t)∧Below W1.heap.size W1 w'
theorem int.nJ {w w':World} (h:Below w.heap.size w w'):w.grownBy w' none:=⟨h.os,h.tape,h.output,h.size,fun k hk _=>h.block k hk⟩
theorem int.cJ {w w':World} {base:Nat} {e:TypeId} {size:Nat} {v:Value} {n:Nat} {xs:List Value} (h:w.ownsRow base e size v n xs) (hb:Below w.heap.size w w'):w'.ownsRow base e size v n xs :=
 h.kept (nJ hb) (by cases v.ownBlock<;>simp)
theorem list.cJ {w w':World} {base:Nat} {e:TypeId} {size:Nat} {v:Value} {n:Nat} {xs:List Value} (h:w.ownsRow base e size v n xs) (hb:Below w.heap.size w w'):w'.ownsRow base e size v n xs :=
 h.kept (nJ hb) (by cases v.ownBlock<;>simp)
theorem tree.cJ {w w':World} {base:Nat} {e:TypeId} {size:Nat} {v:Value} {n:Nat} {xs:List Value} (h:w.ownsRow base e size v n xs) (hb:Below w.heap.size w w'):w'.ownsRow base e size v n xs :=
 h.kept (nJ hb) (by cases v.ownBlock<;>simp)
theorem row.cJ {w w':World} {base:Nat} {e:TypeId} {size:Nat} {v:Value} {n:Nat} {xs:List Value} (h:w.ownsRow base e size v n xs) (hb:Below w.heap.size w w'):w'.ownsRow base e size v n xs :=
 h.kept (nJ hb) (by cases v.ownBlock<;>simp)
def int.lA.cS:Prop:=∀ {W1:World} {bS n:Nat} {most:Int} {v:Value} {k:Nat} {gD gG:Nat→Nat} {wr w2 w4:World} {a b g cap:Nat} (_h:lA W1 bS n most v k gD gG wr) (_hb:Below wr.heap.size wr w2) (_ha:wr.heap.size≤a) (_hb':wr.heap.size≤b) (_hab:a≠b) (_hra:Row w2 a 3 (zeros (.int .i64 0) (eD n))) (_hrb:Row w2 b 3 (zeros (.int .i64 0) (tw n))) (_BI:w4.ownsRow (W1.heap.size+1) 126 28 (.slice (some ⟨g,0,none⟩) (k+1) cap) (k+1) (bY bS n most gD gG k++aW bS (k:Int) most a (eD n) b (tw n))) (_hgr:(w2.alloc (.cells (aW bS (k:Int) most a (eD n) b (tw n)).toArray 126)).grownBy w4 v.ownBlock) (_hg:v.ownBlock=some g∨g=w2.heap.size+1),lA W1 bS n most (.slice (some ⟨g,0,none⟩) (k+1) cap) (k+1) (fun t=>if t=k then a else gD t) (fun t=>if t=k then b else gG t) (w4.setCell ⟨W1.heap.size,1,none⟩ (.slice (some ⟨g,0,none⟩) (k+1) cap))
def list.lA.cS:Prop:=∀ {W1:World} {bS n:Nat} {most:Int} {v:Value} {k:Nat} {gD gG:Nat→Nat} {wr w2 w4:World} {a b g cap:Nat} (_h:lA W1 bS n most v k gD gG wr) (_hb:Below wr.heap.size wr w2) (_ha:wr.heap.size≤a) (_hb':wr.heap.size≤b) (_hab:a≠b) (_hra:Row w2 a 3 (zeros (.int .i64 0) (eD n))) (_hrb:Row w2 b 3 (zeros (.int .i64 0) (tw n))) (_BI:w4.ownsRow (W1.heap.size+1) 140 28 (.slice (some ⟨g,0,none⟩) (k+1) cap) (k+1) (bY bS n most gD gG k++aW bS (k:Int) most a (eD n) b (tw n))) (_hgr:(w2.alloc (.cells (aW bS (k:Int) most a (eD n) b (tw n)).toArray 140)).grownBy w4 v.ownBlock) (_hg:v.ownBlock=some g∨g=w2.heap.size+1),lA W1 bS n most (.slice (some ⟨g,0,none⟩) (k+1) cap) (k+1) (fun t=>if t=k then a else gD t) (fun t=>if t=k then b else gG t) (w4.setCell ⟨W1.heap.size,1,none⟩ (.slice (some ⟨g,0,none⟩) (k+1) cap))
def tree.lA.cS:Prop:=∀ {W1:World} {bS n:Nat} {most:Int} {v:Value} {k:Nat} {gD gG:Nat→Nat} {wr w2 w4:World} {a b g cap:Nat} (_h:lA W1 bS n most v k gD gG wr) (_hb:Below wr.heap.size wr w2) (_ha:wr.heap.size≤a) (_hb':wr.heap.size≤b) (_hab:a≠b) (_hra:Row w2 a 3 (zeros (.int .i64 0) (eD n))) (_hrb:Row w2 b 3 (zeros (.int .i64 0) (tw n))) (_BI:w4.ownsRow (W1.heap.size+1) 168 28 (.slice (some ⟨g,0,none⟩) (k+1) cap) (k+1) (bY bS n most gD gG k++aW bS (k:Int) most a (eD n) b (tw n))) (_hgr:(w2.alloc (.cells (aW bS (k:Int) most a (eD n) b (tw n)).toArray 168)).grownBy w4 v.ownBlock) (_hg:v.ownBlock=some g∨g=w2.heap.size+1),lA W1 bS n most (.slice (some ⟨g,0,none⟩) (k+1) cap) (k+1) (fun t=>if t=k then a else gD t) (fun t=>if t=k then b else gG t) (w4.setCell ⟨W1.heap.size,1,none⟩ (.slice (some ⟨g,0,none⟩) (k+1) cap))
def row.lA.cS:Prop:=∀ {W1:World} {bS n:Nat} {most:Int} {v:Value} {k:Nat} {gD gG:Nat→Nat} {wr w2 w4:World} {a b g cap:Nat} (_h:lA W1 bS n most v k gD gG wr) (_hb:Below wr.heap.size wr w2) (_ha:wr.heap.size≤a) (_hb':wr.heap.size≤b) (_hab:a≠b) (_hra:Row w2 a 3 (zeros (.int .i64 0) (eD n))) (_hrb:Row w2 b 3 (zeros (.int .i64 0) (tw n))) (_BI:w4.ownsRow (W1.heap.size+1) 154 30 (.slice (some ⟨g,0,none⟩) (k+1) cap) (k+1) (bY bS n most gD gG k++aW bS (k:Int) most a (eD n) b (tw n))) (_hgr:(w2.alloc (.cells (aW bS (k:Int) most a (eD n) b (tw n)).toArray 154)).grownBy w4 v.ownBlock) (_hg:v.ownBlock=some g∨g=w2.heap.size+1),lA W1 bS n most (.slice (some ⟨g,0,none⟩) (k+1) cap) (k+1) (fun t=>if t=k then a else gD t) (fun t=>if t=k then b else gG t) (w4.setCell ⟨W1.heap.size,1,none⟩ (.slice (some ⟨g,0,none⟩) (k+1) cap))
open row in
theorem rT:int.lA.cS∧list.lA.cS∧tree.lA.cS∧row.lA.cS:=by
 refine ⟨@mkK _ 0 ?_,@mkK _ 1 ?_,@mkK _ 2 ?_,@mkK _ 3 ?_⟩<;>intro kk W1 bS n most v k gD gG wr w2 w4 a b g cap h hb ha hb' hab LR hrb hown jY hg
 all_goals
  obtain ⟨hE,hO,hT,hD,hB⟩:=h
  have hz:=hb.size
  have hzB:=hB.size
  have hlE:=hE.lt
  have hla:=LR.lt
  have hlb:=hrb.lt
  have BJ:=hO.lt
  have keep:∀ {q:Nat} {t:TypeId} {xs:List Value},Row w2 q t xs→some q≠v.ownBlock→Row w4 q t xs:=fun {q t xs} hr hne =>
   (hr.alloc _).of_block (jY.block q (Nat.lt_of_lt_of_le hr.lt (by simp)) hne)
  have hav:some a≠v.ownBlock:=fun e=>by have:=(BJ a e.symm).2;omega
  have hbv:some b≠v.ownBlock:=fun e=>by have:=(BJ b e.symm).2;omega
  have hEv:some W1.heap.size≠v.ownBlock:=fun e=>by have:=(BJ _ e.symm).1;omega
  have XO:∀ q,q<w2.heap.size→some q≠v.ownBlock→q≠g:=fun q hq hne e=>by
   subst e
   rcases hg with h|h
   ·exact hne h.symm
   ·omega
  refine ⟨?_,?_,?_,?_,?_⟩
  ·have:=(keep (hE.old hb) hEv).set 1 (.slice (some ⟨g,0,none⟩) (k+1) cap)
   simpa using this
  ·first|(have _:Kn 0:=kk;rw [int.kN])|(have _:Kn 1:=kk;rw [list.kN])|(have _:Kn 2:=kk;rw [tree.kN])|(have _:Kn 3:=kk;rw [row.kN])
   exact ownsRow_setCell_below hown (by simp) _
  ·intro t ht
   by_cases e:t=k
   ·subst e
    simp only [if_true]
    refine ⟨(keep LR hav).setOther (by simp;omega) _,(keep hrb hbv).setOther (by simp;omega) _,by omega,by omega,?_,?_,hab⟩
    ·simp only [Value.ownBlock,ne_eq,Option.some.injEq];exact XO a hla hav
    ·simp only [Value.ownBlock,ne_eq,Option.some.injEq];exact XO b hlb hbv
   ·simp only [if_neg e]
    obtain ⟨h1,h2,h3,h4,h5,h6,h7⟩:=hT t (by omega)
    refine ⟨(keep (h1.old hb) h5).setOther (by simp;omega) _,(keep (h2.old hb) h6).setOther (by simp;omega) _,h3,h4,?_,?_,h7⟩
    ·simp only [Value.ownBlock,ne_eq,Option.some.injEq];exact XO _ (h1.old hb).lt h5
    ·simp only [Value.ownBlock,ne_eq,Option.some.injEq];exact XO _ (h2.old hb).lt h6
  ·intro s t h1 h2
   by_cases e:t=k
   ·subst e
    obtain ⟨r1,r2,-⟩:=hT s h1
    have l1:=r1.lt
    have l2:=r2.lt
    simp only [if_true,if_neg (show ¬s=t by omega)]
    omega
   ·simp only [if_neg e,if_neg (show ¬s=k by omega)]
    exact hD s t h1 (by omega)
  ·first|(have _:Kn 0:=kk;have q1:Below W1.heap.size W1 (w2.alloc (.cells (int.aW bS (k:Int) most a (eD n) b (tw n)).toArray 126)):=Below.alloc (Below.next hB hb hzB) (by omega) _)|(have _:Kn 1:=kk;have q1:Below W1.heap.size W1 (w2.alloc (.cells (list.aW bS (k:Int) most a (eD n) b (tw n)).toArray 140)):=Below.alloc (Below.next hB hb hzB) (by omega) _)|(have _:Kn 2:=kk;have q1:Below W1.heap.size W1 (w2.alloc (.cells (tree.aW bS (k:Int) most a (eD n) b (tw n)).toArray 168)):=Below.alloc (Below.next hB hb hzB) (by omega) _)|(have _:Kn 3:=kk;have q1:Below W1.heap.size W1 (w2.alloc (.cells (row.aW bS (k:Int) most a (eD n) b (tw n)).toArray 154)):=Below.alloc (Below.next hB hb hzB) (by omega) _)
   exact (q1.grown jY (by simp;omega) (fun q hq=>by have:=(BJ q hq).1;omega)).setCell (Nat.le_refl _) _
theorem int.lA.next:cS:=rT.1
theorem list.lA.next:cS:=rT.2.1
theorem tree.lA.next:cS:=rT.2.2.1
theorem row.lA.next:cS:=rT.2.2.2
theorem int.dU.later {base bS aZ aX bP n:Nat} {oT:TypeId} {ov:Value} {bW:Nat→Nat} {bB bE:Nat} {w w':World} (h:dU base bS aZ aX bP n oT ov bW bB bE w) (hb:Below w.heap.size w w'):dU base bS aZ aX bP n oT ov bW bB bE w':=by
 obtain ⟨a1,a2,a3,a4,a5,a6,a7,a8,z⟩:=h
 exact ⟨a1.old hb,a2.old hb,a3.old hb,a4.old hb,fun r hr=>⟨(a5 r hr).1.old hb,(a5 r hr).2⟩,a6,a7.old hb,a8.old hb,z⟩
theorem list.dU.later {base bS aZ aX bP n:Nat} {oT:TypeId} {ov:Value} {bW:Nat→Nat} {bB bE:Nat} {w w':World} (h:dU base bS aZ aX bP n oT ov bW bB bE w) (hb:Below w.heap.size w w'):dU base bS aZ aX bP n oT ov bW bB bE w':=by
 obtain ⟨a1,a2,a3,a4,a5,a6,a7,a8,z⟩:=h
 exact ⟨a1.old hb,a2.old hb,a3.old hb,a4.old hb,fun r hr=>⟨(a5 r hr).1.old hb,(a5 r hr).2⟩,a6,a7.old hb,a8.old hb,z⟩
theorem tree.dU.later {base bS aZ aX bP n:Nat} {oT:TypeId} {ov:Value} {bW:Nat→Nat} {bB bE:Nat} {w w':World} (h:dU base bS aZ aX bP n oT ov bW bB bE w) (hb:Below w.heap.size w w'):dU base bS aZ aX bP n oT ov bW bB bE w':=by
 obtain ⟨a1,a2,a3,a4,a5,a6,a7,a8,z⟩:=h
 exact ⟨a1.old hb,a2.old hb,a3.old hb,a4.old hb,fun r hr=>⟨(a5 r hr).1.old hb,(a5 r hr).2⟩,a6,a7.old hb,a8.old hb,z⟩
theorem row.dU.later {base bS aZ aX bP n:Nat} {oT:TypeId} {ov:Value} {bW:Nat→Nat} {bB bE:Nat} {w w':World} (h:dU base bS aZ aX bP n oT ov bW bB bE w) (hb:Below w.heap.size w w'):dU base bS aZ aX bP n oT ov bW bB bE w':=by
 obtain ⟨a1,a2,a3,a4,a5,a6,a7,a8,z⟩:=h
 exact ⟨a1.old hb,a2.old hb,a3.old hb,a4.old hb,fun r hr=>⟨(a5 r hr).1.old hb,(a5 r hr).2⟩,a6,a7.old hb,a8.old hb,z⟩
theorem int.dD (bS n:Nat) (i most:Int) (w:World) (hc:w.cell? ⟨bS,0,none⟩=some (.int .i64 (n:Int))) (h0:1≤n) (h1:n≤64) (h2:0≤i) (h3:i≤64) :
  Calls Tryz.prog 36 #[.pointer (some ⟨bS,0,none⟩),.int .i64 i,.int .i64 most] w fun e w'=>∃ gD gG,e = .returned (.agg (aW bS i most gD (eD n) gG (tw n)).toArray)∧w.heap.size≤gD∧w.heap.size≤gG∧gD≠gG ∧
   Row w' gD 3 (zeros (.int .i64 0) (eD n))∧Row w' gG 3 (zeros (.int .i64 0) (tw n))∧Below w.heap.size w w':=by
 have h:=gA bS (n:Int) i most w hc (by omega) (by omega) h2 h3
 rwa [show (((n:Int)+15) / 16+2*(n:Int)).toNat=eD n from by unfold eD;omega,show (((n:Int)+15) / 16).toNat=tw n from by unfold tw;omega] at h
theorem list.dD (bS n:Nat) (i most:Int) (w:World) (hc:w.cell? ⟨bS,0,none⟩=some (.int .i64 (n:Int))) (h0:1≤n) (h1:n≤64) (h2:0≤i) (h3:i≤64) :
  Calls Tryz.prog 38 #[.pointer (some ⟨bS,0,none⟩),.int .i64 i,.int .i64 most] w fun e w'=>∃ gD gG,e = .returned (.agg (aW bS i most gD (eD n) gG (tw n)).toArray)∧w.heap.size≤gD∧w.heap.size≤gG∧gD≠gG ∧
   Row w' gD 3 (zeros (.int .i64 0) (eD n))∧Row w' gG 3 (zeros (.int .i64 0) (tw n))∧Below w.heap.size w w':=by
 have h:=gA bS (n:Int) i most w hc (by omega) (by omega) h2 h3
 rwa [show (((n:Int)+15) / 16+2*(n:Int)).toNat=eD n from by unfold eD;omega,show (((n:Int)+15) / 16).toNat=tw n from by unfold tw;omega] at h
theorem tree.dD (bS n:Nat) (i most:Int) (w:World) (hc:w.cell? ⟨bS,0,none⟩=some (.int .i64 (n:Int))) (h0:1≤n) (h1:n≤64) (h2:0≤i) (h3:i≤64) :
  Calls Tryz.prog 42 #[.pointer (some ⟨bS,0,none⟩),.int .i64 i,.int .i64 most] w fun e w'=>∃ gD gG,e = .returned (.agg (aW bS i most gD (eD n) gG (tw n)).toArray)∧w.heap.size≤gD∧w.heap.size≤gG∧gD≠gG ∧
   Row w' gD 3 (zeros (.int .i64 0) (eD n))∧Row w' gG 3 (zeros (.int .i64 0) (tw n))∧Below w.heap.size w w':=by
 have h:=gA bS (n:Int) i most w hc (by omega) (by omega) h2 h3
 rwa [show (((n:Int)+15) / 16+2*(n:Int)).toNat=eD n from by unfold eD;omega,show (((n:Int)+15) / 16).toNat=tw n from by unfold tw;omega] at h
theorem row.dD (bS n:Nat) (i most:Int) (w:World) (hc:w.cell? ⟨bS,0,none⟩=some (.int .i64 (n:Int))) (h0:1≤n) (h1:n≤64) (h2:0≤i) (h3:i≤64) :
  Calls Tryz.prog 40 #[.pointer (some ⟨bS,0,none⟩),.int .i64 i,.int .i64 most] w fun e w'=>∃ gD gG,e = .returned (.agg (aW bS i most gD (eD n) gG (tw n)).toArray)∧w.heap.size≤gD∧w.heap.size≤gG∧gD≠gG ∧
   Row w' gD 3 (zeros (.int .i64 0) (eD n))∧Row w' gG 3 (zeros (.int .i64 0) (tw n))∧Below w.heap.size w w':=by
 have h:=gA bS (n:Int) i most w hc (by omega) (by omega) h2 h3
 rwa [show (((n:Int)+15) / 16+2*(n:Int)).toNat=eD n from by unfold eD;omega,show (((n:Int)+15) / 16).toNat=tw n from by unfold tw;omega] at h
theorem int.TJ {w w4:World} {row:Option Nat} {E bS:Nat} {p q:Value} (hg:w.grownBy w4 row) (h:w.cell? ⟨E,0,none⟩=some p∧w.cell? ⟨bS,0,none⟩=some q∧w.there E 1 1) (hE:some E≠row) (hS:some bS≠row) :
  w4.cell? ⟨E,0,none⟩=some p∧w4.cell? ⟨bS,0,none⟩=some q∧w4.there E 1 1:=by
 refine ⟨hg.cell h.1 hE,hg.cell h.2.1 hS,fun j hj=>?_⟩
 obtain ⟨h1,h2⟩:=h.2.2 j hj
 have hlt:=World.block_lt_of_cell? w _ h.1
 rw [hg.cell_far ⟨E,1+j,none⟩ hlt hE,hg.frozen_far ⟨E,1+j,none⟩ hlt hE]
 exact ⟨h1,h2⟩
theorem int.MP {w:World} {E bS:Nat} {p q:Value} (h:w.cell? ⟨E,0,none⟩=some p∧w.cell? ⟨bS,0,none⟩=some q∧w.there E 1 1) (hlt:bS<E) (v:Value) :
  (w.setCell ⟨E,1,none⟩ v).cell? ⟨E,0,none⟩=some p∧(w.setCell ⟨E,1,none⟩ v).cell? ⟨bS,0,none⟩=some q∧(w.setCell ⟨E,1,none⟩ v).there E 1 1 :=
 ⟨(World.cell?_setCell_other w _ _ v (by simp)).trans h.1,(World.cell?_setCell_far w _ _ v (by simp;omega)).trans h.2.1,bM h.2.2 _ rfl _⟩
def int.bG (w:World) (n:Nat) (most:Int) (oT:TypeId) (ov:Value) (b:Nat) (w':World):Prop :=
 ∃ W1 bS aZ aX bP bW bB bE v gD gG,b=W1.heap.size∧dU w.heap.size bS aZ aX bP n oT ov bW bB bE W1∧Below w.heap.size w W1∧lA W1 bS n most v n gD gG w'
def list.bG (w:World) (n:Nat) (most:Int) (oT:TypeId) (ov:Value) (b:Nat) (w':World):Prop :=
 ∃ W1 bS aZ aX bP bW bB bE v gD gG,b=W1.heap.size∧dU w.heap.size bS aZ aX bP n oT ov bW bB bE W1∧Below w.heap.size w W1∧lA W1 bS n most v n gD gG w'
def tree.bG (w:World) (n:Nat) (most:Int) (oT:TypeId) (ov:Value) (b:Nat) (w':World):Prop :=
 ∃ W1 bS aZ aX bP bW bB bE v gD gG,b=W1.heap.size∧dU w.heap.size bS aZ aX bP n oT ov bW bB bE W1∧Below w.heap.size w W1∧lA W1 bS n most v n gD gG w'
def row.bG (w:World) (n:Nat) (most:Int) (oT:TypeId) (ov:Value) (b:Nat) (w':World):Prop :=
 ∃ W1 bS aZ aX bP bW bB bE v gD gG,b=W1.heap.size∧dU w.heap.size bS aZ aX bP n oT ov bW bB bE W1∧Below w.heap.size w W1∧lA W1 bS n most v n gD gG w'
theorem int.iZ:(Tryz.prog.info? 126).map (fun i=>(i.zero.map (·.cells.size),i.size,i.bytes))=some (some 28,28,272):=by kernel_rfl
theorem list.iZ:(Tryz.prog.info? 140).map (fun i=>(i.zero.map (·.cells.size),i.size,i.bytes))=some (some 28,28,272):=by kernel_rfl
theorem tree.iZ:(Tryz.prog.info? 168).map (fun i=>(i.zero.map (·.cells.size),i.size,i.bytes))=some (some 28,28,272):=by kernel_rfl
theorem row.iZ:(Tryz.prog.info? 154).map (fun i=>(i.zero.map (·.cells.size),i.size,i.bytes))=some (some 30,30,288):=by kernel_rfl
def int.cN:Prop:=∀ (oT:TypeId) (ov:Value) (fF:Nat) (rv:Value) (_hm:∀ w,(method 466 oT ov "First").run Tryz.prog w = .ok (fF,rv) w) (_vL:∀ w,(callFunc fF #[rv]).run Tryz.prog w = .ok (.enter fF #[rv]) w) (_hF:∀ w,Calls Tryz.prog fF #[rv] w fun e w'=>e = .returned (.int .i64 0)∧Below w.heap.size w w') (n:Nat) (most:Int) (w:World) (_MM:1≤n) (_MN:n≤64),Calls Tryz.prog 25 #[.iface oT ov,.int .i64 (n:Int),.int .i64 most] w fun e w'=>∃ b,e = .returned (.pointer (some ⟨b,0,none⟩))∧bG w n most oT ov b w'
def list.cN:Prop:=∀ (oT:TypeId) (ov:Value) (fF:Nat) (rv:Value) (_hm:∀ w,(method 466 oT ov "First").run Tryz.prog w = .ok (fF,rv) w) (_vL:∀ w,(callFunc fF #[rv]).run Tryz.prog w = .ok (.enter fF #[rv]) w) (_hF:∀ w,Calls Tryz.prog fF #[rv] w fun e w'=>e = .returned (.pointer none)∧Below w.heap.size w w') (n:Nat) (most:Int) (w:World) (_MM:1≤n) (_MN:n≤64),Calls Tryz.prog 26 #[.iface oT ov,.int .i64 (n:Int),.int .i64 most] w fun e w'=>∃ b,e = .returned (.pointer (some ⟨b,0,none⟩))∧bG w n most oT ov b w'
def tree.cN:Prop:=∀ (oT:TypeId) (ov:Value) (fF:Nat) (rv:Value) (_hm:∀ w,(method 466 oT ov "First").run Tryz.prog w = .ok (fF,rv) w) (_vL:∀ w,(callFunc fF #[rv]).run Tryz.prog w = .ok (.enter fF #[rv]) w) (_hF:∀ w,Calls Tryz.prog fF #[rv] w fun e w'=>e = .returned (.pointer none)∧Below w.heap.size w w') (n:Nat) (most:Int) (w:World) (_MM:1≤n) (_MN:n≤64),Calls Tryz.prog 28 #[.iface oT ov,.int .i64 (n:Int),.int .i64 most] w fun e w'=>∃ b,e = .returned (.pointer (some ⟨b,0,none⟩))∧bG w n most oT ov b w'
def row.cN:Prop:=∀ (oT:TypeId) (ov:Value) (fF:Nat) (rv:Value) (_hm:∀ w,(method 466 oT ov "First").run Tryz.prog w = .ok (fF,rv) w) (_vL:∀ w,(callFunc fF #[rv]).run Tryz.prog w = .ok (.enter fF #[rv]) w) (_hF:∀ w,Calls Tryz.prog fF #[rv] w fun e w'=>e = .returned (.agg #[.pointer none,.pointer none])∧Below w.heap.size w w') (n:Nat) (most:Int) (w:World) (_MM:1≤n) (_MN:n≤64),Calls Tryz.prog 27 #[.iface oT ov,.int .i64 (n:Int),.int .i64 most] w fun e w'=>∃ b,e = .returned (.pointer (some ⟨b,0,none⟩))∧bG w n most oT ov b w'
open row in
theorem kL:int.cN∧list.cN∧tree.cN∧row.cN:=by
 refine ⟨@mkK _ 0 ?_,@mkK _ 1 ?_,@mkK _ 2 ?_,@mkK _ 3 ?_⟩<;>intro kk oT ov fF rv hm eE hF n most w _h0 _h1
 all_goals
  first|(have _:Kn 0:=kk;have hsh:=int.gB oT ov fF rv hm eE hF n w _h0 _h1)|(have _:Kn 1:=kk;have hsh:=list.gB oT ov fF rv hm eE hF n w _h0 _h1)|(have _:Kn 2:=kk;have hsh:=tree.gB oT ov fF rv hm eE hF n w _h0 _h1)|(have _:Kn 3:=kk;have hsh:=row.gB oT ov fF rv hm eE hF n w _h0 _h1)
  have HSH:=aA hsh
  clear hsh hF hm eE
  first|(have _:Kn 0:=kk;obtain ⟨ti,zF,xL⟩:=Option.map_eq_some_iff.1 int.iZ)|(have _:Kn 1:=kk;obtain ⟨ti,zF,xL⟩:=Option.map_eq_some_iff.1 list.iZ)|(have _:Kn 2:=kk;obtain ⟨ti,zF,xL⟩:=Option.map_eq_some_iff.1 tree.iZ)|(have _:Kn 3:=kk;obtain ⟨ti,zF,xL⟩:=Option.map_eq_some_iff.1 row.iZ)
  simp only [Prod.mk.injEq] at xL
  obtain ⟨qX,qY,qZ⟩:=xL
  obtain ⟨tz,aB6,aB7⟩:=Option.map_eq_some_iff.1 qX
  have tT:=aA zF
  have SH:=aA aB6
  have sU:=aA qY
  have pL:=aA qZ
  have JK:=aA aB7
  clear zF qX qY qZ aB6 aB7
  first|(have _:Kn 0:=kk;go_enter Tryz.func25,Tryz.ntmps25)|(have _:Kn 1:=kk;go_enter Tryz.func26,Tryz.ntmps26)|(have _:Kn 2:=kk;go_enter Tryz.func28,Tryz.ntmps28)|(have _:Kn 3:=kk;go_enter Tryz.func27,Tryz.ntmps27)
  go_wp2_with fail
  refine HSH.out.mono ?_
  rintro e W1 ⟨bS,aZ,aX,bP,bW,bB,bE,rfl,aB8,aB9⟩
  have HSN:=aA aB8
  have HBW:=aA aB9
  clear aB8 aB9
  go_wp2_with fail
  first
   |have _:Kn 0:=kk
    have hE0:int.lA W1 bS n most (.slice none 0 0) 0 (fun _=>0) (fun _=>0) (W1.alloc (.cells [.pointer (some ⟨bS,0,none⟩),.slice none 0 0,.int .i64 most].toArray 114)) :=
     ⟨Row.new' rfl,World.ownsRow_nil _ _ _ _,fun t ht=>absurd ht (by omega),fun s t _ h=>absurd h (by omega),aB _ _⟩
   |have _:Kn 1:=kk
    have hE0:list.lA W1 bS n most (.slice none 0 0) 0 (fun _=>0) (fun _=>0) (W1.alloc (.cells [.pointer (some ⟨bS,0,none⟩),.slice none 0 0,.int .i64 most].toArray 132)) :=
     ⟨Row.new' rfl,World.ownsRow_nil _ _ _ _,fun t ht=>absurd ht (by omega),fun s t _ h=>absurd h (by omega),aB _ _⟩
   |have _:Kn 2:=kk
    have hE0:tree.lA W1 bS n most (.slice none 0 0) 0 (fun _=>0) (fun _=>0) (W1.alloc (.cells [.pointer (some ⟨bS,0,none⟩),.slice none 0 0,.int .i64 most].toArray 160)) :=
     ⟨Row.new' rfl,World.ownsRow_nil _ _ _ _,fun t ht=>absurd ht (by omega),fun s t _ h=>absurd h (by omega),aB _ _⟩
   |have _:Kn 3:=kk
    have hE0:row.lA W1 bS n most (.slice none 0 0) 0 (fun _=>0) (fun _=>0) (W1.alloc (.cells [.pointer (some ⟨bS,0,none⟩),.slice none 0 0,.int .i64 most].toArray 146)) :=
     ⟨Row.new' rfl,World.ownsRow_nil _ _ _ _,fun t ht=>absurd ht (by omega),fun s t _ h=>absurd h (by omega),aB _ _⟩
  first|(have _:Kn 0:=kk;go_loopw [16] (fun i w'=>∃ k v gD gG,k≤n∧i = .int .i64 (k:Int)∧int.lA W1 bS n most v k gD gG w') (fun i _=>n-(intOf i).toNat))|(have _:Kn 1:=kk;go_loopw [16] (fun i w'=>∃ k v gD gG,k≤n∧i = .int .i64 (k:Int)∧list.lA W1 bS n most v k gD gG w') (fun i _=>n-(intOf i).toNat))|(have _:Kn 2:=kk;go_loopw [16] (fun i w'=>∃ k v gD gG,k≤n∧i = .int .i64 (k:Int)∧tree.lA W1 bS n most v k gD gG w') (fun i _=>n-(intOf i).toNat))|(have _:Kn 3:=kk;go_loopw [16] (fun i w'=>∃ k v gD gG,k≤n∧i = .int .i64 (k:Int)∧row.lA W1 bS n most v k gD gG w') (fun i _=>n-(intOf i).toNat))
  case atStart=>exact ⟨0,_,_,_,Nat.zero_le _,rfl,hE0⟩
  case round =>
   obtain ⟨k,v,gD,gG,hk,rfl,hI⟩:=hrel
   by_cases hlt:k<n
   ·have hlt':(k:Int)<(n:Int):=by omega
    have hcv:wr.cell? ⟨W1.heap.size,1,none⟩=some v:=hI.1.cell_of rfl
    have hcs:wr.cell? ⟨W1.heap.size,0,none⟩=some (.pointer (some ⟨bS,0,none⟩)):=hI.1.cell_of rfl
    have QE:wr.cell? ⟨bS,0,none⟩=some (.int .i64 (n:Int)):=(HSN.out.later hI.2.2.2.2).1.cell_of rfl
    have OT:wr.there W1.heap.size 1 1:=hI.1.there (by simp)
    have JL:bS<W1.heap.size:=HSN.out.1.lt
    have BJ:=hI.2.1.lt
    first|(have _:Kn 0:=kk;have hsz:(Tryz.prog.info? 112).map (·.size)=some 1:=by kernel_rfl)|(have _:Kn 1:=kk;have hsz:(Tryz.prog.info? 130).map (·.size)=some 1:=by kernel_rfl)|(have _:Kn 2:=kk;have hsz:(Tryz.prog.info? 158).map (·.size)=some 1:=by kernel_rfl)|(have _:Kn 3:=kk;have hsz:(Tryz.prog.info? 144).map (·.size)=some 1:=by kernel_rfl)
    have HI:=aA hI
    have XP:=aA hcv
    have aAo:some W1.heap.size≠v.ownBlock:=fun e=>by have:=(BJ _ e.symm).1;omega
    have MO:some bS≠v.ownBlock:=fun e=>by have:=(BJ _ e.symm).1;omega
    clear hI hcv BJ
    go_wp2
    refine fQ (S:=(fun w'=>w'.cell? ⟨W1.heap.size,0,none⟩=some (.pointer (some ⟨bS,0,none⟩))∧w'.cell? ⟨bS,0,none⟩=some (.int .i64 (n:Int))∧w'.there W1.heap.size 1 1)) 17 rfl (by kernel_rfl) ?_ (fun hHeld=>?_)
    ·exact ⟨hcs,QE,OT⟩
    iterate 4 (refine tk 16 (by rfl) (by kernel_rfl) (by exact fun _ _ _ h=>h) (.inl ⟨by rfl,fun w hS=>by (try dsimp only at hS);go_simp;(try with_reducible rfl)⟩) (by assumption) ?_;try go_frame)
    iterate 6 (refine tk 17 (by rfl) (by kernel_rfl) (by exact fun _ _ _ h=>h) (.inl ⟨by rfl,fun w hS=>by (try dsimp only at hS);go_simp;(try with_reducible rfl)⟩) (by assumption) ?_;try go_frame)
    refine wpAnyH_ready (rs:=[4,11]) (by kernel_rfl) (by simp) (rc (by rfl) (fun K hK=>?_) (rc (by rfl) (fun K hK=>?_) AllReadyH.nil))
    ·rw [if_pos (by rfl)]
     refine dN _ _ rfl _ _ v rfl (by kernel_rfl) (by first|exact XP.out|exact cell_later bA XP.out|exact cell_later (aB _ _) (cell_later bA XP.out)) ?_
     refine hK.out _ _ ?_ (fun hHeld=>?_)
     ·exact hHeld
     clear hK K
     (try go_frame)
     refine bK 11 (by rfl) (by kernel_rfl) (fun K hK=>?_)
     go_simp
     first|(have _:Kn 0:=kk;refine (int.dD bS n (k:Int) most _ hHeld.2.1 _h0 _h1 (by omega) (by omega)).mono ?_)|(have _:Kn 1:=kk;refine (list.dD bS n (k:Int) most _ hHeld.2.1 _h0 _h1 (by omega) (by omega)).mono ?_)|(have _:Kn 2:=kk;refine (tree.dD bS n (k:Int) most _ hHeld.2.1 _h0 _h1 (by omega) (by omega)).mono ?_)|(have _:Kn 3:=kk;refine (row.dD bS n (k:Int) most _ hHeld.2.1 _h0 _h1 (by omega) (by omega)).mono ?_)
     rintro e w2 ⟨a,b,rfl,ha,hb,hab,LR,hrb,bA⟩
     go_wp2_with fail
     refine hK.out _ _ ?_ (fun hHeld=>?_)
     ·exact ⟨cell_later bA hHeld.1,cell_later bA hHeld.2.1,aU bA hHeld.2.2⟩
     clear hK K
     (try go_frame)
     refine bK 12 (by rfl) (by kernel_rfl) (fun K hK=>?_)
     rw [if_pos (by rfl)]
     first|(have _:Kn 0:=kk;refine fU (v:=.slice (some ⟨w2.heap.size,0,none⟩) 1 1) (w':=w2.alloc (.cells (int.aW bS (k:Int) most a (eD n) b (tw n)).toArray 126)) (by kernel_rfl) ?_)|(have _:Kn 1:=kk;refine fU (v:=.slice (some ⟨w2.heap.size,0,none⟩) 1 1) (w':=w2.alloc (.cells (list.aW bS (k:Int) most a (eD n) b (tw n)).toArray 140)) (by kernel_rfl) ?_)|(have _:Kn 2:=kk;refine fU (v:=.slice (some ⟨w2.heap.size,0,none⟩) 1 1) (w':=w2.alloc (.cells (tree.aW bS (k:Int) most a (eD n) b (tw n)).toArray 168)) (by kernel_rfl) ?_)|(have _:Kn 3:=kk;refine fU (v:=.slice (some ⟨w2.heap.size,0,none⟩) 1 1) (w':=w2.alloc (.cells (row.aW bS (k:Int) most a (eD n) b (tw n)).toArray 154)) (by kernel_rfl) ?_)
     refine hK.out _ _ ?_ (fun hHeld=>?_)
     ·exact ⟨cell_later (aB _ _) hHeld.1,cell_later (aB _ _) hHeld.2.1,World.there_alloc hHeld.2.2 _⟩
     clear hK K
     (try go_frame)
     refine bK 13 (by rfl) (by kernel_rfl) (fun K hK=>?_)
     first|(have _:Kn 0:=kk;refine step_append_lies _ rfl (.tmp 23) (.tmp 31) 112 rfl (W1.heap.size+1) 126 ti tz 28 272 Tryz.underlying112 tT.out SH.out sU.out pL.out JK.out (by decide) v k (int.bY bS n most gD gG k) rfl ?_ ⟨w2.heap.size,0,none⟩ 1 1 (int.aW bS (k:Int) most a (eD n) b (tw n)) rfl rfl ?_ (int.eI _ _ _ _ _ _ _) (by decide) (by unfold maxLen;omega) (by omega) ?_ (w2.heap.size+1) (by simp) ?_)|(have _:Kn 1:=kk;refine step_append_lies _ rfl (.tmp 23) (.tmp 31) 130 rfl (W1.heap.size+1) 140 ti tz 28 272 Tryz.underlying130 tT.out SH.out sU.out pL.out JK.out (by decide) v k (list.bY bS n most gD gG k) rfl ?_ ⟨w2.heap.size,0,none⟩ 1 1 (list.aW bS (k:Int) most a (eD n) b (tw n)) rfl rfl ?_ (list.eI _ _ _ _ _ _ _) (by decide) (by unfold maxLen;omega) (by omega) ?_ (w2.heap.size+1) (by simp) ?_)|(have _:Kn 2:=kk;refine step_append_lies _ rfl (.tmp 23) (.tmp 31) 158 rfl (W1.heap.size+1) 168 ti tz 28 272 Tryz.underlying158 tT.out SH.out sU.out pL.out JK.out (by decide) v k (tree.bY bS n most gD gG k) rfl ?_ ⟨w2.heap.size,0,none⟩ 1 1 (tree.aW bS (k:Int) most a (eD n) b (tw n)) rfl rfl ?_ (tree.eI _ _ _ _ _ _ _) (by decide) (by unfold maxLen;omega) (by omega) ?_ (w2.heap.size+1) (by simp) ?_)|(have _:Kn 3:=kk;refine step_append_lies _ rfl (.tmp 23) (.tmp 31) 144 rfl (W1.heap.size+1) 154 ti tz 30 288 Tryz.underlying144 tT.out SH.out sU.out pL.out JK.out (by decide) v k (row.bY bS n most gD gG k) rfl ?_ ⟨w2.heap.size,0,none⟩ 1 1 (row.aW bS (k:Int) most a (eD n) b (tw n)) rfl rfl ?_ (row.eI _ _ _ _ _ _ _) (by decide) (by unfold maxLen;omega) (by omega) ?_ (w2.heap.size+1) (by simp) ?_)
     ·first|(have _:Kn 0:=kk;exact (int.cJ HI.out.2.1 (Below.bU bA)).alloc _)|(have _:Kn 1:=kk;exact (list.cJ HI.out.2.1 (Below.bU bA)).alloc _)|(have _:Kn 2:=kk;exact (tree.cJ HI.out.2.1 (Below.bU bA)).alloc _)|(have _:Kn 3:=kk;exact (row.cJ HI.out.2.1 (Below.bU bA)).alloc _)
     ·exact World.news_of_block (Row.new w2 _ _)
     ·have:=(Below.bU bA).size;have:=HI.out.1.lt;simp;omega
     intro g cap w4 hown jY hat mN
     have HO:=aA hown
     have HG:=aA jY
     have HA:=aA hat
     clear hown jY hat
     refine hK.out _ _ ?_ (fun hHeld=>?_)
     ·exact TJ HG.out hHeld aAo MO
     clear hK K
     (try go_frame)
     iterate 2 (refine tk 16 (by rfl) (by kernel_rfl) (by exact fun _ _ _ h=>h) (.inl ⟨by rfl,fun w hS=>by (try dsimp only at hS);go_simp;(try with_reducible rfl)⟩) (by assumption) ?_;try go_frame)
     refine bK 16 (by rfl) (by kernel_rfl) (fun K hK=>?_)
     rw [if_pos (by rfl)]
     refine aP _ _ _ rfl W1.heap.size 1 _ rfl rfl rfl rfl hHeld.2.2 hsz ?_
     refine hK.out _ _ ?_ (fun hHeld=>?_)
     ·exact MP hHeld JL _
     clear hK K
     (try go_frame)
     refine wpAnyH_done (by kernel_rfl) ?_ _
     (try go_wp2_with fail)
     go_roundw
     first|(have _:Kn 0:=kk;case rel=>exact ⟨k+1,_,_,_,by omega,by go_num,int.lA.next HI.out (Below.bU bA) ha hb hab LR hrb HO.out HG.out HA.out⟩)|(have _:Kn 1:=kk;case rel=>exact ⟨k+1,_,_,_,by omega,by go_num,list.lA.next HI.out (Below.bU bA) ha hb hab LR hrb HO.out HG.out HA.out⟩)|(have _:Kn 2:=kk;case rel=>exact ⟨k+1,_,_,_,by omega,by go_num,tree.lA.next HI.out (Below.bU bA) ha hb hab LR hrb HO.out HG.out HA.out⟩)|(have _:Kn 3:=kk;case rel=>exact ⟨k+1,_,_,_,by omega,by go_num,row.lA.next HI.out (Below.bU bA) ha hb hab LR hrb HO.out HG.out HA.out⟩)
     case measure=>simp [intOf];omega
    ·go_simp
     first|(have _:Kn 0:=kk;refine (int.dD bS n (k:Int) most _ hHeld.2.1 _h0 _h1 (by omega) (by omega)).mono ?_)|(have _:Kn 1:=kk;refine (list.dD bS n (k:Int) most _ hHeld.2.1 _h0 _h1 (by omega) (by omega)).mono ?_)|(have _:Kn 2:=kk;refine (tree.dD bS n (k:Int) most _ hHeld.2.1 _h0 _h1 (by omega) (by omega)).mono ?_)|(have _:Kn 3:=kk;refine (row.dD bS n (k:Int) most _ hHeld.2.1 _h0 _h1 (by omega) (by omega)).mono ?_)
     rintro e w2 ⟨a,b,rfl,ha,hb,hab,LR,hrb,bA⟩
     go_wp2_with fail
     refine hK.out _ _ ?_ (fun hHeld=>?_)
     ·exact ⟨cell_later bA hHeld.1,cell_later bA hHeld.2.1,aU bA hHeld.2.2⟩
     clear hK K
     (try go_frame)
     refine wpAnyH_ready (rs:=[4,12]) (by kernel_rfl) (by simp) (rc (by rfl) (fun K hK=>?_) (rc (by rfl) (fun K hK=>?_) AllReadyH.nil))
     ·rw [if_pos (by rfl)]
      refine dN _ _ rfl _ _ v rfl (by kernel_rfl) (by first|exact XP.out|exact cell_later bA XP.out|exact cell_later (aB _ _) (cell_later bA XP.out)) ?_
      refine hK.out _ _ ?_ (fun hHeld=>?_)
      ·exact hHeld
      clear hK K
      (try go_frame)
      refine bK 12 (by rfl) (by kernel_rfl) (fun K hK=>?_)
      rw [if_pos (by rfl)]
      first|(have _:Kn 0:=kk;refine fU (v:=.slice (some ⟨w2.heap.size,0,none⟩) 1 1) (w':=w2.alloc (.cells (int.aW bS (k:Int) most a (eD n) b (tw n)).toArray 126)) (by kernel_rfl) ?_)|(have _:Kn 1:=kk;refine fU (v:=.slice (some ⟨w2.heap.size,0,none⟩) 1 1) (w':=w2.alloc (.cells (list.aW bS (k:Int) most a (eD n) b (tw n)).toArray 140)) (by kernel_rfl) ?_)|(have _:Kn 2:=kk;refine fU (v:=.slice (some ⟨w2.heap.size,0,none⟩) 1 1) (w':=w2.alloc (.cells (tree.aW bS (k:Int) most a (eD n) b (tw n)).toArray 168)) (by kernel_rfl) ?_)|(have _:Kn 3:=kk;refine fU (v:=.slice (some ⟨w2.heap.size,0,none⟩) 1 1) (w':=w2.alloc (.cells (row.aW bS (k:Int) most a (eD n) b (tw n)).toArray 154)) (by kernel_rfl) ?_)
      refine hK.out _ _ ?_ (fun hHeld=>?_)
      ·exact ⟨cell_later (aB _ _) hHeld.1,cell_later (aB _ _) hHeld.2.1,World.there_alloc hHeld.2.2 _⟩
      clear hK K
      (try go_frame)
      refine bK 13 (by rfl) (by kernel_rfl) (fun K hK=>?_)
      first|(have _:Kn 0:=kk;refine step_append_lies _ rfl (.tmp 23) (.tmp 31) 112 rfl (W1.heap.size+1) 126 ti tz 28 272 Tryz.underlying112 tT.out SH.out sU.out pL.out JK.out (by decide) v k (int.bY bS n most gD gG k) rfl ?_ ⟨w2.heap.size,0,none⟩ 1 1 (int.aW bS (k:Int) most a (eD n) b (tw n)) rfl rfl ?_ (int.eI _ _ _ _ _ _ _) (by decide) (by unfold maxLen;omega) (by omega) ?_ (w2.heap.size+1) (by simp) ?_)|(have _:Kn 1:=kk;refine step_append_lies _ rfl (.tmp 23) (.tmp 31) 130 rfl (W1.heap.size+1) 140 ti tz 28 272 Tryz.underlying130 tT.out SH.out sU.out pL.out JK.out (by decide) v k (list.bY bS n most gD gG k) rfl ?_ ⟨w2.heap.size,0,none⟩ 1 1 (list.aW bS (k:Int) most a (eD n) b (tw n)) rfl rfl ?_ (list.eI _ _ _ _ _ _ _) (by decide) (by unfold maxLen;omega) (by omega) ?_ (w2.heap.size+1) (by simp) ?_)|(have _:Kn 2:=kk;refine step_append_lies _ rfl (.tmp 23) (.tmp 31) 158 rfl (W1.heap.size+1) 168 ti tz 28 272 Tryz.underlying158 tT.out SH.out sU.out pL.out JK.out (by decide) v k (tree.bY bS n most gD gG k) rfl ?_ ⟨w2.heap.size,0,none⟩ 1 1 (tree.aW bS (k:Int) most a (eD n) b (tw n)) rfl rfl ?_ (tree.eI _ _ _ _ _ _ _) (by decide) (by unfold maxLen;omega) (by omega) ?_ (w2.heap.size+1) (by simp) ?_)|(have _:Kn 3:=kk;refine step_append_lies _ rfl (.tmp 23) (.tmp 31) 144 rfl (W1.heap.size+1) 154 ti tz 30 288 Tryz.underlying144 tT.out SH.out sU.out pL.out JK.out (by decide) v k (row.bY bS n most gD gG k) rfl ?_ ⟨w2.heap.size,0,none⟩ 1 1 (row.aW bS (k:Int) most a (eD n) b (tw n)) rfl rfl ?_ (row.eI _ _ _ _ _ _ _) (by decide) (by unfold maxLen;omega) (by omega) ?_ (w2.heap.size+1) (by simp) ?_)
      ·first|(have _:Kn 0:=kk;exact (int.cJ HI.out.2.1 (Below.bU bA)).alloc _)|(have _:Kn 1:=kk;exact (list.cJ HI.out.2.1 (Below.bU bA)).alloc _)|(have _:Kn 2:=kk;exact (tree.cJ HI.out.2.1 (Below.bU bA)).alloc _)|(have _:Kn 3:=kk;exact (row.cJ HI.out.2.1 (Below.bU bA)).alloc _)
      ·exact World.news_of_block (Row.new w2 _ _)
      ·have:=(Below.bU bA).size;have:=HI.out.1.lt;simp;omega
      intro g cap w4 hown jY hat mN
      have HO:=aA hown
      have HG:=aA jY
      have HA:=aA hat
      clear hown jY hat
      refine hK.out _ _ ?_ (fun hHeld=>?_)
      ·exact TJ HG.out hHeld aAo MO
      clear hK K
      (try go_frame)
      iterate 2 (refine tk 16 (by rfl) (by kernel_rfl) (by exact fun _ _ _ h=>h) (.inl ⟨by rfl,fun w hS=>by (try dsimp only at hS);go_simp;(try with_reducible rfl)⟩) (by assumption) ?_;try go_frame)
      refine bK 16 (by rfl) (by kernel_rfl) (fun K hK=>?_)
      rw [if_pos (by rfl)]
      refine aP _ _ _ rfl W1.heap.size 1 _ rfl rfl rfl rfl hHeld.2.2 hsz ?_
      refine hK.out _ _ ?_ (fun hHeld=>?_)
      ·exact MP hHeld JL _
      clear hK K
      (try go_frame)
      refine wpAnyH_done (by kernel_rfl) ?_ _
      (try go_wp2_with fail)
      go_roundw
      first|(have _:Kn 0:=kk;case rel=>exact ⟨k+1,_,_,_,by omega,by go_num,int.lA.next HI.out (Below.bU bA) ha hb hab LR hrb HO.out HG.out HA.out⟩)|(have _:Kn 1:=kk;case rel=>exact ⟨k+1,_,_,_,by omega,by go_num,list.lA.next HI.out (Below.bU bA) ha hb hab LR hrb HO.out HG.out HA.out⟩)|(have _:Kn 2:=kk;case rel=>exact ⟨k+1,_,_,_,by omega,by go_num,tree.lA.next HI.out (Below.bU bA) ha hb hab LR hrb HO.out HG.out HA.out⟩)|(have _:Kn 3:=kk;case rel=>exact ⟨k+1,_,_,_,by omega,by go_num,row.lA.next HI.out (Below.bU bA) ha hb hab LR hrb HO.out HG.out HA.out⟩)
      case measure=>simp [intOf];omega
     ·rw [if_pos (by rfl)]
      first|(have _:Kn 0:=kk;refine fU (v:=.slice (some ⟨w2.heap.size,0,none⟩) 1 1) (w':=w2.alloc (.cells (int.aW bS (k:Int) most a (eD n) b (tw n)).toArray 126)) (by kernel_rfl) ?_)|(have _:Kn 1:=kk;refine fU (v:=.slice (some ⟨w2.heap.size,0,none⟩) 1 1) (w':=w2.alloc (.cells (list.aW bS (k:Int) most a (eD n) b (tw n)).toArray 140)) (by kernel_rfl) ?_)|(have _:Kn 2:=kk;refine fU (v:=.slice (some ⟨w2.heap.size,0,none⟩) 1 1) (w':=w2.alloc (.cells (tree.aW bS (k:Int) most a (eD n) b (tw n)).toArray 168)) (by kernel_rfl) ?_)|(have _:Kn 3:=kk;refine fU (v:=.slice (some ⟨w2.heap.size,0,none⟩) 1 1) (w':=w2.alloc (.cells (row.aW bS (k:Int) most a (eD n) b (tw n)).toArray 154)) (by kernel_rfl) ?_)
      refine hK.out _ _ ?_ (fun hHeld=>?_)
      ·exact ⟨cell_later (aB _ _) hHeld.1,cell_later (aB _ _) hHeld.2.1,World.there_alloc hHeld.2.2 _⟩
      clear hK K
      (try go_frame)
      refine bK 4 (by rfl) (by kernel_rfl) (fun K hK=>?_)
      rw [if_pos (by rfl)]
      refine dN _ _ rfl _ _ v rfl (by kernel_rfl) (by first|exact XP.out|exact cell_later bA XP.out|exact cell_later (aB _ _) (cell_later bA XP.out)) ?_
      refine hK.out _ _ ?_ (fun hHeld=>?_)
      ·exact hHeld
      clear hK K
      (try go_frame)
      refine bK 13 (by rfl) (by kernel_rfl) (fun K hK=>?_)
      first|(have _:Kn 0:=kk;refine step_append_lies _ rfl (.tmp 23) (.tmp 31) 112 rfl (W1.heap.size+1) 126 ti tz 28 272 Tryz.underlying112 tT.out SH.out sU.out pL.out JK.out (by decide) v k (int.bY bS n most gD gG k) rfl ?_ ⟨w2.heap.size,0,none⟩ 1 1 (int.aW bS (k:Int) most a (eD n) b (tw n)) rfl rfl ?_ (int.eI _ _ _ _ _ _ _) (by decide) (by unfold maxLen;omega) (by omega) ?_ (w2.heap.size+1) (by simp) ?_)|(have _:Kn 1:=kk;refine step_append_lies _ rfl (.tmp 23) (.tmp 31) 130 rfl (W1.heap.size+1) 140 ti tz 28 272 Tryz.underlying130 tT.out SH.out sU.out pL.out JK.out (by decide) v k (list.bY bS n most gD gG k) rfl ?_ ⟨w2.heap.size,0,none⟩ 1 1 (list.aW bS (k:Int) most a (eD n) b (tw n)) rfl rfl ?_ (list.eI _ _ _ _ _ _ _) (by decide) (by unfold maxLen;omega) (by omega) ?_ (w2.heap.size+1) (by simp) ?_)|(have _:Kn 2:=kk;refine step_append_lies _ rfl (.tmp 23) (.tmp 31) 158 rfl (W1.heap.size+1) 168 ti tz 28 272 Tryz.underlying158 tT.out SH.out sU.out pL.out JK.out (by decide) v k (tree.bY bS n most gD gG k) rfl ?_ ⟨w2.heap.size,0,none⟩ 1 1 (tree.aW bS (k:Int) most a (eD n) b (tw n)) rfl rfl ?_ (tree.eI _ _ _ _ _ _ _) (by decide) (by unfold maxLen;omega) (by omega) ?_ (w2.heap.size+1) (by simp) ?_)|(have _:Kn 3:=kk;refine step_append_lies _ rfl (.tmp 23) (.tmp 31) 144 rfl (W1.heap.size+1) 154 ti tz 30 288 Tryz.underlying144 tT.out SH.out sU.out pL.out JK.out (by decide) v k (row.bY bS n most gD gG k) rfl ?_ ⟨w2.heap.size,0,none⟩ 1 1 (row.aW bS (k:Int) most a (eD n) b (tw n)) rfl rfl ?_ (row.eI _ _ _ _ _ _ _) (by decide) (by unfold maxLen;omega) (by omega) ?_ (w2.heap.size+1) (by simp) ?_)
      ·first|(have _:Kn 0:=kk;exact (int.cJ HI.out.2.1 (Below.bU bA)).alloc _)|(have _:Kn 1:=kk;exact (list.cJ HI.out.2.1 (Below.bU bA)).alloc _)|(have _:Kn 2:=kk;exact (tree.cJ HI.out.2.1 (Below.bU bA)).alloc _)|(have _:Kn 3:=kk;exact (row.cJ HI.out.2.1 (Below.bU bA)).alloc _)
      ·exact World.news_of_block (Row.new w2 _ _)
      ·have:=(Below.bU bA).size;have:=HI.out.1.lt;simp;omega
      intro g cap w4 hown jY hat mN
      have HO:=aA hown
      have HG:=aA jY
      have HA:=aA hat
      clear hown jY hat
      refine hK.out _ _ ?_ (fun hHeld=>?_)
      ·exact TJ HG.out hHeld aAo MO
      clear hK K
      (try go_frame)
      iterate 2 (refine tk 16 (by rfl) (by kernel_rfl) (by exact fun _ _ _ h=>h) (.inl ⟨by rfl,fun w hS=>by (try dsimp only at hS);go_simp;(try with_reducible rfl)⟩) (by assumption) ?_;try go_frame)
      refine bK 16 (by rfl) (by kernel_rfl) (fun K hK=>?_)
      rw [if_pos (by rfl)]
      refine aP _ _ _ rfl W1.heap.size 1 _ rfl rfl rfl rfl hHeld.2.2 hsz ?_
      refine hK.out _ _ ?_ (fun hHeld=>?_)
      ·exact MP hHeld JL _
      clear hK K
      (try go_frame)
      refine wpAnyH_done (by kernel_rfl) ?_ _
      (try go_wp2_with fail)
      go_roundw
      first|(have _:Kn 0:=kk;case rel=>exact ⟨k+1,_,_,_,by omega,by go_num,int.lA.next HI.out (Below.bU bA) ha hb hab LR hrb HO.out HG.out HA.out⟩)|(have _:Kn 1:=kk;case rel=>exact ⟨k+1,_,_,_,by omega,by go_num,list.lA.next HI.out (Below.bU bA) ha hb hab LR hrb HO.out HG.out HA.out⟩)|(have _:Kn 2:=kk;case rel=>exact ⟨k+1,_,_,_,by omega,by go_num,tree.lA.next HI.out (Below.bU bA) ha hb hab LR hrb HO.out HG.out HA.out⟩)|(have _:Kn 3:=kk;case rel=>exact ⟨k+1,_,_,_,by omega,by go_num,row.lA.next HI.out (Below.bU bA) ha hb hab LR hrb HO.out HG.out HA.out⟩)
      case measure=>simp [intOf];omega
   ·have hke:k=n:=by omega
    subst hke
    have HI:=aA hI
    clear hI
    have hlt':¬(k:Int)<(k:Int):=by omega
    go_wp2
    go_ret
    exact ⟨W1.heap.size,rfl,W1,bS,aZ,aX,bP,bW,bB,bE,v,gD,gG,rfl,HSN.out,HBW.out,HI.out⟩
theorem int.gC:cN:=kL.1
theorem list.gC:cN:=kL.2.1
theorem tree.gC:cN:=kL.2.2.1
theorem row.gC:cN:=kL.2.2.2
end Go.Proofs.YtefjhnhdagolhabGreat
