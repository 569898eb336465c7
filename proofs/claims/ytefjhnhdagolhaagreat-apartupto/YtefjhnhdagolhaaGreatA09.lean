import Derived.Test.YtefjhnhdagolhaaGreatA06
import Derived.Test.YtefjhnhdagolhaaGreatA08
set_option maxHeartbeats 16000000
set_option maxRecDepth 20000
namespace Go.Proofs.YtefjhnhdagolhaaGreat
open Tryz
open int list tree
open Go.RowKit
attribute [local go_sem ↓] Go.wp_at_zero Go.wp_at_succ
def int.dK (bS n:Nat) (most:Int) (gD gG:Nat→Nat) (k:Nat):List Value :=
 (List.range k).flatMap fun (t:Nat)=>cE bS (t:Int) most (gD t) (mW n) (gG t) (tw n)
def list.dK (bS n:Nat) (most:Int) (gD gG:Nat→Nat) (k:Nat):List Value :=
 (List.range k).flatMap fun (t:Nat)=>cE bS (t:Int) most (gD t) (mW n) (gG t) (tw n)
def tree.dK (bS n:Nat) (most:Int) (gD gG:Nat→Nat) (k:Nat):List Value :=
 (List.range k).flatMap fun (t:Nat)=>cE bS (t:Int) most (gD t) (mW n) (gG t) (tw n)
def row.dK (bS n:Nat) (most:Int) (gD gG:Nat→Nat) (k:Nat):List Value :=
 (List.range k).flatMap fun (t:Nat)=>cE bS (t:Int) most (gD t) (mW n) (gG t) (tw n)
theorem int.kQ (bS:Nat) (i most:Int) (gD nD gG nG:Nat):(cE bS i most gD nD gG nG).length=28:=rfl
theorem list.kQ (bS:Nat) (i most:Int) (gD nD gG nG:Nat):(cE bS i most gD nD gG nG).length=28:=rfl
theorem tree.kQ (bS:Nat) (i most:Int) (gD nD gG nG:Nat):(cE bS i most gD nD gG nG).length=28:=rfl
theorem row.kQ (bS:Nat) (i most:Int) (gD nD gG nG:Nat):(cE bS i most gD nD gG nG).length=30:=rfl
theorem int.qF (bS:Nat) (i most:Int) (gD nD gG nG:Nat):∀ v∈cE bS i most gD nD gG nG,v.oneCell'=true:=by
 simp [cE,Value.oneCell']
theorem list.qF (bS:Nat) (i most:Int) (gD nD gG nG:Nat):∀ v∈cE bS i most gD nD gG nG,v.oneCell'=true:=by
 simp [cE,Value.oneCell']
theorem tree.qF (bS:Nat) (i most:Int) (gD nD gG nG:Nat):∀ v∈cE bS i most gD nD gG nG,v.oneCell'=true:=by
 simp [cE,Value.oneCell']
theorem row.qF (bS:Nat) (i most:Int) (gD nD gG nG:Nat):∀ v∈cE bS i most gD nD gG nG,v.oneCell'=true:=by
 simp [cE,Value.oneCell']
def uF (cE:Nat→Int→Int→Nat→Nat→Nat→Nat→List Value) (dK:Nat→Nat→Int→(Nat→Nat)→(Nat→Nat)→Nat→List Value):Prop:=∀ (bS n:Nat) (most:Int) (gD gG:Nat→Nat) (k a b:Nat),dK bS n most (fun t=>if t=k then a else gD t) (fun t=>if t=k then b else gG t) (k+1)=dK bS n most gD gG k++cE bS (k:Int) most a (mW n) b (tw n)
open row in
theorem jF:uF int.cE int.dK∧uF list.cE list.dK∧uF tree.cE tree.dK∧uF row.cE row.dK:=by
 refine ⟨@mkK _ 0 ?_,@mkK _ 1 ?_,@mkK _ 2 ?_,@mkK _ 3 ?_⟩<;>intro kk bS n most gD gG k a b
 all_goals
  first|(have:=kA kk;unfold int.dK)|(have:=kB kk;unfold list.dK)|(have:=kC kk;unfold tree.dK)|(have:=kD kk;unfold row.dK)
  rw [pR,List.flatMap_append];congr 1
  ·rw [List.flatMap_def,List.flatMap_def]
   congr 1;apply List.map_congr_left;intro t ht;have:t<k:=List.mem_range.1 ht;simp only [aN (show ¬t=k by omega)]
  ·simp
theorem int.nU:uF int.cE int.dK:=jF.1
theorem list.nU:uF list.cE list.dK:=jF.2.1
theorem tree.nU:uF tree.cE tree.dK:=jF.2.2.1
theorem row.nU:uF row.cE row.dK:=jF.2.2.2
def int.xO (W1:World) (bS n:Nat) (most:Int) (v:Value) (k:Nat) (gD gG:Nat→Nat) (w':World):Prop :=
 Row w' W1.heap.size 219 [.pointer (some ⟨bS,0,none⟩),v,.int .i64 most]∧w'.ownsRow (W1.heap.size+1) 231 28 v k (dK bS n most gD gG k) ∧
 (∀ t,t<k→Row w' (gD t) 3 (zeros (.int .i64 0) (mW n))∧Row w' (gG t) 3 (zeros (.int .i64 0) (tw n))∧W1.heap.size<gD t∧W1.heap.size<gG t∧some (gD t)≠v.ownBlock∧some (gG t)≠v.ownBlock∧gD t≠gG t) ∧
 (∀ s t,s<t→t<k→gD s≠gD t∧gD s≠gG t∧gG s≠gD t∧gG s≠gG t)∧Below W1.heap.size W1 w'
def list.xO (W1:World) (bS n:Nat) (most:Int) (v:Value) (k:Nat) (gD gG:Nat→Nat) (w':World):Prop :=
 Row w' W1.heap.size 237 [.pointer (some ⟨bS,0,none⟩),v,.int .i64 most]∧w'.ownsRow (W1.heap.size+1) 245 28 v k (dK bS n most gD gG k) ∧
 (∀ t,t<k→Row w' (gD t) 3 (zeros (.int .i64 0) (mW n))∧Row w' (gG t) 3 (zeros (.int .i64 0) (tw n))∧W1.heap.size<gD t∧W1.heap.size<gG t∧some (gD t)≠v.ownBlock∧some (gG t)≠v.ownBlock∧gD t≠gG t) ∧
 (∀ s t,s<t→t<k→gD s≠gD t∧gD s≠gG t∧gG s≠gD t∧gG s≠gG t)∧Below W1.heap.size W1 w'
def tree.xO (W1:World) (bS n:Nat) (most:Int) (v:Value) (k:Nat) (gD gG:Nat→Nat) (w':World):Prop :=
 Row w' W1.heap.size 265 [.pointer (some ⟨bS,0,none⟩),v,.int .i64 most]∧w'.ownsRow (W1.heap.size+1) 273 28 v k (dK bS n most gD gG k) ∧
 (∀ t,t<k→Row w' (gD t) 3 (zeros (.int .i64 0) (mW n))∧Row w' (gG t) 3 (zeros (.int .i64 0) (tw n))∧W1.heap.size<gD t∧W1.heap.size<gG t∧some (gD t)≠v.ownBlock∧some (gG t)≠v.ownBlock∧gD t≠gG t) ∧
 (∀ s t,s<t→t<k→gD s≠gD t∧gD s≠gG t∧gG s≠gD t∧gG s≠gG t)∧Below W1.heap.size W1 w'
def row.xO (W1:World) (bS n:Nat) (most:Int) (v:Value) (k:Nat) (gD gG:Nat→Nat) (w':World):Prop :=
 Row w' W1.heap.size 251 [.pointer (some ⟨bS,0,none⟩),v,.int .i64 most]∧w'.ownsRow (W1.heap.size+1) 259 30 v k (dK bS n most gD gG k) ∧
 (∀ t,t<k→Row w' (gD t) 3 (zeros (.int .i64 0) (mW n))∧Row w' (gG t) 3 (zeros (.int .i64 0) (tw n))∧W1.heap.size<gD t∧W1.heap.size<gG t∧some (gD t)≠v.ownBlock∧some (gG t)≠v.ownBlock∧gD t≠gG t) ∧
 (∀ s t,s<t→t<k→gD s≠gD t∧gD s≠gG t∧gG s≠gD t∧gG s≠gG t)∧Below W1.heap.size W1 w'
theorem int.TM {w w':World} (h:Below w.heap.size w w'):w.grownBy w' none:=⟨h.os,h.tape,h.output,h.size,fun k hk _=>h.block k hk⟩
theorem int.vB {w w':World} {base:Nat} {e:TypeId} {size:Nat} {v:Value} {n:Nat} {xs:List Value} (h:w.ownsRow base e size v n xs) (hb:Below w.heap.size w w'):w'.ownsRow base e size v n xs :=
 h.kept (TM hb) (by cases v.ownBlock<;>simp)
def yN (cE:Nat→Int→Int→Nat→Nat→Nat→Nat→List Value) (dK:Nat→Nat→Int→(Nat→Nat)→(Nat→Nat)→Nat→List Value) (xO:World→Nat→Nat→Int→Value→Nat→(Nat→Nat)→(Nat→Nat)→World→Prop) (n0 n1:Nat):Prop:=∀ {W1:World} {bS n:Nat} {most:Int} {v:Value} {k:Nat} {gD gG:Nat→Nat} {wr w2 w4:World} {a b g cap:Nat} (_h:xO W1 bS n most v k gD gG wr) (_hb:Below wr.heap.size wr w2) (_ha:wr.heap.size≤a) (_hb':wr.heap.size≤b) (_hab:a≠b) (_hra:Row w2 a 3 (zeros (.int .i64 0) (mW n))) (_hrb:Row w2 b 3 (zeros (.int .i64 0) (tw n))) (_aGL:w4.ownsRow (W1.heap.size+1) n0 n1 (.slice (some ⟨g,0,none⟩) (k+1) cap) (k+1) (dK bS n most gD gG k++cE bS (k:Int) most a (mW n) b (tw n))) (_hgr:(w2.alloc (.cells (cE bS (k:Int) most a (mW n) b (tw n)).toArray n0)).grownBy w4 v.ownBlock) (_hg:v.ownBlock=some g∨g=w2.heap.size+1),xO W1 bS n most (.slice (some ⟨g,0,none⟩) (k+1) cap) (k+1) (fun t=>if t=k then a else gD t) (fun t=>if t=k then b else gG t) (w4.setCell ⟨W1.heap.size,1,none⟩ (.slice (some ⟨g,0,none⟩) (k+1) cap))
open row in
theorem lM:yN int.cE int.dK int.xO 231 28∧yN list.cE list.dK list.xO 245 28∧yN tree.cE tree.dK tree.xO 273 28∧yN row.cE row.dK row.xO 259 30:=by
 refine ⟨@mkK _ 0 ?_,@mkK _ 1 ?_,@mkK _ 2 ?_,@mkK _ 3 ?_⟩<;>intro kk W1 bS n most v k gD gG wr w2 w4 a b g cap h hb ha hb' hab vv hrb hown dP hg
 all_goals
  obtain ⟨hE,hO,hT,hD,hB⟩:=h;have hz:=hb.size;have hzB:=hB.size;have hlE:=hE.lt;have hla:=vv.lt;have hlb:=hrb.lt;have sQ:=hO.lt;have keep:∀ {q:Nat} {t:TypeId} {xs:List Value},Row w2 q t xs→some q≠v.ownBlock→Row w4 q t xs:=fun {q t xs} hr hne =>
   (hr.alloc _).of_block (dP.block q (cH hr.lt (by simp)) hne)
  have hav:some a≠v.ownBlock:=fun e=>by have:=(sQ a e.symm).2;omega
  have hbv:some b≠v.ownBlock:=fun e=>by have:=(sQ b e.symm).2;omega
  have hEv:some W1.heap.size≠v.ownBlock:=fun e=>by have:=(sQ _ e.symm).1;omega
  have UC:∀ q,q<w2.heap.size→some q≠v.ownBlock→q≠g:=fun q hq hne e=>by
   subst e
   rcases hg with h|h
   ·exact hne h.symm
   ·omega
  refine ⟨?_,?_,?_,?_,?_⟩
  ·have:=(keep (hE.old hb) hEv).set 1 (.slice (some ⟨g,0,none⟩) (k+1) cap)
   simpa using this
  ·first|(have:=kA kk;rw [int.nU])|(have:=kB kk;rw [list.nU])|(have:=kC kk;rw [tree.nU])|(have:=kD kk;rw [row.nU])
   exact ownsRow_setCell_below hown (by simp) _
  ·intro t ht
   by_cases e:t=k
   ·subst e
    simp only [if_true];refine ⟨(keep vv hav).setOther (by simp;omega) _,(keep hrb hbv).setOther (by simp;omega) _,by omega,by omega,?_,?_,hab⟩
    ·simp only [Value.ownBlock,ne_eq,yD];exact UC a hla hav
    ·simp only [Value.ownBlock,ne_eq,yD];exact UC b hlb hbv
   ·simp only [aN e]
    obtain ⟨h1,h2,h3,h4,h5,h6,h7⟩:=hT t (by omega);refine ⟨(keep (h1.old hb) h5).setOther (by simp;omega) _,(keep (h2.old hb) h6).setOther (by simp;omega) _,h3,h4,?_,?_,h7⟩
    ·simp only [Value.ownBlock,ne_eq,yD];exact UC _ (h1.old hb).lt h5
    ·simp only [Value.ownBlock,ne_eq,yD];exact UC _ (h2.old hb).lt h6
  ·intro s t h1 h2
   by_cases e:t=k
   ·subst e
    obtain ⟨r1,r2,-⟩:=hT s h1;have l1:=r1.lt;have l2:=r2.lt;simp only [if_true,aN (show ¬s=t by omega)];omega
   ·simp only [aN e,aN (show ¬s=k by omega)]
    exact hD s t h1 (by omega)
  ·first|(have:=kA kk;have q1:Below W1.heap.size W1 (w2.alloc (.cells (int.cE bS (k:Int) most a (mW n) b (tw n)).toArray 231)):=cI (aS hB hb hzB) (by omega) _)|(have:=kB kk;have q1:Below W1.heap.size W1 (w2.alloc (.cells (list.cE bS (k:Int) most a (mW n) b (tw n)).toArray 245)):=cI (aS hB hb hzB) (by omega) _)|(have:=kC kk;have q1:Below W1.heap.size W1 (w2.alloc (.cells (tree.cE bS (k:Int) most a (mW n) b (tw n)).toArray 273)):=cI (aS hB hb hzB) (by omega) _)|(have:=kD kk;have q1:Below W1.heap.size W1 (w2.alloc (.cells (row.cE bS (k:Int) most a (mW n) b (tw n)).toArray 259)):=cI (aS hB hb hzB) (by omega) _)
   exact (q1.grown dP (by simp;omega) (fun q hq=>by have:=(sQ q hq).1;omega)).setCell (bQ _) _
theorem int.xO.next:yN int.cE int.dK int.xO 231 28:=lM.1
theorem list.xO.next:yN list.cE list.dK list.xO 245 28:=lM.2.1
theorem tree.xO.next:yN tree.cE tree.dK tree.xO 273 28:=lM.2.2.1
theorem row.xO.next:yN row.cE row.dK row.xO 259 30:=lM.2.2.2
def qP (eY:Nat→Nat→Nat→Nat→Nat→Nat→TypeId→Value→(Nat→Nat)→Nat→Nat→World→Prop):Prop:=∀ {base bS cS cQ bP n:Nat} {oT:TypeId} {ov:Value} {bW:Nat→Nat} {bB bE:Nat} {w w':World} (_h:eY base bS cS cQ bP n oT ov bW bB bE w) (_hb:Below w.heap.size w w'),eY base bS cS cQ bP n oT ov bW bB bE w'
open row in
theorem gN:qP int.eY∧qP list.eY∧qP tree.eY∧qP row.eY:=by
 refine ⟨?_,?_,?_,?_⟩<;>intro base bS cS cQ bP n oT ov bW bB bE w w' h hb
 all_goals
  obtain ⟨a1,a2,a3,a4,a5,a6,a7,a8,z⟩:=h;exact ⟨a1.old hb,a2.old hb,a3.old hb,a4.old hb,fun r hr=>⟨(a5 r hr).1.old hb,(a5 r hr).2⟩,a6,a7.old hb,a8.old hb,z⟩
theorem int.eY.later:qP int.eY:=gN.1
theorem list.eY.later:qP list.eY:=gN.2.1
theorem tree.eY.later:qP tree.eY:=gN.2.2.1
theorem row.eY.later:qP row.eY:=gN.2.2.2
def nQ (cE:Nat→Int→Int→Nat→Nat→Nat→Nat→List Value) (n0:Nat):Prop:=∀ (bS n:Nat) (i most:Int) (w:World) (_hc:w.cell? ⟨bS,0,none⟩=some (.int .i64 (n:Int))) (_h0:1≤n) (_h1:n≤64) (_h2:0≤i) (_h3:i≤64),Calls prog n0 #[.pointer (some ⟨bS,0,none⟩),.int .i64 i,.int .i64 most] w fun e w'=>∃ gD gG,e = .returned (.agg (cE bS i most gD (mW n) gG (tw n)).toArray)∧w.heap.size≤gD∧w.heap.size≤gG∧gD≠gG ∧
   Row w' gD 3 (zeros (.int .i64 0) (mW n))∧Row w' gG 3 (zeros (.int .i64 0) (tw n))∧Below w.heap.size w w'
open row in
theorem eV:nQ int.cE 134∧nQ list.cE 136∧nQ tree.cE 140∧nQ row.cE 138:=by
 refine ⟨@mkK _ 0 ?_,@mkK _ 1 ?_,@mkK _ 2 ?_,@mkK _ 3 ?_⟩<;>intro kk bS n i most w hc h0 h1 h2 h3
 all_goals
  first|(have:=kA kk;have h:=int.jK bS (n:Int) i most w hc (by omega) (by omega) h2 h3)|(have:=kB kk;have h:=list.jK bS (n:Int) i most w hc (by omega) (by omega) h2 h3)|(have:=kC kk;have h:=tree.jK bS (n:Int) i most w hc (by omega) (by omega) h2 h3)|(have:=kD kk;have h:=row.jK bS (n:Int) i most w hc (by omega) (by omega) h2 h3)
  rwa [show (((n:Int)+15) / 16+2*(n:Int)).toNat=mW n from by unfold mW;omega,show (((n:Int)+15) / 16).toNat=tw n from by unfold tw;omega] at h
theorem int.jL:nQ int.cE 134:=eV.1
theorem list.jL:nQ list.cE 136:=eV.2.1
theorem tree.jL:nQ tree.cE 140:=eV.2.2.1
theorem row.jL:nQ row.cE 138:=eV.2.2.2
theorem int.oq {w w4:World} {row:Option Nat} {E bS:Nat} {p q:Value} (hg:w.grownBy w4 row) (h:w.cell? ⟨E,0,none⟩=some p∧w.cell? ⟨bS,0,none⟩=some q∧w.there E 1 1) (hE:some E≠row) (hS:some bS≠row) :
  w4.cell? ⟨E,0,none⟩=some p∧w4.cell? ⟨bS,0,none⟩=some q∧w4.there E 1 1:=by
 refine ⟨hg.cell h.1 hE,hg.cell h.2.1 hS,fun j hj=>?_⟩;obtain ⟨h1,h2⟩:=h.2.2 j hj;have hlt:=mX w _ h.1;rw [hg.cell_far ⟨E,1+j,none⟩ hlt hE,hg.frozen_far ⟨E,1+j,none⟩ hlt hE];exact ⟨h1,h2⟩
theorem int.aFj {w:World} {E bS:Nat} {p q:Value} (h:w.cell? ⟨E,0,none⟩=some p∧w.cell? ⟨bS,0,none⟩=some q∧w.there E 1 1) (hlt:bS<E) (v:Value) :
  (w.setCell ⟨E,1,none⟩ v).cell? ⟨E,0,none⟩=some p∧(w.setCell ⟨E,1,none⟩ v).cell? ⟨bS,0,none⟩=some q∧(w.setCell ⟨E,1,none⟩ v).there E 1 1 :=
 ⟨(World.cell?_setCell_other w _ _ v (by simp)).trans h.1,(IY w _ _ v (by simp;omega)).trans h.2.1,bA h.2.2 _ rfl _⟩
def int.cJ (w:World) (n:Nat) (most:Int) (oT:TypeId) (ov:Value) (b:Nat) (w':World):Prop :=
 ∃ W1 bS cS cQ bP bW bB bE v gD gG,b=W1.heap.size∧eY w.heap.size bS cS cQ bP n oT ov bW bB bE W1∧Below w.heap.size w W1∧xO W1 bS n most v n gD gG w'
def list.cJ (w:World) (n:Nat) (most:Int) (oT:TypeId) (ov:Value) (b:Nat) (w':World):Prop :=
 ∃ W1 bS cS cQ bP bW bB bE v gD gG,b=W1.heap.size∧eY w.heap.size bS cS cQ bP n oT ov bW bB bE W1∧Below w.heap.size w W1∧xO W1 bS n most v n gD gG w'
def tree.cJ (w:World) (n:Nat) (most:Int) (oT:TypeId) (ov:Value) (b:Nat) (w':World):Prop :=
 ∃ W1 bS cS cQ bP bW bB bE v gD gG,b=W1.heap.size∧eY w.heap.size bS cS cQ bP n oT ov bW bB bE W1∧Below w.heap.size w W1∧xO W1 bS n most v n gD gG w'
def row.cJ (w:World) (n:Nat) (most:Int) (oT:TypeId) (ov:Value) (b:Nat) (w':World):Prop :=
 ∃ W1 bS cS cQ bP bW bB bE v gD gG,b=W1.heap.size∧eY w.heap.size bS cS cQ bP n oT ov bW bB bE W1∧Below w.heap.size w W1∧xO W1 bS n most v n gD gG w'
theorem int.mE:(prog.info? 231).map (fun i=>(i.zero.map (·.cells.size),i.size,i.bytes))=some (some 28,28,272):=by kernel_rfl
theorem list.mE:(prog.info? 245).map (fun i=>(i.zero.map (·.cells.size),i.size,i.bytes))=some (some 28,28,272):=by kernel_rfl
theorem tree.mE:(prog.info? 273).map (fun i=>(i.zero.map (·.cells.size),i.size,i.bytes))=some (some 28,28,272):=by kernel_rfl
theorem row.mE:(prog.info? 259).map (fun i=>(i.zero.map (·.cells.size),i.size,i.bytes))=some (some 30,30,288):=by kernel_rfl
def int.dN:Prop:=∀ (oT:TypeId) (ov:Value) (fF:Nat) (rv:Value) (_hm:∀ w,(method 553 oT ov "First").run prog w = .ok (fF,rv) w) (_LG:∀ w,(callFunc fF #[rv]).run prog w = .ok (.enter fF #[rv]) w) (_hF:∀ w,Calls prog fF #[rv] w fun e w'=>e = .returned (.int .i64 0)∧Below w.heap.size w w') (n:Nat) (most:Int) (w:World) (_bz:1≤n) (_cj:n≤64),Calls prog 104 #[.iface oT ov,.int .i64 (n:Int),.int .i64 most] w fun e w'=>∃ b,e = .returned (.pointer (some ⟨b,0,none⟩))∧cJ w n most oT ov b w'
def list.dN:Prop:=∀ (oT:TypeId) (ov:Value) (fF:Nat) (rv:Value) (_hm:∀ w,(method 553 oT ov "First").run prog w = .ok (fF,rv) w) (_LG:∀ w,(callFunc fF #[rv]).run prog w = .ok (.enter fF #[rv]) w) (_hF:∀ w,Calls prog fF #[rv] w fun e w'=>e = .returned (.pointer none)∧Below w.heap.size w w') (n:Nat) (most:Int) (w:World) (_bz:1≤n) (_cj:n≤64),Calls prog 105 #[.iface oT ov,.int .i64 (n:Int),.int .i64 most] w fun e w'=>∃ b,e = .returned (.pointer (some ⟨b,0,none⟩))∧cJ w n most oT ov b w'
def tree.dN:Prop:=∀ (oT:TypeId) (ov:Value) (fF:Nat) (rv:Value) (_hm:∀ w,(method 553 oT ov "First").run prog w = .ok (fF,rv) w) (_LG:∀ w,(callFunc fF #[rv]).run prog w = .ok (.enter fF #[rv]) w) (_hF:∀ w,Calls prog fF #[rv] w fun e w'=>e = .returned (.pointer none)∧Below w.heap.size w w') (n:Nat) (most:Int) (w:World) (_bz:1≤n) (_cj:n≤64),Calls prog 107 #[.iface oT ov,.int .i64 (n:Int),.int .i64 most] w fun e w'=>∃ b,e = .returned (.pointer (some ⟨b,0,none⟩))∧cJ w n most oT ov b w'
def row.dN:Prop:=∀ (oT:TypeId) (ov:Value) (fF:Nat) (rv:Value) (_hm:∀ w,(method 553 oT ov "First").run prog w = .ok (fF,rv) w) (_LG:∀ w,(callFunc fF #[rv]).run prog w = .ok (.enter fF #[rv]) w) (_hF:∀ w,Calls prog fF #[rv] w fun e w'=>e = .returned (.agg #[.pointer none,.pointer none])∧Below w.heap.size w w') (n:Nat) (most:Int) (w:World) (_bz:1≤n) (_cj:n≤64),Calls prog 106 #[.iface oT ov,.int .i64 (n:Int),.int .i64 most] w fun e w'=>∃ b,e = .returned (.pointer (some ⟨b,0,none⟩))∧cJ w n most oT ov b w'
open row in
theorem nM:int.dN∧list.dN∧tree.dN∧row.dN:=by
 refine ⟨@mkK _ 0 ?_,@mkK _ 1 ?_,@mkK _ 2 ?_,@mkK _ 3 ?_⟩<;>intro kk oT ov fF rv hm eP hF n most w _h0 _h1
 all_goals
  first|(have:=kA kk;have hsh:=int.jJ oT ov fF rv hm eP hF n w _h0 _h1)|(have:=kB kk;have hsh:=list.jJ oT ov fF rv hm eP hF n w _h0 _h1)|(have:=kC kk;have hsh:=tree.jJ oT ov fF rv hm eP hF n w _h0 _h1)|(have:=kD kk;have hsh:=row.jJ oT ov fF rv hm eP hF n w _h0 _h1)
  have HSH:=aA hsh;clear hsh hF hm eP
  first|(have:=kA kk;obtain ⟨ti,vM,uM⟩:=eZ.1 int.mE)|(have:=kB kk;obtain ⟨ti,vM,uM⟩:=eZ.1 list.mE)|(have:=kC kk;obtain ⟨ti,vM,uM⟩:=eZ.1 tree.mE)|(have:=kD kk;obtain ⟨ti,vM,uM⟩:=eZ.1 row.mE)
  simp only [fW] at uM;obtain ⟨jR,jS,jT⟩:=uM;obtain ⟨tz,aHP,aHQ⟩:=eZ.1 jR;have DH:=aA vM;have HTZ:=aA aHP;have AH:=aA jS;have vN:=aA jT;have HT4:=aA aHQ;clear vM jR jS jT aHP aHQ
  first|(have:=kA kk;go_enter func104,ntmps104)|(have:=kB kk;go_enter func105,ntmps105)|(have:=kC kk;go_enter func107,ntmps107)|(have:=kD kk;go_enter func106,ntmps106)
  go_wp2_with fail;refine HSH.out.mono ?_;rintro e W1 ⟨bS,cS,cQ,bP,bW,bB,bE,rfl,aG7,aHg⟩;have HSN:=aA aG7;have HBW:=aA aHg;clear aG7 aHg;go_wp2_with fail
  first
   |have:=kA kk
    have hE0:int.xO W1 bS n most (.slice none 0 0) 0 (fun _=>0) (fun _=>0) (W1.alloc (.cells [.pointer (some ⟨bS,0,none⟩),.slice none 0 0,.int .i64 most].toArray 219)) :=
     ⟨aV rfl,jZ _ _ _ _,fun t ht=>absurd ht (by omega),fun s t _ h=>absurd h (by omega),aB _ _⟩
   |have:=kB kk
    have hE0:list.xO W1 bS n most (.slice none 0 0) 0 (fun _=>0) (fun _=>0) (W1.alloc (.cells [.pointer (some ⟨bS,0,none⟩),.slice none 0 0,.int .i64 most].toArray 237)) :=
     ⟨aV rfl,jZ _ _ _ _,fun t ht=>absurd ht (by omega),fun s t _ h=>absurd h (by omega),aB _ _⟩
   |have:=kC kk
    have hE0:tree.xO W1 bS n most (.slice none 0 0) 0 (fun _=>0) (fun _=>0) (W1.alloc (.cells [.pointer (some ⟨bS,0,none⟩),.slice none 0 0,.int .i64 most].toArray 265)) :=
     ⟨aV rfl,jZ _ _ _ _,fun t ht=>absurd ht (by omega),fun s t _ h=>absurd h (by omega),aB _ _⟩
   |have:=kD kk
    have hE0:row.xO W1 bS n most (.slice none 0 0) 0 (fun _=>0) (fun _=>0) (W1.alloc (.cells [.pointer (some ⟨bS,0,none⟩),.slice none 0 0,.int .i64 most].toArray 251)) :=
     ⟨aV rfl,jZ _ _ _ _,fun t ht=>absurd ht (by omega),fun s t _ h=>absurd h (by omega),aB _ _⟩
  first|(have:=kA kk;go_loopw [16] (fun i w'=>∃ k v gD gG,k≤n∧i = .int .i64 (k:Int)∧int.xO W1 bS n most v k gD gG w') (fun i _=>n-(intOf i).toNat))|(have:=kB kk;go_loopw [16] (fun i w'=>∃ k v gD gG,k≤n∧i = .int .i64 (k:Int)∧list.xO W1 bS n most v k gD gG w') (fun i _=>n-(intOf i).toNat))|(have:=kC kk;go_loopw [16] (fun i w'=>∃ k v gD gG,k≤n∧i = .int .i64 (k:Int)∧tree.xO W1 bS n most v k gD gG w') (fun i _=>n-(intOf i).toNat))|(have:=kD kk;go_loopw [16] (fun i w'=>∃ k v gD gG,k≤n∧i = .int .i64 (k:Int)∧row.xO W1 bS n most v k gD gG w') (fun i _=>n-(intOf i).toNat))
  case atStart=>exact ⟨0,_,_,_,aW _,rfl,hE0⟩
  case round =>
   obtain ⟨k,v,gD,gG,hk,rfl,hI⟩:=hrel
   by_cases hlt:k<n
   ·have hlt':(k:Int)<(n:Int):=by omega
    have hcv:wr.cell? ⟨W1.heap.size,1,none⟩=some v:=hI.1.cell_of rfl;have hcs:wr.cell? ⟨W1.heap.size,0,none⟩=some (.pointer (some ⟨bS,0,none⟩)):=hI.1.cell_of rfl;have oh:wr.cell? ⟨bS,0,none⟩=some (.int .i64 (n:Int)):=(HSN.out.later hI.2.2.2.2).1.cell_of rfl;have FC:wr.there W1.heap.size 1 1:=hI.1.there (by simp);have WV:bS<W1.heap.size:=HSN.out.1.lt;have sQ:=hI.2.1.lt
    first|(have:=kA kk;have hsz:(prog.info? 217).map (·.size)=some 1:=by kernel_rfl)|(have:=kB kk;have hsz:(prog.info? 235).map (·.size)=some 1:=by kernel_rfl)|(have:=kC kk;have hsz:(prog.info? 263).map (·.size)=some 1:=by kernel_rfl)|(have:=kD kk;have hsz:(prog.info? 249).map (·.size)=some 1:=by kernel_rfl)
    have HI:=aA hI;have zk:=aA hcv;have YG:some W1.heap.size≠v.ownBlock:=fun e=>by have:=(sQ _ e.symm).1;omega
    have YH:some bS≠v.ownBlock:=fun e=>by have:=(sQ _ e.symm).1;omega
    clear hI hcv sQ;go_wp2;refine fH (S:=(fun w'=>w'.cell? ⟨W1.heap.size,0,none⟩=some (.pointer (some ⟨bS,0,none⟩))∧w'.cell? ⟨bS,0,none⟩=some (.int .i64 (n:Int))∧w'.there W1.heap.size 1 1)) 17 rfl (by kernel_rfl) ?_ (fun hHeld=>?_)
    ·exact ⟨hcs,oh,FC⟩
    repeat' first
     |(
      (first|refine ZY [4,11,12,13,16] 16 (by rfl) (by decide +kernel) ?_|refine ZY [4,11,12,13,16] 17 (by rfl) (by decide +kernel) ?_)
      refine ⟨_,by exact fun _ _ _ h=>h,.inl ⟨by rfl,fun w hS=>by (try dsimp only at hS);go_simp;(try with_reducible rfl)⟩,by assumption,?_⟩
      (try go_frame)
      )
     |(
      (first|refine pF 11 (by rfl) (by decide +kernel) (fun K hK PY=>?_)|refine pF 12 (by rfl) (by decide +kernel) (fun K hK PY=>?_)|refine pF 13 (by rfl) (by decide +kernel) (fun K hK PY=>?_)|refine pF 16 (by rfl) (by decide +kernel) (fun K hK PY=>?_)|refine pF 4 (by rfl) (by decide +kernel) (fun K hK PY=>?_)|refine fC (rs:=[4,11]) (by decide +kernel) (by simp) (JF (by rfl) (fun K hK PY=>?_) (JF (by rfl) (fun K hK PY=>?_) AllReadyH.nil))|refine fC (rs:=[4,12]) (by decide +kernel) (by simp) (JF (by rfl) (fun K hK PY=>?_) (JF (by rfl) (fun K hK PY=>?_) AllReadyH.nil)))
      all_goals first
       |(
        have _:On 4:=PY;rw [aJ (by rfl)];refine jG _ _ rfl _ _ v rfl (by kernel_rfl) (by first|exact zk.out|exact aI bI zk.out|exact aI (aB _ _) (aI bI zk.out)) ?_;refine hK.out _ _ ?_ (fun hHeld=>?_)
        ·exact hHeld
        clear hK K PY
        (try go_frame)
        )
       |(
        have _:On 11:=PY;go_simp
        first|(have:=kA kk;refine (int.jL bS n (k:Int) most _ hHeld.2.1 _h0 _h1 (by omega) (by omega)).mono ?_)|(have:=kB kk;refine (list.jL bS n (k:Int) most _ hHeld.2.1 _h0 _h1 (by omega) (by omega)).mono ?_)|(have:=kC kk;refine (tree.jL bS n (k:Int) most _ hHeld.2.1 _h0 _h1 (by omega) (by omega)).mono ?_)|(have:=kD kk;refine (row.jL bS n (k:Int) most _ hHeld.2.1 _h0 _h1 (by omega) (by omega)).mono ?_)
        rintro e w2 ⟨a,b,rfl,ha,hb,hab,vv,hrb,bI⟩;go_wp2_with fail;refine hK.out _ _ ?_ (fun hHeld=>?_)
        ·exact ⟨aI bI hHeld.1,aI bI hHeld.2.1,aU bI hHeld.2.2⟩
        clear hK K PY
        (try go_frame)
        )
       |(
        have _:On 12:=PY;rw [aJ (by rfl)]
        first|(have:=kA kk;refine DE (v:=.slice (some ⟨w2.heap.size,0,none⟩) 1 1) (w':=w2.alloc (.cells (int.cE bS (k:Int) most a (mW n) b (tw n)).toArray 231)) (by kernel_rfl) ?_)|(have:=kB kk;refine DE (v:=.slice (some ⟨w2.heap.size,0,none⟩) 1 1) (w':=w2.alloc (.cells (list.cE bS (k:Int) most a (mW n) b (tw n)).toArray 245)) (by kernel_rfl) ?_)|(have:=kC kk;refine DE (v:=.slice (some ⟨w2.heap.size,0,none⟩) 1 1) (w':=w2.alloc (.cells (tree.cE bS (k:Int) most a (mW n) b (tw n)).toArray 273)) (by kernel_rfl) ?_)|(have:=kD kk;refine DE (v:=.slice (some ⟨w2.heap.size,0,none⟩) 1 1) (w':=w2.alloc (.cells (row.cE bS (k:Int) most a (mW n) b (tw n)).toArray 259)) (by kernel_rfl) ?_)
        refine hK.out _ _ ?_ (fun hHeld=>?_)
        ·exact ⟨aI (aB _ _) hHeld.1,aI (aB _ _) hHeld.2.1,BJ hHeld.2.2 _⟩
        clear hK K PY
        (try go_frame)
        )
       |(
        have _:On 13:=PY
        first|(have:=kA kk;refine yE _ rfl (.tmp 23) (.tmp 31) 217 rfl (W1.heap.size+1) 231 ti tz 28 272 underlying217 DH.out HTZ.out AH.out vN.out HT4.out (by decide) v k (int.dK bS n most gD gG k) rfl ?_ ⟨w2.heap.size,0,none⟩ 1 1 (int.cE bS (k:Int) most a (mW n) b (tw n)) rfl rfl ?_ (int.qF _ _ _ _ _ _ _) (by decide) (by unfold maxLen;omega) (by omega) ?_ (w2.heap.size+1) (by simp) ?_)|(have:=kB kk;refine yE _ rfl (.tmp 23) (.tmp 31) 235 rfl (W1.heap.size+1) 245 ti tz 28 272 underlying235 DH.out HTZ.out AH.out vN.out HT4.out (by decide) v k (list.dK bS n most gD gG k) rfl ?_ ⟨w2.heap.size,0,none⟩ 1 1 (list.cE bS (k:Int) most a (mW n) b (tw n)) rfl rfl ?_ (list.qF _ _ _ _ _ _ _) (by decide) (by unfold maxLen;omega) (by omega) ?_ (w2.heap.size+1) (by simp) ?_)|(have:=kC kk;refine yE _ rfl (.tmp 23) (.tmp 31) 263 rfl (W1.heap.size+1) 273 ti tz 28 272 underlying263 DH.out HTZ.out AH.out vN.out HT4.out (by decide) v k (tree.dK bS n most gD gG k) rfl ?_ ⟨w2.heap.size,0,none⟩ 1 1 (tree.cE bS (k:Int) most a (mW n) b (tw n)) rfl rfl ?_ (tree.qF _ _ _ _ _ _ _) (by decide) (by unfold maxLen;omega) (by omega) ?_ (w2.heap.size+1) (by simp) ?_)|(have:=kD kk;refine yE _ rfl (.tmp 23) (.tmp 31) 249 rfl (W1.heap.size+1) 259 ti tz 30 288 underlying249 DH.out HTZ.out AH.out vN.out HT4.out (by decide) v k (row.dK bS n most gD gG k) rfl ?_ ⟨w2.heap.size,0,none⟩ 1 1 (row.cE bS (k:Int) most a (mW n) b (tw n)) rfl rfl ?_ (row.qF _ _ _ _ _ _ _) (by decide) (by unfold maxLen;omega) (by omega) ?_ (w2.heap.size+1) (by simp) ?_)
        ·exact (vB HI.out.2.1 (Below.dJ bI)).alloc _
        ·exact jH (dH w2 _ _)
        ·have:=(Below.dJ bI).size;have:=HI.out.1.lt;simp;omega
        intro g cap w4 hown dP hat oQ;have HO:=aA hown;have HG:=aA dP;have HA:=aA hat;clear hown dP hat;refine hK.out _ _ ?_ (fun hHeld=>?_)
        ·exact oq HG.out hHeld YG YH
        clear hK K PY
        (try go_frame)
        )
       |(
        rw [aJ (by rfl)];refine aY _ _ _ rfl W1.heap.size 1 _ rfl rfl rfl rfl hHeld.2.2 hsz ?_;refine hK.out _ _ ?_ (fun hHeld=>?_)
        ·exact aFj hHeld WV _
        clear hK K PY
        (try go_frame)
        )
      )
     |(
      refine cC (by decide +kernel) ?_ _
      (try go_wp2_with fail)
      go_roundw
      first|(have:=kA kk;case rel=>exact ⟨k+1,_,_,_,by omega,by go_num,int.xO.next HI.out (Below.dJ bI) ha hb hab vv hrb HO.out HG.out HA.out⟩)|(have:=kB kk;case rel=>exact ⟨k+1,_,_,_,by omega,by go_num,list.xO.next HI.out (Below.dJ bI) ha hb hab vv hrb HO.out HG.out HA.out⟩)|(have:=kC kk;case rel=>exact ⟨k+1,_,_,_,by omega,by go_num,tree.xO.next HI.out (Below.dJ bI) ha hb hab vv hrb HO.out HG.out HA.out⟩)|(have:=kD kk;case rel=>exact ⟨k+1,_,_,_,by omega,by go_num,row.xO.next HI.out (Below.dJ bI) ha hb hab vv hrb HO.out HG.out HA.out⟩)
      case measure=>simp [intOf];omega
      )
   ·have hke:k=n:=by omega
    subst hke;have HI:=aA hI;clear hI;have hlt':¬(k:Int)<(k:Int):=by omega
    go_wp2;go_ret;exact ⟨W1.heap.size,rfl,W1,bS,cS,cQ,bP,bW,bB,bE,v,gD,gG,rfl,HSN.out,HBW.out,HI.out⟩
theorem int.jI:dN:=nM.1
theorem list.jI:dN:=nM.2.1
theorem tree.jI:dN:=nM.2.2.1
theorem row.jI:dN:=nM.2.2.2
end Go.Proofs.YtefjhnhdagolhaaGreat
namespace Go.Proofs.YtefjhnhdagolhaaGreat
open Tryz
open int list tree
open Go.RowKit
def vW (xO:World→Nat→Nat→Int→Value→Nat→(Nat→Nat)→(Nat→Nat)→World→Prop):Prop:=∀ {W1:World} {bS n:Nat} {most:Int} {v:Value} {k:Nat} {gD gG:Nat→Nat} {w w':World} (_h:xO W1 bS n most v k gD gG w) (_hb:Below w.heap.size w w'),xO W1 bS n most v k gD gG w'
open row in
theorem kH:vW int.xO∧vW list.xO∧vW tree.xO∧vW row.xO:=by
 refine ⟨?_,?_,?_,?_⟩<;>intro W1 bS n most v k gD gG w w' h hb
 all_goals
  obtain ⟨hE,hO,hT,hD,hB⟩:=h;exact ⟨hE.old hb,vB hO hb,fun t ht=>⟨(hT t ht).1.old hb,(hT t ht).2.1.old hb,(hT t ht).2.2⟩,hD,aS hB hb hB.size⟩
theorem int.xO.later:vW int.xO:=kH.1
theorem list.xO.later:vW list.xO:=kH.2.1
theorem tree.xO.later:vW tree.xO:=kH.2.2.1
theorem row.xO.later:vW row.xO:=kH.2.2.2
def oX (cJ:World→Nat→Int→TypeId→Value→Nat→World→Prop):Prop:=∀ {w0:World} {n:Nat} {most:Int} {oT:TypeId} {ov:Value} {b:Nat} {w w':World} (_h:cJ w0 n most oT ov b w) (_hb:Below w.heap.size w w'),cJ w0 n most oT ov b w'
open row in
theorem fJ:oX int.cJ∧oX list.cJ∧oX tree.cJ∧oX row.cJ:=by
 refine ⟨?_,?_,?_,?_⟩<;>intro w0 n most oT ov b w w' h hb
 all_goals
  obtain ⟨W1,bS,cS,cQ,bP,bW,bB,bE,v,gD,gG,h1,h2,h3,h4⟩:=h;exact ⟨W1,bS,cS,cQ,bP,bW,bB,bE,v,gD,gG,h1,h2,h3,h4.later hb⟩
theorem int.cJ.later:oX int.cJ:=fJ.1
theorem list.cJ.later:oX list.cJ:=fJ.2.1
theorem tree.cJ.later:oX tree.cJ:=fJ.2.2.1
theorem row.cJ.later:oX row.cJ:=fJ.2.2.2
def qL (cJ:World→Nat→Int→TypeId→Value→Nat→World→Prop):Prop:=∀ {w0 w1:World} {n:Nat} {most:Int} {oT:TypeId} {ov:Value} {b:Nat} {w:World} (_h:cJ w1 n most oT ov b w) (_hb:Below w0.heap.size w0 w1),cJ w0 n most oT ov b w
open row in
theorem gK:qL int.cJ∧qL list.cJ∧qL tree.cJ∧qL row.cJ:=by
 refine ⟨?_,?_,?_,?_⟩<;>intro w0 w1 n most oT ov b w h hb
 all_goals
  obtain ⟨W1,bS,cS,cQ,bP,bW,bB,bE,v,gD,gG,h1,h2,h3,h4⟩:=h;exact ⟨W1,bS,cS,cQ,bP,bW,bB,bE,v,gD,gG,h1,h2.base hb.size,aS hb h3 hb.size,h4⟩
theorem int.cJ.from:qL int.cJ:=gK.1
theorem list.cJ.from:qL list.cJ:=gK.2.1
theorem tree.cJ.from:qL tree.cJ:=gK.2.2.1
theorem row.cJ.from:qL row.cJ:=gK.2.2.2
def oW (cJ:World→Nat→Int→TypeId→Value→Nat→World→Prop):Prop:=∀ {w0:World} {n:Nat} {most:Int} {oT:TypeId} {ov:Value} {b:Nat} {w:World} (_h:cJ w0 n most oT ov b w),Below w0.heap.size w0 w∧b<w.heap.size
open row in
theorem fI:oW int.cJ∧oW list.cJ∧oW tree.cJ∧oW row.cJ:=by
 refine ⟨?_,?_,?_,?_⟩<;>intro w0 n most oT ov b w h
 all_goals
  obtain ⟨W1,bS,cS,cQ,bP,bW,bB,bE,v,gD,gG,h1,h2,h3,h4⟩:=h;exact ⟨aS h3 h4.2.2.2.2 h3.size,h1▸h4.1.lt⟩
theorem int.cJ.below:oW int.cJ:=fI.1
theorem list.cJ.below:oW list.cJ:=fI.2.1
theorem tree.cJ.below:oW tree.cJ:=fI.2.2.1
theorem row.cJ.below:oW row.cJ:=fI.2.2.2
def int.dL (w:World) (n:Nat) (most:Int) (oT:TypeId) (ov:Value) (b:Nat) (w':World):Prop :=
 ∃ bN,Row w' b 74 [.iface 183 (.pointer (some ⟨bN,0,none⟩))]∧cJ w n most oT ov bN w'∧w.heap.size≤b
def list.dL (w:World) (n:Nat) (most:Int) (oT:TypeId) (ov:Value) (b:Nat) (w':World):Prop :=
 ∃ bN,Row w' b 74 [.iface 187 (.pointer (some ⟨bN,0,none⟩))]∧cJ w n most oT ov bN w'∧w.heap.size≤b
def tree.dL (w:World) (n:Nat) (most:Int) (oT:TypeId) (ov:Value) (b:Nat) (w':World):Prop :=
 ∃ bN,Row w' b 74 [.iface 195 (.pointer (some ⟨bN,0,none⟩))]∧cJ w n most oT ov bN w'∧w.heap.size≤b
def row.dL (w:World) (n:Nat) (most:Int) (oT:TypeId) (ov:Value) (b:Nat) (w':World):Prop :=
 ∃ bN,Row w' b 74 [.iface 191 (.pointer (some ⟨bN,0,none⟩))]∧cJ w n most oT ov bN w'∧w.heap.size≤b
def int.dY:Prop:=∀ (oT:TypeId) (ov:Value) (fF:Nat) (rv:Value) (_hm:∀ w,(method 553 oT ov "First").run prog w = .ok (fF,rv) w) (_LG:∀ w,(callFunc fF #[rv]).run prog w = .ok (.enter fF #[rv]) w) (_hF:∀ w,Calls prog fF #[rv] w fun e w'=>e = .returned (.int .i64 0)∧Below w.heap.size w w') (kind:Int) (n:Nat) (cap st co:Int) (vn vo:Value) (w:World) (_h0:1≤n) (_h1:n≤64),Calls prog 77 #[.iface oT ov,.agg #[.int .i64 kind,.int .i64 (n:Int),.int .i64 cap,.int .i64 st,.int .i64 co,vn,vo]] w fun e w'=>∃ b,e = .returned (.pointer (some ⟨b,0,none⟩))∧dL w n cap oT ov b w'
def list.dY:Prop:=∀ (oT:TypeId) (ov:Value) (fF:Nat) (rv:Value) (_hm:∀ w,(method 553 oT ov "First").run prog w = .ok (fF,rv) w) (_LG:∀ w,(callFunc fF #[rv]).run prog w = .ok (.enter fF #[rv]) w) (_hF:∀ w,Calls prog fF #[rv] w fun e w'=>e = .returned (.pointer none)∧Below w.heap.size w w') (kind:Int) (n:Nat) (cap st co:Int) (vn vo:Value) (w:World) (_h0:1≤n) (_h1:n≤64),Calls prog 78 #[.iface oT ov,.agg #[.int .i64 kind,.int .i64 (n:Int),.int .i64 cap,.int .i64 st,.int .i64 co,vn,vo]] w fun e w'=>∃ b,e = .returned (.pointer (some ⟨b,0,none⟩))∧dL w n cap oT ov b w'
def tree.dY:Prop:=∀ (oT:TypeId) (ov:Value) (fF:Nat) (rv:Value) (_hm:∀ w,(method 553 oT ov "First").run prog w = .ok (fF,rv) w) (_LG:∀ w,(callFunc fF #[rv]).run prog w = .ok (.enter fF #[rv]) w) (_hF:∀ w,Calls prog fF #[rv] w fun e w'=>e = .returned (.pointer none)∧Below w.heap.size w w') (kind:Int) (n:Nat) (cap st co:Int) (vn vo:Value) (w:World) (_h0:1≤n) (_h1:n≤64),Calls prog 80 #[.iface oT ov,.agg #[.int .i64 kind,.int .i64 (n:Int),.int .i64 cap,.int .i64 st,.int .i64 co,vn,vo]] w fun e w'=>∃ b,e = .returned (.pointer (some ⟨b,0,none⟩))∧dL w n cap oT ov b w'
def row.dY:Prop:=∀ (oT:TypeId) (ov:Value) (fF:Nat) (rv:Value) (_hm:∀ w,(method 553 oT ov "First").run prog w = .ok (fF,rv) w) (_LG:∀ w,(callFunc fF #[rv]).run prog w = .ok (.enter fF #[rv]) w) (_hF:∀ w,Calls prog fF #[rv] w fun e w'=>e = .returned (.agg #[.pointer none,.pointer none])∧Below w.heap.size w w') (kind:Int) (n:Nat) (cap st co:Int) (vn vo:Value) (w:World) (_h0:1≤n) (_h1:n≤64),Calls prog 79 #[.iface oT ov,.agg #[.int .i64 kind,.int .i64 (n:Int),.int .i64 cap,.int .i64 st,.int .i64 co,vn,vo]] w fun e w'=>∃ b,e = .returned (.pointer (some ⟨b,0,none⟩))∧dL w n cap oT ov b w'
open row in
theorem pH:int.dY∧list.dY∧tree.dY∧row.dY:=by
 refine ⟨@mkK _ 0 ?_,@mkK _ 1 ?_,@mkK _ 2 ?_,@mkK _ 3 ?_⟩<;>intro kk oT ov fF rv hm eP hF kind n cap st co vn vo w h0 h1
 all_goals
  first|(have:=kA kk;have hen:=fun W=>int.jI oT ov fF rv hm eP hF n cap W h0 h1)|(have:=kB kk;have hen:=fun W=>list.jI oT ov fF rv hm eP hF n cap W h0 h1)|(have:=kC kk;have hen:=fun W=>tree.jI oT ov fF rv hm eP hF n cap W h0 h1)|(have:=kD kk;have hen:=fun W=>row.jI oT ov fF rv hm eP hF n cap W h0 h1)
  have HEN:=aA hen;clear hen hm eP hF
  first|(have:=kA kk;go_enter func77,ntmps77)|(have:=kB kk;go_enter func78,ntmps78)|(have:=kC kk;go_enter func80,ntmps80)|(have:=kD kk;go_enter func79,ntmps79)
  go_wp2_with fail;refine (HEN.out _).mono ?_;rintro e w1 ⟨b,rfl,hE⟩;have HE:=aA hE;clear hE;go_wp2_with fail;go_ret;refine ⟨w1.heap.size,rfl,b,?_,?_,?_⟩
  ·exact aV rfl
  ·exact (HE.out.later (aB _ _)).from (aB _ _)
  ·exact bK (by simp) HE.out.below.1.size
theorem int.jC:dY:=pH.1
theorem list.jC:dY:=pH.2.1
theorem tree.jC:dY:=pH.2.2.1
theorem row.jC:dY:=pH.2.2.2
end Go.Proofs.YtefjhnhdagolhaaGreat
