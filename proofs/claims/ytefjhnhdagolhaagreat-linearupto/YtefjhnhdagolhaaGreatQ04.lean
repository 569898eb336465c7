import Derived.Test.YtefjhnhdagolhaaGreatQ02
import Derived.Test.YtefjhnhdagolhaaGreatQ03
set_option maxHeartbeats 16000000
set_option maxRecDepth 20000
namespace Go.Proofs.YtefjhnhdagolhaaGreat
open int list tree
open Go.RowKit
attribute [local go_sem ↓] Go.wp_at_zero Go.wp_at_succ
theorem int.EZ:(Tryz.prog.info? 387).map (fun i=>(i.zero,i.size,i.bytes))=some (some (.agg #[.int .i64 0]),1,8):=by kernel_rfl
theorem int.KG:(Tryz.prog.info? 388).map (fun i=>(i.zero,i.size,i.bytes))=some (some (.agg #[.int .i64 0,.int .i64 0,.int .i64 0]),3,24):=by kernel_rfl
theorem int.jF:(Tryz.prog.info? 304).map (fun i=>(i.zero,i.size,i.bytes))=some (some (.agg #[.slice none 0 0,.pointer none]),2,32):=by kernel_rfl
theorem list.jF:(Tryz.prog.info? 318).map (fun i=>(i.zero,i.size,i.bytes))=some (some (.agg #[.slice none 0 0,.pointer none]),2,32):=by kernel_rfl
theorem tree.jF:(Tryz.prog.info? 344).map (fun i=>(i.zero,i.size,i.bytes))=some (some (.agg #[.slice none 0 0,.pointer none]),2,32):=by kernel_rfl
theorem row.jF:(Tryz.prog.info? 331).map (fun i=>(i.zero,i.size,i.bytes))=some (some (.agg #[.slice none 0 0,.pointer none]),2,32):=by kernel_rfl
def int.tw (n:Nat):Nat:=(n+15) / 16
def int.eC (n:Nat):Nat:=(n+15) / 16+2*n
def int.mA (W0:World) (bS aY aX bP n:Nat) (oT:TypeId) (ov:Value) (k:Nat) (bW:Nat→Nat) (w':World):Prop :=
 Row w' bS 296 [.int .i64 (n:Int),.iface oT ov,.slice (some ⟨aY,0,none⟩) (tw n) (tw n),.slice (some ⟨aX,0,none⟩) n n,.slice (some ⟨bP,0,none⟩) (2*n+1) (2*n+1),.int .i64 0] ∧
 Row w' aY 387 (zeros (.int .i64 0) (tw n))∧Row w' aX 388 (zeros (.int .i64 0) (n*3))∧Row w' bP 304 (eY (2*n+1) (eC n) k bW) ∧
 (∀ r,r<k→Row w' (bW r) 387 (zeros (.int .i64 0) (eC n))∧bS<bW r)∧(∀ r s,r<s→s<k→bW r<bW s)∧Below W0.heap.size W0 w'
def list.mA (W0:World) (bS aY aX bP n:Nat) (oT:TypeId) (ov:Value) (k:Nat) (bW:Nat→Nat) (w':World):Prop :=
 Row w' bS 310 [.int .i64 (n:Int),.iface oT ov,.slice (some ⟨aY,0,none⟩) (tw n) (tw n),.slice (some ⟨aX,0,none⟩) n n,.slice (some ⟨bP,0,none⟩) (2*n+1) (2*n+1),.int .i64 0] ∧
 Row w' aY 387 (zeros (.int .i64 0) (tw n))∧Row w' aX 388 (zeros (.int .i64 0) (n*3))∧Row w' bP 318 (eY (2*n+1) (eC n) k bW) ∧
 (∀ r,r<k→Row w' (bW r) 387 (zeros (.int .i64 0) (eC n))∧bS<bW r)∧(∀ r s,r<s→s<k→bW r<bW s)∧Below W0.heap.size W0 w'
def tree.mA (W0:World) (bS aY aX bP n:Nat) (oT:TypeId) (ov:Value) (k:Nat) (bW:Nat→Nat) (w':World):Prop :=
 Row w' bS 336 [.int .i64 (n:Int),.iface oT ov,.slice (some ⟨aY,0,none⟩) (tw n) (tw n),.slice (some ⟨aX,0,none⟩) n n,.slice (some ⟨bP,0,none⟩) (2*n+1) (2*n+1),.int .i64 0] ∧
 Row w' aY 387 (zeros (.int .i64 0) (tw n))∧Row w' aX 388 (zeros (.int .i64 0) (n*3))∧Row w' bP 344 (eY (2*n+1) (eC n) k bW) ∧
 (∀ r,r<k→Row w' (bW r) 387 (zeros (.int .i64 0) (eC n))∧bS<bW r)∧(∀ r s,r<s→s<k→bW r<bW s)∧Below W0.heap.size W0 w'
def row.mA (W0:World) (bS aY aX bP n:Nat) (oT:TypeId) (ov:Value) (k:Nat) (bW:Nat→Nat) (w':World):Prop :=
 Row w' bS 323 [.int .i64 (n:Int),.iface oT ov,.slice (some ⟨aY,0,none⟩) (tw n) (tw n),.slice (some ⟨aX,0,none⟩) n n,.slice (some ⟨bP,0,none⟩) (2*n+1) (2*n+1),.int .i64 0] ∧
 Row w' aY 387 (zeros (.int .i64 0) (tw n))∧Row w' aX 388 (zeros (.int .i64 0) (n*3))∧Row w' bP 331 (eY (2*n+1) (eC n) k bW) ∧
 (∀ r,r<k→Row w' (bW r) 387 (zeros (.int .i64 0) (eC n))∧bS<bW r)∧(∀ r s,r<s→s<k→bW r<bW s)∧Below W0.heap.size W0 w'
def int.mA.cS:Prop:=∀ {W0:World} {bS aY aX bP n:Nat} {oT:TypeId} {ov:Value} {k:Nat} {bW:Nat→Nat} {w' w3:World} (_h:mA W0 bS aY aX bP n oT ov k bW w') (_hb:Below w'.heap.size w' w3) (_z3:W0.heap.size≤bP) (_z5:aY≠bP) (_z6:aX≠bP) (_z9:bP<bS),mA W0 bS aY aX bP n oT ov (k+1) (fun r=>if r=k then w3.heap.size else bW r) ((w3.alloc (.cells (zeros (.int .i64 0) (eC n)).toArray 387)).setCell ⟨bP,2*k,none⟩ (.slice (some ⟨w3.heap.size,0,none⟩) (eC n) (eC n)))
def list.mA.cS:Prop:=∀ {W0:World} {bS aY aX bP n:Nat} {oT:TypeId} {ov:Value} {k:Nat} {bW:Nat→Nat} {w' w3:World} (_h:mA W0 bS aY aX bP n oT ov k bW w') (_hb:Below w'.heap.size w' w3) (_z3:W0.heap.size≤bP) (_z5:aY≠bP) (_z6:aX≠bP) (_z9:bP<bS),mA W0 bS aY aX bP n oT ov (k+1) (fun r=>if r=k then w3.heap.size else bW r) ((w3.alloc (.cells (zeros (.int .i64 0) (eC n)).toArray 387)).setCell ⟨bP,2*k,none⟩ (.slice (some ⟨w3.heap.size,0,none⟩) (eC n) (eC n)))
def tree.mA.cS:Prop:=∀ {W0:World} {bS aY aX bP n:Nat} {oT:TypeId} {ov:Value} {k:Nat} {bW:Nat→Nat} {w' w3:World} (_h:mA W0 bS aY aX bP n oT ov k bW w') (_hb:Below w'.heap.size w' w3) (_z3:W0.heap.size≤bP) (_z5:aY≠bP) (_z6:aX≠bP) (_z9:bP<bS),mA W0 bS aY aX bP n oT ov (k+1) (fun r=>if r=k then w3.heap.size else bW r) ((w3.alloc (.cells (zeros (.int .i64 0) (eC n)).toArray 387)).setCell ⟨bP,2*k,none⟩ (.slice (some ⟨w3.heap.size,0,none⟩) (eC n) (eC n)))
def row.mA.cS:Prop:=∀ {W0:World} {bS aY aX bP n:Nat} {oT:TypeId} {ov:Value} {k:Nat} {bW:Nat→Nat} {w' w3:World} (_h:mA W0 bS aY aX bP n oT ov k bW w') (_hb:Below w'.heap.size w' w3) (_z3:W0.heap.size≤bP) (_z5:aY≠bP) (_z6:aX≠bP) (_z9:bP<bS),mA W0 bS aY aX bP n oT ov (k+1) (fun r=>if r=k then w3.heap.size else bW r) ((w3.alloc (.cells (zeros (.int .i64 0) (eC n)).toArray 387)).setCell ⟨bP,2*k,none⟩ (.slice (some ⟨w3.heap.size,0,none⟩) (eC n) (eC n)))
open row in
theorem sC:int.mA.cS∧list.mA.cS∧tree.mA.cS∧row.mA.cS:=by
 refine ⟨?_,?_,?_,?_⟩<;>intro W0 bS aY aX bP n oT ov k bW w' w3 h hb z3 z5 z6 z9
 all_goals
  obtain ⟨hS,YW,YY,hP,hW,hI,hB⟩:=h
  have hz:=hb.size
  have hlP:=hP.lt
  have hlS:=hS.lt
  refine ⟨((hS.old hb).alloc _).setOther (by simp;omega) _,((YW.old hb).alloc _).setOther z5 _,((YY.old hb).alloc _).setOther z6 _,?_,?_,?_,?_⟩
  ·rw [←MT];exact ((hP.old hb).alloc _).set _ _
  ·intro r hr
   by_cases e:r=k
   ·subst e
    simp only [if_true]
    exact ⟨(Row.new' rfl).setOther (by simp;omega) _,by omega⟩
   ·simp only [if_neg e]
    obtain ⟨h1,h2⟩:=hW r (by omega)
    exact ⟨((h1.old hb).alloc _).setOther (by simp;omega) _,h2⟩
  ·intro r s h1 h2
   by_cases e:s=k
   ·subst e
    have hr:=(hW r h1).1.lt
    simp only [if_true,if_neg (show ¬r=s by omega)]
    omega
   ·simp only [if_neg e,if_neg (show ¬r=k by omega)]
    exact hI r s h1 (by omega)
  ·exact (Below.alloc (Below.next hB hb hB.size) (Nat.le_trans hB.size hz) _).setCell z3 _
theorem int.mA.next:cS:=sC.1
theorem list.mA.next:cS:=sC.2.1
theorem tree.mA.next:cS:=sC.2.2.1
theorem row.mA.next:cS:=sC.2.2.2
def int.jG (bB:Nat):List Value:=[.int .i64 0]++[.pointer (some ⟨bB,0,none⟩)]++[.int .i64 0]++[.pointer (some ⟨bB,0,none⟩)]
def list.jG (bB:Nat):List Value:=[.pointer none]++[.pointer (some ⟨bB,0,none⟩)]++[.pointer none]++[.pointer (some ⟨bB,0,none⟩)]
def tree.jG (bB:Nat):List Value:=[.pointer none]++[.pointer (some ⟨bB,0,none⟩)]++[.pointer none]++[.pointer (some ⟨bB,0,none⟩)]
def row.jG (bB:Nat):List Value:=[.pointer none,.pointer none]++[.pointer (some ⟨bB,0,none⟩)]++[.pointer none,.pointer none]++[.pointer (some ⟨bB,0,none⟩)]
def int.dQ (base bS aY aX bP n:Nat) (oT:TypeId) (ov:Value) (bW:Nat→Nat) (bB bE:Nat) (w':World):Prop :=
 Row w' bS 296 [.int .i64 (n:Int),.iface oT ov,.slice (some ⟨aY,0,none⟩) (tw n) (tw n),.slice (some ⟨aX,0,none⟩) n n,.slice (some ⟨bP,0,none⟩) (2*n+1) (2*n+1),.int .i64 0] ∧
 Row w' aY 387 (zeros (.int .i64 0) (tw n))∧Row w' aX 388 (zeros (.int .i64 0) (n*3))∧Row w' bP 304 ((eY (2*n+1) (eC n) (2*n+1) bW).set 1 (.pointer (some ⟨bE,0,none⟩))) ∧
 (∀ r,r<2*n+1→Row w' (bW r) 387 (zeros (.int .i64 0) (eC n))∧bS<bW r∧bW r<bB)∧(∀ r s,r<s→s<2*n+1→bW r<bW s) ∧
 Row w' bB 306 [.int .i64 0,.slice none 0 0,.pointer none]∧Row w' bE 227 (jG bB) ∧
 base≤aY∧base≤aX∧base≤bP∧aY≠aX∧aY≠bP∧aX≠bP∧aY<bS∧aX<bS∧bP<bS∧bB<bE
def list.dQ (base bS aY aX bP n:Nat) (oT:TypeId) (ov:Value) (bW:Nat→Nat) (bB bE:Nat) (w':World):Prop :=
 Row w' bS 310 [.int .i64 (n:Int),.iface oT ov,.slice (some ⟨aY,0,none⟩) (tw n) (tw n),.slice (some ⟨aX,0,none⟩) n n,.slice (some ⟨bP,0,none⟩) (2*n+1) (2*n+1),.int .i64 0] ∧
 Row w' aY 387 (zeros (.int .i64 0) (tw n))∧Row w' aX 388 (zeros (.int .i64 0) (n*3))∧Row w' bP 318 ((eY (2*n+1) (eC n) (2*n+1) bW).set 1 (.pointer (some ⟨bE,0,none⟩))) ∧
 (∀ r,r<2*n+1→Row w' (bW r) 387 (zeros (.int .i64 0) (eC n))∧bS<bW r∧bW r<bB)∧(∀ r s,r<s→s<2*n+1→bW r<bW s) ∧
 Row w' bB 306 [.int .i64 0,.slice none 0 0,.pointer none]∧Row w' bE 241 (jG bB) ∧
 base≤aY∧base≤aX∧base≤bP∧aY≠aX∧aY≠bP∧aX≠bP∧aY<bS∧aX<bS∧bP<bS∧bB<bE
def tree.dQ (base bS aY aX bP n:Nat) (oT:TypeId) (ov:Value) (bW:Nat→Nat) (bB bE:Nat) (w':World):Prop :=
 Row w' bS 336 [.int .i64 (n:Int),.iface oT ov,.slice (some ⟨aY,0,none⟩) (tw n) (tw n),.slice (some ⟨aX,0,none⟩) n n,.slice (some ⟨bP,0,none⟩) (2*n+1) (2*n+1),.int .i64 0] ∧
 Row w' aY 387 (zeros (.int .i64 0) (tw n))∧Row w' aX 388 (zeros (.int .i64 0) (n*3))∧Row w' bP 344 ((eY (2*n+1) (eC n) (2*n+1) bW).set 1 (.pointer (some ⟨bE,0,none⟩))) ∧
 (∀ r,r<2*n+1→Row w' (bW r) 387 (zeros (.int .i64 0) (eC n))∧bS<bW r∧bW r<bB)∧(∀ r s,r<s→s<2*n+1→bW r<bW s) ∧
 Row w' bB 306 [.int .i64 0,.slice none 0 0,.pointer none]∧Row w' bE 269 (jG bB) ∧
 base≤aY∧base≤aX∧base≤bP∧aY≠aX∧aY≠bP∧aX≠bP∧aY<bS∧aX<bS∧bP<bS∧bB<bE
def row.dQ (base bS aY aX bP n:Nat) (oT:TypeId) (ov:Value) (bW:Nat→Nat) (bB bE:Nat) (w':World):Prop :=
 Row w' bS 323 [.int .i64 (n:Int),.iface oT ov,.slice (some ⟨aY,0,none⟩) (tw n) (tw n),.slice (some ⟨aX,0,none⟩) n n,.slice (some ⟨bP,0,none⟩) (2*n+1) (2*n+1),.int .i64 0] ∧
 Row w' aY 387 (zeros (.int .i64 0) (tw n))∧Row w' aX 388 (zeros (.int .i64 0) (n*3))∧Row w' bP 331 ((eY (2*n+1) (eC n) (2*n+1) bW).set 1 (.pointer (some ⟨bE,0,none⟩))) ∧
 (∀ r,r<2*n+1→Row w' (bW r) 387 (zeros (.int .i64 0) (eC n))∧bS<bW r∧bW r<bB)∧(∀ r s,r<s→s<2*n+1→bW r<bW s) ∧
 Row w' bB 306 [.int .i64 0,.slice none 0 0,.pointer none]∧Row w' bE 255 (jG bB) ∧
 base≤aY∧base≤aX∧base≤bP∧aY≠aX∧aY≠bP∧aX≠bP∧aY<bS∧aX<bS∧bP<bS∧bB<bE
theorem int.dQ.base {base base' bS aY aX bP n:Nat} {oT:TypeId} {ov:Value} {bW:Nat→Nat} {bB bE:Nat} {w':World} (h:dQ base bS aY aX bP n oT ov bW bB bE w') (hb:base'≤base):dQ base' bS aY aX bP n oT ov bW bB bE w':=by
 obtain ⟨a1,a2,a3,a4,a5,a6,a7,a8,z1,z2,z3,z⟩:=h
 exact ⟨a1,a2,a3,a4,a5,a6,a7,a8,by omega,by omega,by omega,z⟩
theorem list.dQ.base {base base' bS aY aX bP n:Nat} {oT:TypeId} {ov:Value} {bW:Nat→Nat} {bB bE:Nat} {w':World} (h:dQ base bS aY aX bP n oT ov bW bB bE w') (hb:base'≤base):dQ base' bS aY aX bP n oT ov bW bB bE w':=by
 obtain ⟨a1,a2,a3,a4,a5,a6,a7,a8,z1,z2,z3,z⟩:=h
 exact ⟨a1,a2,a3,a4,a5,a6,a7,a8,by omega,by omega,by omega,z⟩
theorem tree.dQ.base {base base' bS aY aX bP n:Nat} {oT:TypeId} {ov:Value} {bW:Nat→Nat} {bB bE:Nat} {w':World} (h:dQ base bS aY aX bP n oT ov bW bB bE w') (hb:base'≤base):dQ base' bS aY aX bP n oT ov bW bB bE w':=by
 obtain ⟨a1,a2,a3,a4,a5,a6,a7,a8,z1,z2,z3,z⟩:=h
 exact ⟨a1,a2,a3,a4,a5,a6,a7,a8,by omega,by omega,by omega,z⟩
theorem row.dQ.base {base base' bS aY aX bP n:Nat} {oT:TypeId} {ov:Value} {bW:Nat→Nat} {bB bE:Nat} {w':World} (h:dQ base bS aY aX bP n oT ov bW bB bE w') (hb:base'≤base):dQ base' bS aY aX bP n oT ov bW bB bE w':=by
 obtain ⟨a1,a2,a3,a4,a5,a6,a7,a8,z1,z2,z3,z⟩:=h
 exact ⟨a1,a2,a3,a4,a5,a6,a7,a8,by omega,by omega,by omega,z⟩
def int.mA.oX:Prop:=∀ {W0:World} {bS aY aX bP n:Nat} {oT:TypeId} {ov:Value} {bW:Nat→Nat} {wr w4 W5 w6:World} {vs:List Value} (_h:mA W0 bS aY aX bP n oT ov (2*n+1) bW wr) (_hb4:Below wr.heap.size wr w4) (_h5:W5=(w4.alloc (.cells [Value.int .i64 0,.slice none 0 0,.pointer none].toArray 306)).alloc (.cells vs.toArray 225)) (_h6:w6=(W5.alloc (.cells (jG w4.heap.size).toArray 227)).drew.setCell ⟨bP,1,none⟩ (.pointer (some ⟨W5.heap.size,0,none⟩))) (_z1:W0.heap.size≤aY) (_z2:W0.heap.size≤aX) (_z3:W0.heap.size≤bP) (_z4:aY≠aX) (_z5:aY≠bP) (_z6:aX≠bP) (_z7:aY<bS) (_z8:aX<bS) (_z9:bP<bS),dQ W0.heap.size bS aY aX bP n oT ov bW w4.heap.size W5.heap.size w6∧Below W0.heap.size W0 w6
def list.mA.oX:Prop:=∀ {W0:World} {bS aY aX bP n:Nat} {oT:TypeId} {ov:Value} {bW:Nat→Nat} {wr w4 W5 w6:World} {vs:List Value} (_h:mA W0 bS aY aX bP n oT ov (2*n+1) bW wr) (_hb4:Below wr.heap.size wr w4) (_h5:W5=(w4.alloc (.cells [Value.int .i64 0,.slice none 0 0,.pointer none].toArray 306)).alloc (.cells vs.toArray 239)) (_h6:w6=(W5.alloc (.cells (jG w4.heap.size).toArray 241)).drew.setCell ⟨bP,1,none⟩ (.pointer (some ⟨W5.heap.size,0,none⟩))) (_z1:W0.heap.size≤aY) (_z2:W0.heap.size≤aX) (_z3:W0.heap.size≤bP) (_z4:aY≠aX) (_z5:aY≠bP) (_z6:aX≠bP) (_z7:aY<bS) (_z8:aX<bS) (_z9:bP<bS),dQ W0.heap.size bS aY aX bP n oT ov bW w4.heap.size W5.heap.size w6∧Below W0.heap.size W0 w6
def tree.mA.oX:Prop:=∀ {W0:World} {bS aY aX bP n:Nat} {oT:TypeId} {ov:Value} {bW:Nat→Nat} {wr w4 W5 w6:World} {vs:List Value} (_h:mA W0 bS aY aX bP n oT ov (2*n+1) bW wr) (_hb4:Below wr.heap.size wr w4) (_h5:W5=(w4.alloc (.cells [Value.int .i64 0,.slice none 0 0,.pointer none].toArray 306)).alloc (.cells vs.toArray 267)) (_h6:w6=(W5.alloc (.cells (jG w4.heap.size).toArray 269)).drew.setCell ⟨bP,1,none⟩ (.pointer (some ⟨W5.heap.size,0,none⟩))) (_z1:W0.heap.size≤aY) (_z2:W0.heap.size≤aX) (_z3:W0.heap.size≤bP) (_z4:aY≠aX) (_z5:aY≠bP) (_z6:aX≠bP) (_z7:aY<bS) (_z8:aX<bS) (_z9:bP<bS),dQ W0.heap.size bS aY aX bP n oT ov bW w4.heap.size W5.heap.size w6∧Below W0.heap.size W0 w6
def row.mA.oX:Prop:=∀ {W0:World} {bS aY aX bP n:Nat} {oT:TypeId} {ov:Value} {bW:Nat→Nat} {wr w4 W5 w6:World} {vs:List Value} (_h:mA W0 bS aY aX bP n oT ov (2*n+1) bW wr) (_hb4:Below wr.heap.size wr w4) (_h5:W5=(w4.alloc (.cells [Value.int .i64 0,.slice none 0 0,.pointer none].toArray 306)).alloc (.cells vs.toArray 253)) (_h6:w6=(W5.alloc (.cells (jG w4.heap.size).toArray 255)).drew.setCell ⟨bP,1,none⟩ (.pointer (some ⟨W5.heap.size,0,none⟩))) (_z1:W0.heap.size≤aY) (_z2:W0.heap.size≤aX) (_z3:W0.heap.size≤bP) (_z4:aY≠aX) (_z5:aY≠bP) (_z6:aX≠bP) (_z7:aY<bS) (_z8:aX<bS) (_z9:bP<bS),dQ W0.heap.size bS aY aX bP n oT ov bW w4.heap.size W5.heap.size w6∧Below W0.heap.size W0 w6
open row in
theorem sD:int.mA.oX∧list.mA.oX∧tree.mA.oX∧row.mA.oX:=by
 refine ⟨?_,?_,?_,?_⟩<;>intro W0 bS aY aX bP n oT ov bW wr w4 W5 w6 vs h cT h5 h6 z1 z2 z3 z4 z5 z6 z7 z8 z9
 all_goals
  obtain ⟨hS,YW,YY,hP,hW,hI,hB⟩:=h
  have hz:=cT.size
  have hlP:=hP.lt
  have hlS:=hS.lt
  have hs5:W5.heap.size=w4.heap.size+2:=by rw [h5];simp
  have yF:Below w4.heap.size w4 W5:=by rw [h5];exact ((Below.refl _ _).alloc (Nat.le_refl _) _).alloc (by simp) _
  have hbB:Row W5 w4.heap.size 306 [.int .i64 0,.slice none 0 0,.pointer none]:=by rw [h5];exact (Row.new' rfl).alloc _
  have old:∀ {g:Nat} {t:TypeId} {xs:List Value},Row wr g t xs→g≠bP→Row w6 g t xs:=fun {g t xs} hr hne=>by
   rw [h6];exact Row.setOther (a:=⟨bP,1,none⟩) (Row.alloc ((hr.old cT).old yF) _).drew hne _
  refine ⟨⟨old hS (by omega),old YW z5,old YY z6,?_,?_,hI,?_,?_,z1,z2,z3,z4,z5,z6,z7,z8,z9,by omega⟩,?_⟩
  ·rw [h6];exact (Row.alloc ((hP.old cT).old yF) _).drew.set _ _
  ·intro r hr
   obtain ⟨h1,h2⟩:=hW r hr
   have:=h1.lt
   exact ⟨old h1 (by omega),h2,by omega⟩
  ·rw [h6];exact Row.setOther (a:=⟨bP,1,none⟩) (Row.alloc hbB _).drew (by simp;omega) _
  ·rw [h6];exact Row.setOther (a:=⟨bP,1,none⟩) (Row.new' (w:=W5) rfl).drew (by simp;omega) _
  ·rw [h6]
   have hq:Below W0.heap.size W0 W5:=Below.next (Below.next hB cT hB.size) yF (Nat.le_trans hB.size hz)
   exact (Below.alloc hq hq.size _).drew.setCell z3 _
theorem int.mA.done:oX:=sD.1
theorem list.mA.done:oX:=sD.2.1
theorem tree.mA.done:oX:=sD.2.2.1
theorem row.mA.done:oX:=sD.2.2.2
def int.cN:Prop:=∀ (oT:TypeId) (ov:Value) (fF:Nat) (rv:Value) (_hm:∀ w,(method 553 oT ov "First").run Tryz.prog w = .ok (fF,rv) w) (_vX:∀ w,(callFunc fF #[rv]).run Tryz.prog w = .ok (.enter fF #[rv]) w) (_hF:∀ w,Calls Tryz.prog fF #[rv] w fun e w'=>e = .returned (.int .i64 0)∧Below w.heap.size w w') (n:Nat) (w:World) (_MZ:1≤n) (_NA:n≤64),Calls Tryz.prog 133 #[.iface oT ov,.int .i64 (n:Int)] w fun e w'=>∃ bS aY aX bP bW bB bE,e = .returned (.pointer (some ⟨bS,0,none⟩))∧dQ w.heap.size bS aY aX bP n oT ov bW bB bE w'∧Below w.heap.size w w'
def list.cN:Prop:=∀ (oT:TypeId) (ov:Value) (fF:Nat) (rv:Value) (_hm:∀ w,(method 553 oT ov "First").run Tryz.prog w = .ok (fF,rv) w) (_vX:∀ w,(callFunc fF #[rv]).run Tryz.prog w = .ok (.enter fF #[rv]) w) (_hF:∀ w,Calls Tryz.prog fF #[rv] w fun e w'=>e = .returned (.pointer none)∧Below w.heap.size w w') (n:Nat) (w:World) (_MZ:1≤n) (_NA:n≤64),Calls Tryz.prog 135 #[.iface oT ov,.int .i64 (n:Int)] w fun e w'=>∃ bS aY aX bP bW bB bE,e = .returned (.pointer (some ⟨bS,0,none⟩))∧dQ w.heap.size bS aY aX bP n oT ov bW bB bE w'∧Below w.heap.size w w'
def tree.cN:Prop:=∀ (oT:TypeId) (ov:Value) (fF:Nat) (rv:Value) (_hm:∀ w,(method 553 oT ov "First").run Tryz.prog w = .ok (fF,rv) w) (_vX:∀ w,(callFunc fF #[rv]).run Tryz.prog w = .ok (.enter fF #[rv]) w) (_hF:∀ w,Calls Tryz.prog fF #[rv] w fun e w'=>e = .returned (.pointer none)∧Below w.heap.size w w') (n:Nat) (w:World) (_MZ:1≤n) (_NA:n≤64),Calls Tryz.prog 139 #[.iface oT ov,.int .i64 (n:Int)] w fun e w'=>∃ bS aY aX bP bW bB bE,e = .returned (.pointer (some ⟨bS,0,none⟩))∧dQ w.heap.size bS aY aX bP n oT ov bW bB bE w'∧Below w.heap.size w w'
def row.cN:Prop:=∀ (oT:TypeId) (ov:Value) (fF:Nat) (rv:Value) (_hm:∀ w,(method 553 oT ov "First").run Tryz.prog w = .ok (fF,rv) w) (_vX:∀ w,(callFunc fF #[rv]).run Tryz.prog w = .ok (.enter fF #[rv]) w) (_hF:∀ w,Calls Tryz.prog fF #[rv] w fun e w'=>e = .returned (.agg #[.pointer none,.pointer none])∧Below w.heap.size w w') (n:Nat) (w:World) (_MZ:1≤n) (_NA:n≤64),Calls Tryz.prog 137 #[.iface oT ov,.int .i64 (n:Int)] w fun e w'=>∃ bS aY aX bP bW bB bE,e = .returned (.pointer (some ⟨bS,0,none⟩))∧dQ w.heap.size bS aY aX bP n oT ov bW bB bE w'∧Below w.heap.size w w'
open row in
theorem kN:int.cN∧list.cN∧tree.cN∧row.cN:=by
 refine ⟨@mkK _ 0 ?_,@mkK _ 1 ?_,@mkK _ 2 ?_,@mkK _ 3 ?_⟩<;>intro kk oT ov fF rv hm eD hF n w _h0 _h1
 all_goals
  have aF4:=iQ (P:=Tryz.prog) 288 387 (.agg #[.int .i64 0]) 1 8 [.int .i64 0] Tryz.underlying288 EZ rfl (by decide) (((n:Int)+15) / 16) (tw n) (by unfold tw;omega) (by unfold tw;omega) (by unfold tw;omega)
  have aF5:=iQ (P:=Tryz.prog) 288 387 (.agg #[.int .i64 0]) 1 8 [.int .i64 0] Tryz.underlying288 EZ rfl (by decide) (((n:Int)+15) / 16+2*(n:Int)) (eC n) (by unfold eC;omega) (by unfold eC;omega) (by unfold eC;omega)
  have aF6:=iQ (P:=Tryz.prog) 289 388 (.agg #[.int .i64 0,.int .i64 0,.int .i64 0]) 3 24 [.int .i64 0,.int .i64 0,.int .i64 0] Tryz.underlying289 KG rfl (by decide) (n:Int) n (by omega) (by omega) (by omega)
  first|(have _:Kn 0:=kk;have aA3:=iQ (P:=Tryz.prog) 290 304 (.agg #[.slice none 0 0,.pointer none]) 2 32 [.slice none 0 0,.pointer none] Tryz.underlying290 int.jF rfl (by decide) (2*(n:Int)+1) (2*n+1) (by omega) (by omega) (by omega))|(have _:Kn 1:=kk;have aA3:=iQ (P:=Tryz.prog) 308 318 (.agg #[.slice none 0 0,.pointer none]) 2 32 [.slice none 0 0,.pointer none] Tryz.underlying308 list.jF rfl (by decide) (2*(n:Int)+1) (2*n+1) (by omega) (by omega) (by omega))|(have _:Kn 2:=kk;have aA3:=iQ (P:=Tryz.prog) 334 344 (.agg #[.slice none 0 0,.pointer none]) 2 32 [.slice none 0 0,.pointer none] Tryz.underlying334 tree.jF rfl (by decide) (2*(n:Int)+1) (2*n+1) (by omega) (by omega) (by omega))|(have _:Kn 3:=kk;have aA3:=iQ (P:=Tryz.prog) 321 331 (.agg #[.slice none 0 0,.pointer none]) 2 32 [.slice none 0 0,.pointer none] Tryz.underlying321 row.jF rfl (by decide) (2*(n:Int)+1) (2*n+1) (by omega) (by omega) (by omega))
  rw [YV] at aF4 aF5
  rw [RH] at aF6
  have hw1:IntKind.i64.wrap (2*(n:Int))=2*(n:Int):=dP _ (by omega) (by omega)
  have hw2:IntKind.i64.wrap (2*(n:Int)+1)=2*(n:Int)+1:=dP _ (by omega) (by omega)
  have HF:=aA hF
  clear hF
  first|(have _:Kn 0:=kk;go_enter Tryz.func133,Tryz.ntmps133)|(have _:Kn 1:=kk;go_enter Tryz.func135,Tryz.ntmps135)|(have _:Kn 2:=kk;go_enter Tryz.func139,Tryz.ntmps139)|(have _:Kn 3:=kk;go_enter Tryz.func137,Tryz.ntmps137)
  go_wp2
  generalize vT:World.alloc w _=W0
  have hb0:Below w.heap.size w W0:=by rw [←vT];exact aB w _
  have hs0:w.heap.size<W0.heap.size:=by rw [←vT];simp
  have hc0:W0.cell? ⟨w.heap.size,0,none⟩=some (.int .i64 (n:Int)):=by rw [←vT];exact (Row.new w [_] 287).cell_of rfl
  clear vT
  first
   |have _:Kn 0:=kk
    go_cut [6] (fun s w'=>∃ bS aY aX bP,s = .pointer (some ⟨bS,0,none⟩) ∧
     Row w' bS 296 [.int .i64 (n:Int),.iface oT ov,.slice (some ⟨aY,0,none⟩) (tw n) (tw n),.slice (some ⟨aX,0,none⟩) n n,.slice (some ⟨bP,0,none⟩) (2*n+1) (2*n+1),.int .i64 0] ∧
     Below W0.heap.size W0 w'∧W0.heap.size≤aY∧W0.heap.size≤aX∧W0.heap.size≤bP∧aY≠aX∧aY≠bP∧aX≠bP∧aY<bS∧aX<bS∧bP<bS ∧
     Row w' aY 387 (zeros (.int .i64 0) (tw n))∧Row w' aX 388 (zeros (.int .i64 0) (n*3))∧Row w' bP 304 (rep [.slice none 0 0,.pointer none] ((2*n+1)*2)))
   |have _:Kn 1:=kk
    go_cut [6] (fun s w'=>∃ bS aY aX bP,s = .pointer (some ⟨bS,0,none⟩) ∧
     Row w' bS 310 [.int .i64 (n:Int),.iface oT ov,.slice (some ⟨aY,0,none⟩) (tw n) (tw n),.slice (some ⟨aX,0,none⟩) n n,.slice (some ⟨bP,0,none⟩) (2*n+1) (2*n+1),.int .i64 0] ∧
     Below W0.heap.size W0 w'∧W0.heap.size≤aY∧W0.heap.size≤aX∧W0.heap.size≤bP∧aY≠aX∧aY≠bP∧aX≠bP∧aY<bS∧aX<bS∧bP<bS ∧
     Row w' aY 387 (zeros (.int .i64 0) (tw n))∧Row w' aX 388 (zeros (.int .i64 0) (n*3))∧Row w' bP 318 (rep [.slice none 0 0,.pointer none] ((2*n+1)*2)))
   |have _:Kn 2:=kk
    go_cut [6] (fun s w'=>∃ bS aY aX bP,s = .pointer (some ⟨bS,0,none⟩) ∧
     Row w' bS 336 [.int .i64 (n:Int),.iface oT ov,.slice (some ⟨aY,0,none⟩) (tw n) (tw n),.slice (some ⟨aX,0,none⟩) n n,.slice (some ⟨bP,0,none⟩) (2*n+1) (2*n+1),.int .i64 0] ∧
     Below W0.heap.size W0 w'∧W0.heap.size≤aY∧W0.heap.size≤aX∧W0.heap.size≤bP∧aY≠aX∧aY≠bP∧aX≠bP∧aY<bS∧aX<bS∧bP<bS ∧
     Row w' aY 387 (zeros (.int .i64 0) (tw n))∧Row w' aX 388 (zeros (.int .i64 0) (n*3))∧Row w' bP 344 (rep [.slice none 0 0,.pointer none] ((2*n+1)*2)))
   |have _:Kn 3:=kk
    go_cut [6] (fun s w'=>∃ bS aY aX bP,s = .pointer (some ⟨bS,0,none⟩) ∧
     Row w' bS 323 [.int .i64 (n:Int),.iface oT ov,.slice (some ⟨aY,0,none⟩) (tw n) (tw n),.slice (some ⟨aX,0,none⟩) n n,.slice (some ⟨bP,0,none⟩) (2*n+1) (2*n+1),.int .i64 0] ∧
     Below W0.heap.size W0 w'∧W0.heap.size≤aY∧W0.heap.size≤aX∧W0.heap.size≤bP∧aY≠aX∧aY≠bP∧aX≠bP∧aY<bS∧aX<bS∧bP<bS ∧
     Row w' aY 387 (zeros (.int .i64 0) (tw n))∧Row w' aX 388 (zeros (.int .i64 0) (n*3))∧Row w' bP 331 (rep [.slice none 0 0,.pointer none] ((2*n+1)*2)))
  case first =>
   refine fR (S:=(fun w'=>Below W0.heap.size W0 w'∧w'.cell? ⟨w.heap.size,0,none⟩=some (.int .i64 (n:Int)))) 14 rfl (by kernel_rfl) ?_ (fun hHeld=>?_)
   ·exact ⟨Below.drew (Below.refl _ _),hc0⟩
   iterate 3 (refine tk 13 (by rfl) (by kernel_rfl) (by exact fun _ _ _ h=>h) (.inl ⟨by rfl,fun w hS=>by (try dsimp only at hS);go_simp;(try with_reducible rfl)⟩) (by assumption) ?_;try go_frame)
   iterate 1 (refine tk 15 (by rfl) (by kernel_rfl) (by exact fun _ _ _ h=>h) (.inl ⟨by rfl,fun w hS=>by (try dsimp only at hS);go_simp;(try with_reducible rfl)⟩) (by assumption) ?_;try go_frame)
   iterate 3 (refine tk 16 (by rfl) (by kernel_rfl) (by exact fun _ _ _ h=>h) (.inl ⟨by rfl,fun w hS=>by (try dsimp only at hS);go_simp;(try with_reducible rfl)⟩) (by assumption) ?_;try go_frame)
   refine wpAnyH_ready (rs:=[3,6,10]) (by kernel_rfl) (by simp) (rc (by rfl) (fun K hK=>?_) (rc (by rfl) (fun K hK=>?_) (rc (by rfl) (fun K hK=>?_) AllReadyH.nil)))
   ·go_simp
    refine (cL (n:Int) _ (by omega) (by omega)).mono ?_
    rintro e w2 ⟨rfl,aZ⟩
    have EB:=aZ.size
    (try simp at EB)
    go_wp2_with fail
    refine hK.out _ _ ?_ (fun hHeld=>?_)
    ·exact ⟨Below.next hHeld.1 aZ hHeld.1.size,cell_later aZ hHeld.2⟩
    clear hK K
    (try go_frame)
    refine wpAnyH_ready (rs:=[4,6,10]) (by kernel_rfl) (by simp) (rc (by rfl) (fun K hK=>?_) (rc (by rfl) (fun K hK=>?_) (rc (by rfl) (fun K hK=>?_) AllReadyH.nil)))
    ·go_simp
     refine hK.out _ _ ?_ (fun hHeld=>?_)
     ·exact ⟨hHeld.1.alloc hHeld.1.size _,cell_later (aB _ _) hHeld.2⟩
     clear hK K
     (try go_frame)
     refine wpAnyH_ready (rs:=[6,10]) (by kernel_rfl) (by simp) (rc (by rfl) (fun K hK=>?_) (rc (by rfl) (fun K hK=>?_) AllReadyH.nil))
     ·go_simp
      refine hK.out _ _ ?_ (fun hHeld=>?_)
      ·exact ⟨hHeld.1.alloc hHeld.1.size _,cell_later (aB _ _) hHeld.2⟩
      clear hK K
      (try go_frame)
      refine bQ 10 (by rfl) (by kernel_rfl) (fun K hK=>?_)
      go_simp
      refine hK.out _ _ ?_ (fun hHeld=>?_)
      ·exact ⟨hHeld.1.alloc hHeld.1.size _,cell_later (aB _ _) hHeld.2⟩
      clear hK K
      (try go_frame)
      iterate 1 (refine tk 13 (by rfl) (by kernel_rfl) (by exact fun _ _ _ h=>h) (.inl ⟨by rfl,fun w hS=>by (try dsimp only at hS);go_simp;(try with_reducible rfl)⟩) (by assumption) ?_;try go_frame)
      refine bQ 12 (by rfl) (by kernel_rfl) (fun K hK=>?_)
      go_simp
      refine hK.out _ _ ?_ (fun hHeld=>?_)
      ·exact ⟨hHeld.1.alloc hHeld.1.size _,cell_later (aB _ _) hHeld.2⟩
      clear hK K
      (try go_frame)
      iterate 1 (refine tk 13 (by rfl) (by kernel_rfl) (by exact fun _ _ _ h=>h) (.inl ⟨by rfl,fun w hS=>by (try dsimp only at hS);go_simp;(try with_reducible rfl)⟩) (by assumption) ?_;try go_frame)
      refine wpAnyH_done (by kernel_rfl) ?_ _
      (try go_wp2_with fail)
      go_meet
      case rel =>
       refine ⟨_,_,_,_,rfl,Row.new' (by simp),hHeld.1,?_⟩
       (refine ⟨?_,?_,?_,?_,?_,?_,?_,?_,?_,?_,?_,?_⟩)<;>first|(simp;omega)|omega|(repeat (first|exact Row.new' (by simp)|refine Row.alloc ?_ _|refine Row.old ?_ aZ))
     ·go_simp
      refine hK.out _ _ ?_ (fun hHeld=>?_)
      ·exact ⟨hHeld.1.alloc hHeld.1.size _,cell_later (aB _ _) hHeld.2⟩
      clear hK K
      (try go_frame)
      refine bQ 6 (by rfl) (by kernel_rfl) (fun K hK=>?_)
      go_simp
      refine hK.out _ _ ?_ (fun hHeld=>?_)
      ·exact ⟨hHeld.1.alloc hHeld.1.size _,cell_later (aB _ _) hHeld.2⟩
      clear hK K
      (try go_frame)
      iterate 1 (refine tk 13 (by rfl) (by kernel_rfl) (by exact fun _ _ _ h=>h) (.inl ⟨by rfl,fun w hS=>by (try dsimp only at hS);go_simp;(try with_reducible rfl)⟩) (by assumption) ?_;try go_frame)
      refine bQ 12 (by rfl) (by kernel_rfl) (fun K hK=>?_)
      go_simp
      refine hK.out _ _ ?_ (fun hHeld=>?_)
      ·exact ⟨hHeld.1.alloc hHeld.1.size _,cell_later (aB _ _) hHeld.2⟩
      clear hK K
      (try go_frame)
      iterate 1 (refine tk 13 (by rfl) (by kernel_rfl) (by exact fun _ _ _ h=>h) (.inl ⟨by rfl,fun w hS=>by (try dsimp only at hS);go_simp;(try with_reducible rfl)⟩) (by assumption) ?_;try go_frame)
      refine wpAnyH_done (by kernel_rfl) ?_ _
      (try go_wp2_with fail)
      go_meet
      case rel =>
       refine ⟨_,_,_,_,rfl,Row.new' (by simp),hHeld.1,?_⟩
       (refine ⟨?_,?_,?_,?_,?_,?_,?_,?_,?_,?_,?_,?_⟩)<;>first|(simp;omega)|omega|(repeat (first|exact Row.new' (by simp)|refine Row.alloc ?_ _|refine Row.old ?_ aZ))
    ·go_simp
     refine hK.out _ _ ?_ (fun hHeld=>?_)
     ·exact ⟨hHeld.1.alloc hHeld.1.size _,cell_later (aB _ _) hHeld.2⟩
     clear hK K
     (try go_frame)
     refine wpAnyH_ready (rs:=[4,10]) (by kernel_rfl) (by simp) (rc (by rfl) (fun K hK=>?_) (rc (by rfl) (fun K hK=>?_) AllReadyH.nil))
     ·go_simp
      refine hK.out _ _ ?_ (fun hHeld=>?_)
      ·exact ⟨hHeld.1.alloc hHeld.1.size _,cell_later (aB _ _) hHeld.2⟩
      clear hK K
      (try go_frame)
      refine bQ 10 (by rfl) (by kernel_rfl) (fun K hK=>?_)
      go_simp
      refine hK.out _ _ ?_ (fun hHeld=>?_)
      ·exact ⟨hHeld.1.alloc hHeld.1.size _,cell_later (aB _ _) hHeld.2⟩
      clear hK K
      (try go_frame)
      iterate 1 (refine tk 13 (by rfl) (by kernel_rfl) (by exact fun _ _ _ h=>h) (.inl ⟨by rfl,fun w hS=>by (try dsimp only at hS);go_simp;(try with_reducible rfl)⟩) (by assumption) ?_;try go_frame)
      refine bQ 12 (by rfl) (by kernel_rfl) (fun K hK=>?_)
      go_simp
      refine hK.out _ _ ?_ (fun hHeld=>?_)
      ·exact ⟨hHeld.1.alloc hHeld.1.size _,cell_later (aB _ _) hHeld.2⟩
      clear hK K
      (try go_frame)
      iterate 1 (refine tk 13 (by rfl) (by kernel_rfl) (by exact fun _ _ _ h=>h) (.inl ⟨by rfl,fun w hS=>by (try dsimp only at hS);go_simp;(try with_reducible rfl)⟩) (by assumption) ?_;try go_frame)
      refine wpAnyH_done (by kernel_rfl) ?_ _
      (try go_wp2_with fail)
      go_meet
      case rel =>
       refine ⟨_,_,_,_,rfl,Row.new' (by simp),hHeld.1,?_⟩
       (refine ⟨?_,?_,?_,?_,?_,?_,?_,?_,?_,?_,?_,?_⟩)<;>first|(simp;omega)|omega|(repeat (first|exact Row.new' (by simp)|refine Row.alloc ?_ _|refine Row.old ?_ aZ))
     ·go_simp
      refine hK.out _ _ ?_ (fun hHeld=>?_)
      ·exact ⟨hHeld.1.alloc hHeld.1.size _,cell_later (aB _ _) hHeld.2⟩
      clear hK K
      (try go_frame)
      refine bQ 4 (by rfl) (by kernel_rfl) (fun K hK=>?_)
      go_simp
      refine hK.out _ _ ?_ (fun hHeld=>?_)
      ·exact ⟨hHeld.1.alloc hHeld.1.size _,cell_later (aB _ _) hHeld.2⟩
      clear hK K
      (try go_frame)
      iterate 1 (refine tk 13 (by rfl) (by kernel_rfl) (by exact fun _ _ _ h=>h) (.inl ⟨by rfl,fun w hS=>by (try dsimp only at hS);go_simp;(try with_reducible rfl)⟩) (by assumption) ?_;try go_frame)
      refine bQ 12 (by rfl) (by kernel_rfl) (fun K hK=>?_)
      go_simp
      refine hK.out _ _ ?_ (fun hHeld=>?_)
      ·exact ⟨hHeld.1.alloc hHeld.1.size _,cell_later (aB _ _) hHeld.2⟩
      clear hK K
      (try go_frame)
      iterate 1 (refine tk 13 (by rfl) (by kernel_rfl) (by exact fun _ _ _ h=>h) (.inl ⟨by rfl,fun w hS=>by (try dsimp only at hS);go_simp;(try with_reducible rfl)⟩) (by assumption) ?_;try go_frame)
      refine wpAnyH_done (by kernel_rfl) ?_ _
      (try go_wp2_with fail)
      go_meet
      case rel =>
       refine ⟨_,_,_,_,rfl,Row.new' (by simp),hHeld.1,?_⟩
       (refine ⟨?_,?_,?_,?_,?_,?_,?_,?_,?_,?_,?_,?_⟩)<;>first|(simp;omega)|omega|(repeat (first|exact Row.new' (by simp)|refine Row.alloc ?_ _|refine Row.old ?_ aZ))
    ·go_simp
     refine hK.out _ _ ?_ (fun hHeld=>?_)
     ·exact ⟨hHeld.1.alloc hHeld.1.size _,cell_later (aB _ _) hHeld.2⟩
     clear hK K
     (try go_frame)
     refine wpAnyH_ready (rs:=[4,6]) (by kernel_rfl) (by simp) (rc (by rfl) (fun K hK=>?_) (rc (by rfl) (fun K hK=>?_) AllReadyH.nil))
     ·go_simp
      refine hK.out _ _ ?_ (fun hHeld=>?_)
      ·exact ⟨hHeld.1.alloc hHeld.1.size _,cell_later (aB _ _) hHeld.2⟩
      clear hK K
      (try go_frame)
      refine bQ 6 (by rfl) (by kernel_rfl) (fun K hK=>?_)
      go_simp
      refine hK.out _ _ ?_ (fun hHeld=>?_)
      ·exact ⟨hHeld.1.alloc hHeld.1.size _,cell_later (aB _ _) hHeld.2⟩
      clear hK K
      (try go_frame)
      iterate 1 (refine tk 13 (by rfl) (by kernel_rfl) (by exact fun _ _ _ h=>h) (.inl ⟨by rfl,fun w hS=>by (try dsimp only at hS);go_simp;(try with_reducible rfl)⟩) (by assumption) ?_;try go_frame)
      refine bQ 12 (by rfl) (by kernel_rfl) (fun K hK=>?_)
      go_simp
      refine hK.out _ _ ?_ (fun hHeld=>?_)
      ·exact ⟨hHeld.1.alloc hHeld.1.size _,cell_later (aB _ _) hHeld.2⟩
      clear hK K
      (try go_frame)
      iterate 1 (refine tk 13 (by rfl) (by kernel_rfl) (by exact fun _ _ _ h=>h) (.inl ⟨by rfl,fun w hS=>by (try dsimp only at hS);go_simp;(try with_reducible rfl)⟩) (by assumption) ?_;try go_frame)
      refine wpAnyH_done (by kernel_rfl) ?_ _
      (try go_wp2_with fail)
      go_meet
      case rel =>
       refine ⟨_,_,_,_,rfl,Row.new' (by simp),hHeld.1,?_⟩
       (refine ⟨?_,?_,?_,?_,?_,?_,?_,?_,?_,?_,?_,?_⟩)<;>first|(simp;omega)|omega|(repeat (first|exact Row.new' (by simp)|refine Row.alloc ?_ _|refine Row.old ?_ aZ))
     ·go_simp
      refine hK.out _ _ ?_ (fun hHeld=>?_)
      ·exact ⟨hHeld.1.alloc hHeld.1.size _,cell_later (aB _ _) hHeld.2⟩
      clear hK K
      (try go_frame)
      refine bQ 4 (by rfl) (by kernel_rfl) (fun K hK=>?_)
      go_simp
      refine hK.out _ _ ?_ (fun hHeld=>?_)
      ·exact ⟨hHeld.1.alloc hHeld.1.size _,cell_later (aB _ _) hHeld.2⟩
      clear hK K
      (try go_frame)
      iterate 1 (refine tk 13 (by rfl) (by kernel_rfl) (by exact fun _ _ _ h=>h) (.inl ⟨by rfl,fun w hS=>by (try dsimp only at hS);go_simp;(try with_reducible rfl)⟩) (by assumption) ?_;try go_frame)
      refine bQ 12 (by rfl) (by kernel_rfl) (fun K hK=>?_)
      go_simp
      refine hK.out _ _ ?_ (fun hHeld=>?_)
      ·exact ⟨hHeld.1.alloc hHeld.1.size _,cell_later (aB _ _) hHeld.2⟩
      clear hK K
      (try go_frame)
      iterate 1 (refine tk 13 (by rfl) (by kernel_rfl) (by exact fun _ _ _ h=>h) (.inl ⟨by rfl,fun w hS=>by (try dsimp only at hS);go_simp;(try with_reducible rfl)⟩) (by assumption) ?_;try go_frame)
      refine wpAnyH_done (by kernel_rfl) ?_ _
      (try go_wp2_with fail)
      go_meet
      case rel =>
       refine ⟨_,_,_,_,rfl,Row.new' (by simp),hHeld.1,?_⟩
       (refine ⟨?_,?_,?_,?_,?_,?_,?_,?_,?_,?_,?_,?_⟩)<;>first|(simp;omega)|omega|(repeat (first|exact Row.new' (by simp)|refine Row.alloc ?_ _|refine Row.old ?_ aZ))
   ·go_simp
    refine hK.out _ _ ?_ (fun hHeld=>?_)
    ·exact ⟨hHeld.1.alloc hHeld.1.size _,cell_later (aB _ _) hHeld.2⟩
    clear hK K
    (try go_frame)
    refine wpAnyH_ready (rs:=[3,10]) (by kernel_rfl) (by simp) (rc (by rfl) (fun K hK=>?_) (rc (by rfl) (fun K hK=>?_) AllReadyH.nil))
    ·go_simp
     refine (cL (n:Int) _ (by omega) (by omega)).mono ?_
     rintro e w2 ⟨rfl,aZ⟩
     have EB:=aZ.size
     (try simp at EB)
     go_wp2_with fail
     refine hK.out _ _ ?_ (fun hHeld=>?_)
     ·exact ⟨Below.next hHeld.1 aZ hHeld.1.size,cell_later aZ hHeld.2⟩
     clear hK K
     (try go_frame)
     refine wpAnyH_ready (rs:=[4,10]) (by kernel_rfl) (by simp) (rc (by rfl) (fun K hK=>?_) (rc (by rfl) (fun K hK=>?_) AllReadyH.nil))
     ·go_simp
      refine hK.out _ _ ?_ (fun hHeld=>?_)
      ·exact ⟨hHeld.1.alloc hHeld.1.size _,cell_later (aB _ _) hHeld.2⟩
      clear hK K
      (try go_frame)
      refine bQ 10 (by rfl) (by kernel_rfl) (fun K hK=>?_)
      go_simp
      refine hK.out _ _ ?_ (fun hHeld=>?_)
      ·exact ⟨hHeld.1.alloc hHeld.1.size _,cell_later (aB _ _) hHeld.2⟩
      clear hK K
      (try go_frame)
      iterate 1 (refine tk 13 (by rfl) (by kernel_rfl) (by exact fun _ _ _ h=>h) (.inl ⟨by rfl,fun w hS=>by (try dsimp only at hS);go_simp;(try with_reducible rfl)⟩) (by assumption) ?_;try go_frame)
      refine bQ 12 (by rfl) (by kernel_rfl) (fun K hK=>?_)
      go_simp
      refine hK.out _ _ ?_ (fun hHeld=>?_)
      ·exact ⟨hHeld.1.alloc hHeld.1.size _,cell_later (aB _ _) hHeld.2⟩
      clear hK K
      (try go_frame)
      iterate 1 (refine tk 13 (by rfl) (by kernel_rfl) (by exact fun _ _ _ h=>h) (.inl ⟨by rfl,fun w hS=>by (try dsimp only at hS);go_simp;(try with_reducible rfl)⟩) (by assumption) ?_;try go_frame)
      refine wpAnyH_done (by kernel_rfl) ?_ _
      (try go_wp2_with fail)
      go_meet
      case rel =>
       refine ⟨_,_,_,_,rfl,Row.new' (by simp),hHeld.1,?_⟩
       (refine ⟨?_,?_,?_,?_,?_,?_,?_,?_,?_,?_,?_,?_⟩)<;>first|(simp;omega)|omega|(repeat (first|exact Row.new' (by simp)|refine Row.alloc ?_ _|refine Row.old ?_ aZ))
     ·go_simp
      refine hK.out _ _ ?_ (fun hHeld=>?_)
      ·exact ⟨hHeld.1.alloc hHeld.1.size _,cell_later (aB _ _) hHeld.2⟩
      clear hK K
      (try go_frame)
      refine bQ 4 (by rfl) (by kernel_rfl) (fun K hK=>?_)
      go_simp
      refine hK.out _ _ ?_ (fun hHeld=>?_)
      ·exact ⟨hHeld.1.alloc hHeld.1.size _,cell_later (aB _ _) hHeld.2⟩
      clear hK K
      (try go_frame)
      iterate 1 (refine tk 13 (by rfl) (by kernel_rfl) (by exact fun _ _ _ h=>h) (.inl ⟨by rfl,fun w hS=>by (try dsimp only at hS);go_simp;(try with_reducible rfl)⟩) (by assumption) ?_;try go_frame)
      refine bQ 12 (by rfl) (by kernel_rfl) (fun K hK=>?_)
      go_simp
      refine hK.out _ _ ?_ (fun hHeld=>?_)
      ·exact ⟨hHeld.1.alloc hHeld.1.size _,cell_later (aB _ _) hHeld.2⟩
      clear hK K
      (try go_frame)
      iterate 1 (refine tk 13 (by rfl) (by kernel_rfl) (by exact fun _ _ _ h=>h) (.inl ⟨by rfl,fun w hS=>by (try dsimp only at hS);go_simp;(try with_reducible rfl)⟩) (by assumption) ?_;try go_frame)
      refine wpAnyH_done (by kernel_rfl) ?_ _
      (try go_wp2_with fail)
      go_meet
      case rel =>
       refine ⟨_,_,_,_,rfl,Row.new' (by simp),hHeld.1,?_⟩
       (refine ⟨?_,?_,?_,?_,?_,?_,?_,?_,?_,?_,?_,?_⟩)<;>first|(simp;omega)|omega|(repeat (first|exact Row.new' (by simp)|refine Row.alloc ?_ _|refine Row.old ?_ aZ))
    ·go_simp
     refine hK.out _ _ ?_ (fun hHeld=>?_)
     ·exact ⟨hHeld.1.alloc hHeld.1.size _,cell_later (aB _ _) hHeld.2⟩
     clear hK K
     (try go_frame)
     refine bQ 3 (by rfl) (by kernel_rfl) (fun K hK=>?_)
     go_simp
     refine (cL (n:Int) _ (by omega) (by omega)).mono ?_
     rintro e w2 ⟨rfl,aZ⟩
     have EB:=aZ.size
     (try simp at EB)
     go_wp2_with fail
     refine hK.out _ _ ?_ (fun hHeld=>?_)
     ·exact ⟨Below.next hHeld.1 aZ hHeld.1.size,cell_later aZ hHeld.2⟩
     clear hK K
     (try go_frame)
     refine bQ 4 (by rfl) (by kernel_rfl) (fun K hK=>?_)
     go_simp
     refine hK.out _ _ ?_ (fun hHeld=>?_)
     ·exact ⟨hHeld.1.alloc hHeld.1.size _,cell_later (aB _ _) hHeld.2⟩
     clear hK K
     (try go_frame)
     iterate 1 (refine tk 13 (by rfl) (by kernel_rfl) (by exact fun _ _ _ h=>h) (.inl ⟨by rfl,fun w hS=>by (try dsimp only at hS);go_simp;(try with_reducible rfl)⟩) (by assumption) ?_;try go_frame)
     refine bQ 12 (by rfl) (by kernel_rfl) (fun K hK=>?_)
     go_simp
     refine hK.out _ _ ?_ (fun hHeld=>?_)
     ·exact ⟨hHeld.1.alloc hHeld.1.size _,cell_later (aB _ _) hHeld.2⟩
     clear hK K
     (try go_frame)
     iterate 1 (refine tk 13 (by rfl) (by kernel_rfl) (by exact fun _ _ _ h=>h) (.inl ⟨by rfl,fun w hS=>by (try dsimp only at hS);go_simp;(try with_reducible rfl)⟩) (by assumption) ?_;try go_frame)
     refine wpAnyH_done (by kernel_rfl) ?_ _
     (try go_wp2_with fail)
     go_meet
     case rel =>
      refine ⟨_,_,_,_,rfl,Row.new' (by simp),hHeld.1,?_⟩
      (refine ⟨?_,?_,?_,?_,?_,?_,?_,?_,?_,?_,?_,?_⟩)<;>first|(simp;omega)|omega|(repeat (first|exact Row.new' (by simp)|refine Row.alloc ?_ _|refine Row.old ?_ aZ))
   ·go_simp
    refine hK.out _ _ ?_ (fun hHeld=>?_)
    ·exact ⟨hHeld.1.alloc hHeld.1.size _,cell_later (aB _ _) hHeld.2⟩
    clear hK K
    (try go_frame)
    refine wpAnyH_ready (rs:=[3,6]) (by kernel_rfl) (by simp) (rc (by rfl) (fun K hK=>?_) (rc (by rfl) (fun K hK=>?_) AllReadyH.nil))
    ·go_simp
     refine (cL (n:Int) _ (by omega) (by omega)).mono ?_
     rintro e w2 ⟨rfl,aZ⟩
     have EB:=aZ.size
     (try simp at EB)
     go_wp2_with fail
     refine hK.out _ _ ?_ (fun hHeld=>?_)
     ·exact ⟨Below.next hHeld.1 aZ hHeld.1.size,cell_later aZ hHeld.2⟩
     clear hK K
     (try go_frame)
     refine wpAnyH_ready (rs:=[4,6]) (by kernel_rfl) (by simp) (rc (by rfl) (fun K hK=>?_) (rc (by rfl) (fun K hK=>?_) AllReadyH.nil))
     ·go_simp
      refine hK.out _ _ ?_ (fun hHeld=>?_)
      ·exact ⟨hHeld.1.alloc hHeld.1.size _,cell_later (aB _ _) hHeld.2⟩
      clear hK K
      (try go_frame)
      refine bQ 6 (by rfl) (by kernel_rfl) (fun K hK=>?_)
      go_simp
      refine hK.out _ _ ?_ (fun hHeld=>?_)
      ·exact ⟨hHeld.1.alloc hHeld.1.size _,cell_later (aB _ _) hHeld.2⟩
      clear hK K
      (try go_frame)
      iterate 1 (refine tk 13 (by rfl) (by kernel_rfl) (by exact fun _ _ _ h=>h) (.inl ⟨by rfl,fun w hS=>by (try dsimp only at hS);go_simp;(try with_reducible rfl)⟩) (by assumption) ?_;try go_frame)
      refine bQ 12 (by rfl) (by kernel_rfl) (fun K hK=>?_)
      go_simp
      refine hK.out _ _ ?_ (fun hHeld=>?_)
      ·exact ⟨hHeld.1.alloc hHeld.1.size _,cell_later (aB _ _) hHeld.2⟩
      clear hK K
      (try go_frame)
      iterate 1 (refine tk 13 (by rfl) (by kernel_rfl) (by exact fun _ _ _ h=>h) (.inl ⟨by rfl,fun w hS=>by (try dsimp only at hS);go_simp;(try with_reducible rfl)⟩) (by assumption) ?_;try go_frame)
      refine wpAnyH_done (by kernel_rfl) ?_ _
      (try go_wp2_with fail)
      go_meet
      case rel =>
       refine ⟨_,_,_,_,rfl,Row.new' (by simp),hHeld.1,?_⟩
       (refine ⟨?_,?_,?_,?_,?_,?_,?_,?_,?_,?_,?_,?_⟩)<;>first|(simp;omega)|omega|(repeat (first|exact Row.new' (by simp)|refine Row.alloc ?_ _|refine Row.old ?_ aZ))
     ·go_simp
      refine hK.out _ _ ?_ (fun hHeld=>?_)
      ·exact ⟨hHeld.1.alloc hHeld.1.size _,cell_later (aB _ _) hHeld.2⟩
      clear hK K
      (try go_frame)
      refine bQ 4 (by rfl) (by kernel_rfl) (fun K hK=>?_)
      go_simp
      refine hK.out _ _ ?_ (fun hHeld=>?_)
      ·exact ⟨hHeld.1.alloc hHeld.1.size _,cell_later (aB _ _) hHeld.2⟩
      clear hK K
      (try go_frame)
      iterate 1 (refine tk 13 (by rfl) (by kernel_rfl) (by exact fun _ _ _ h=>h) (.inl ⟨by rfl,fun w hS=>by (try dsimp only at hS);go_simp;(try with_reducible rfl)⟩) (by assumption) ?_;try go_frame)
      refine bQ 12 (by rfl) (by kernel_rfl) (fun K hK=>?_)
      go_simp
      refine hK.out _ _ ?_ (fun hHeld=>?_)
      ·exact ⟨hHeld.1.alloc hHeld.1.size _,cell_later (aB _ _) hHeld.2⟩
      clear hK K
      (try go_frame)
      iterate 1 (refine tk 13 (by rfl) (by kernel_rfl) (by exact fun _ _ _ h=>h) (.inl ⟨by rfl,fun w hS=>by (try dsimp only at hS);go_simp;(try with_reducible rfl)⟩) (by assumption) ?_;try go_frame)
      refine wpAnyH_done (by kernel_rfl) ?_ _
      (try go_wp2_with fail)
      go_meet
      case rel =>
       refine ⟨_,_,_,_,rfl,Row.new' (by simp),hHeld.1,?_⟩
       (refine ⟨?_,?_,?_,?_,?_,?_,?_,?_,?_,?_,?_,?_⟩)<;>first|(simp;omega)|omega|(repeat (first|exact Row.new' (by simp)|refine Row.alloc ?_ _|refine Row.old ?_ aZ))
    ·go_simp
     refine hK.out _ _ ?_ (fun hHeld=>?_)
     ·exact ⟨hHeld.1.alloc hHeld.1.size _,cell_later (aB _ _) hHeld.2⟩
     clear hK K
     (try go_frame)
     refine bQ 3 (by rfl) (by kernel_rfl) (fun K hK=>?_)
     go_simp
     refine (cL (n:Int) _ (by omega) (by omega)).mono ?_
     rintro e w2 ⟨rfl,aZ⟩
     have EB:=aZ.size
     (try simp at EB)
     go_wp2_with fail
     refine hK.out _ _ ?_ (fun hHeld=>?_)
     ·exact ⟨Below.next hHeld.1 aZ hHeld.1.size,cell_later aZ hHeld.2⟩
     clear hK K
     (try go_frame)
     refine bQ 4 (by rfl) (by kernel_rfl) (fun K hK=>?_)
     go_simp
     refine hK.out _ _ ?_ (fun hHeld=>?_)
     ·exact ⟨hHeld.1.alloc hHeld.1.size _,cell_later (aB _ _) hHeld.2⟩
     clear hK K
     (try go_frame)
     iterate 1 (refine tk 13 (by rfl) (by kernel_rfl) (by exact fun _ _ _ h=>h) (.inl ⟨by rfl,fun w hS=>by (try dsimp only at hS);go_simp;(try with_reducible rfl)⟩) (by assumption) ?_;try go_frame)
     refine bQ 12 (by rfl) (by kernel_rfl) (fun K hK=>?_)
     go_simp
     refine hK.out _ _ ?_ (fun hHeld=>?_)
     ·exact ⟨hHeld.1.alloc hHeld.1.size _,cell_later (aB _ _) hHeld.2⟩
     clear hK K
     (try go_frame)
     iterate 1 (refine tk 13 (by rfl) (by kernel_rfl) (by exact fun _ _ _ h=>h) (.inl ⟨by rfl,fun w hS=>by (try dsimp only at hS);go_simp;(try with_reducible rfl)⟩) (by assumption) ?_;try go_frame)
     refine wpAnyH_done (by kernel_rfl) ?_ _
     (try go_wp2_with fail)
     go_meet
     case rel =>
      refine ⟨_,_,_,_,rfl,Row.new' (by simp),hHeld.1,?_⟩
      (refine ⟨?_,?_,?_,?_,?_,?_,?_,?_,?_,?_,?_,?_⟩)<;>first|(simp;omega)|omega|(repeat (first|exact Row.new' (by simp)|refine Row.alloc ?_ _|refine Row.old ?_ aZ))
  case rest =>
   obtain ⟨bS,aY,aX,bP,rfl,hS,hB,z1,z2,z3,z4,z5,z6,z7,z8,z9,YW,YY,hP⟩:=hcut
   rw [KE _ (eC n) (fun _=>0)] at hP
   first|(have _:Kn 0:=kk;have hI0:int.mA W0 bS aY aX bP n oT ov 0 (fun _=>0) wc:=⟨hS,YW,YY,hP,fun r hr=>absurd hr (by omega),fun r s _ h=>absurd h (by omega),hB⟩)|(have _:Kn 1:=kk;have hI0:list.mA W0 bS aY aX bP n oT ov 0 (fun _=>0) wc:=⟨hS,YW,YY,hP,fun r hr=>absurd hr (by omega),fun r s _ h=>absurd h (by omega),hB⟩)|(have _:Kn 2:=kk;have hI0:tree.mA W0 bS aY aX bP n oT ov 0 (fun _=>0) wc:=⟨hS,YW,YY,hP,fun r hr=>absurd hr (by omega),fun r s _ h=>absurd h (by omega),hB⟩)|(have _:Kn 3:=kk;have hI0:row.mA W0 bS aY aX bP n oT ov 0 (fun _=>0) wc:=⟨hS,YW,YY,hP,fun r hr=>absurd hr (by omega),fun r s _ h=>absurd h (by omega),hB⟩)
   have aKC:=hS.cell_of (i:=4) rfl
   clear hS YW YY hP hB
   go_wp2
   first|(have _:Kn 0:=kk;go_loopw [29] (fun i w'=>∃ k bW,k≤2*n+1∧i = .int .i64 (k:Int)∧int.mA W0 bS aY aX bP n oT ov k bW w') (fun i _=>2*n+1-(intOf i).toNat))|(have _:Kn 1:=kk;go_loopw [29] (fun i w'=>∃ k bW,k≤2*n+1∧i = .int .i64 (k:Int)∧list.mA W0 bS aY aX bP n oT ov k bW w') (fun i _=>2*n+1-(intOf i).toNat))|(have _:Kn 2:=kk;go_loopw [29] (fun i w'=>∃ k bW,k≤2*n+1∧i = .int .i64 (k:Int)∧tree.mA W0 bS aY aX bP n oT ov k bW w') (fun i _=>2*n+1-(intOf i).toNat))|(have _:Kn 3:=kk;go_loopw [29] (fun i w'=>∃ k bW,k≤2*n+1∧i = .int .i64 (k:Int)∧row.mA W0 bS aY aX bP n oT ov k bW w') (fun i _=>2*n+1-(intOf i).toNat))
   case atStart=>exact ⟨0,_,Nat.zero_le _,rfl,hI0⟩
   case round =>
    obtain ⟨k,bW,hk,rfl,hI⟩:=hrel
    by_cases hlt:k<2*n+1
    ·have hlt':(k:Int)<2*(n:Int)+1:=by omega
     have aIr:(k:Int)<(2*n+1:Nat):=by omega
     have hk0:(0:Int)≤(k:Int):=by omega
     have hcS:wr.cell? ⟨bS,4,none⟩=some (.slice (some ⟨bP,0,none⟩) (2*n+1) (2*n+1)):=hI.1.cell_of rfl
     have hcN:wr.cell? ⟨w.heap.size,0,none⟩=some (.int .i64 (n:Int)):=cell_later hI.2.2.2.2.2.2 hc0
     have PV:wr.there bP (k*2) 1:=hI.2.2.2.1.there (by rw [qY];omega)
     have hsz:(Tryz.prog.info? 288).map (·.size)=some 1:=by kernel_rfl
     have EK:bS≠bP:=by omega
     have aF7:w.heap.size≠bP:=by omega
     have HI:=aA hI
     clear hI
     go_wp2
     refine fR (S:=(fun w'=>w'.cell? ⟨bS,4,none⟩=some (.slice (some ⟨bP,0,none⟩) (2*n+1) (2*n+1))∧w'.cell? ⟨w.heap.size,0,none⟩=some (.int .i64 (n:Int))∧w'.there bP (k*2) 1)) 11 rfl (by kernel_rfl) ?_ (fun hHeld=>?_)
     ·exact ⟨hcS,hcN,PV⟩
     iterate 6 (refine tk 10 (by rfl) (by kernel_rfl) (by exact fun _ _ _ h=>h) (.inl ⟨by rfl,fun w hS=>by (try dsimp only at hS);go_simp;(try with_reducible rfl)⟩) (by assumption) ?_;try go_frame)
     refine bQ 6 (by rfl) (by kernel_rfl) (fun K hK=>?_)
     go_simp
     refine (nH (n:Int) _ (by omega) (by omega)).mono ?_
     rintro e w3 ⟨rfl,cE⟩
     go_wp2_with fail
     refine hK.out _ _ ?_ (fun hHeld=>?_)
     ·exact ⟨cell_later cE hHeld.1,cell_later cE hHeld.2.1,aT cE hHeld.2.2⟩
     clear hK K
     (try go_frame)
     refine bQ 7 (by rfl) (by kernel_rfl) (fun K hK=>?_)
     go_simp
     refine hK.out _ _ ?_ (fun hHeld=>?_)
     ·exact ⟨cell_later (aB _ _) hHeld.1,cell_later (aB _ _) hHeld.2.1,World.there_alloc hHeld.2.2 _⟩
     clear hK K
     (try go_frame)
     iterate 2 (refine tk 10 (by rfl) (by kernel_rfl) (by exact fun _ _ _ h=>h) (.inl ⟨by rfl,fun w hS=>by (try dsimp only at hS);go_simp;(try with_reducible rfl)⟩) (by assumption) ?_;try go_frame)
     refine bQ 10 (by rfl) (by kernel_rfl) (fun K hK=>?_)
     rw [if_pos (by rfl)]
     refine aU _ _ _ rfl bP (k*2) _ rfl rfl rfl rfl hHeld.2.2 hsz ?_
     refine hK.out _ _ ?_ (fun hHeld=>?_)
     ·exact ⟨(World.cell?_setCell_far _ _ _ _ (Ne.symm EK)).trans hHeld.1,(World.cell?_setCell_far _ _ _ _ (Ne.symm aF7)).trans hHeld.2.1,cR hHeld.2.2 _ rfl _⟩
     clear hK K
     (try go_frame)
     refine wpAnyH_done (by kernel_rfl) ?_ _
     (try go_wp2_with fail)
     go_roundw
     case rel =>
      rw [Nat.mul_comm k 2]
      first|(have _:Kn 0:=kk;exact ⟨k+1,_,by omega,by go_num,int.mA.next HI.out (Below.bR cE) z3 (by omega) (by omega) (by omega)⟩)|(have _:Kn 1:=kk;exact ⟨k+1,_,by omega,by go_num,list.mA.next HI.out (Below.bR cE) z3 (by omega) (by omega) (by omega)⟩)|(have _:Kn 2:=kk;exact ⟨k+1,_,by omega,by go_num,tree.mA.next HI.out (Below.bR cE) z3 (by omega) (by omega) (by omega)⟩)|(have _:Kn 3:=kk;exact ⟨k+1,_,by omega,by go_num,row.mA.next HI.out (Below.bR cE) z3 (by omega) (by omega) (by omega)⟩)
     case measure=>simp [intOf];omega
    ·have hke:k=2*n+1:=by omega
     subst hke
     have hI':=hI
     clear hI hlt
     have hcP:wr.cell? ⟨bS,4,none⟩=some (.slice (some ⟨bP,0,none⟩) (2*n+1) (2*n+1)):=hI'.1.cell_of rfl
     have HI:=aA hI'
     clear hI'
     have hlt':¬((2*n+1:Nat):Int)<2*(n:Int)+1:=by omega
     go_wp2_with fail
     refine (HF.out _).mono ?_
     rintro e w4 ⟨rfl,cT⟩
     go_wp2_with fail
     generalize yY:World.alloc (World.alloc w4 _) _=W5
     have hI:=HI.out
     have yF:Below w4.heap.size w4 W5:=by rw [←yY];exact ((Below.refl _ _).alloc (Nat.le_refl _) _).alloc (by simp) _
     have aGa:W5.cell? ⟨bS,4,none⟩=some (.slice (some ⟨bP,0,none⟩) (2*n+1) (2*n+1)):=cell_later yF (cell_later cT hcP)
     have aCY:W5.cell? ⟨bP,1,none⟩=some (.pointer none):=cell_later yF (cell_later cT (hI.2.2.2.1.cell_of (MU (j:=0) (by omega))))
     have aGb:W5.frozen? ⟨bP,1,none⟩=false:=((hI.2.2.2.1.old cT).old yF).frozen 1
     obtain ⟨bV,hbV⟩:∃ bV,bV=w4.heap.size+1:=⟨_,rfl⟩
     first|(have _:Kn 0:=kk;have hV:∃ vs,W5=(w4.alloc (.cells [Value.int .i64 0,.slice none 0 0,.pointer none].toArray 306)).alloc (.cells vs.toArray 225)∧vs=[.int .i64 0]++[.pointer (some ⟨w4.heap.size,0,none⟩)]:=⟨_,yY.symm,rfl⟩)|(have _:Kn 1:=kk;have hV:∃ vs,W5=(w4.alloc (.cells [Value.int .i64 0,.slice none 0 0,.pointer none].toArray 306)).alloc (.cells vs.toArray 239)∧vs=[.pointer none]++[.pointer (some ⟨w4.heap.size,0,none⟩)]:=⟨_,yY.symm,rfl⟩)|(have _:Kn 2:=kk;have hV:∃ vs,W5=(w4.alloc (.cells [Value.int .i64 0,.slice none 0 0,.pointer none].toArray 306)).alloc (.cells vs.toArray 267)∧vs=[.pointer none]++[.pointer (some ⟨w4.heap.size,0,none⟩)]:=⟨_,yY.symm,rfl⟩)|(have _:Kn 3:=kk;have hV:∃ vs,W5=(w4.alloc (.cells [Value.int .i64 0,.slice none 0 0,.pointer none].toArray 306)).alloc (.cells vs.toArray 253)∧vs=[.pointer none,.pointer none]++[.pointer (some ⟨w4.heap.size,0,none⟩)]:=⟨_,yY.symm,rfl⟩)
     obtain ⟨vs,hV5,hvs⟩:=hV
     first|(have _:Kn 0:=kk;have hVr:Row W5 bV 225 ([.int .i64 0]++[.pointer (some ⟨w4.heap.size,0,none⟩)]):=by rw [hV5,←hvs,hbV];exact Row.new' (by simp))|(have _:Kn 1:=kk;have hVr:Row W5 bV 239 ([.pointer none]++[.pointer (some ⟨w4.heap.size,0,none⟩)]):=by rw [hV5,←hvs,hbV];exact Row.new' (by simp))|(have _:Kn 2:=kk;have hVr:Row W5 bV 267 ([.pointer none]++[.pointer (some ⟨w4.heap.size,0,none⟩)]):=by rw [hV5,←hvs,hbV];exact Row.new' (by simp))|(have _:Kn 3:=kk;have hVr:Row W5 bV 253 ([.pointer none,.pointer none]++[.pointer (some ⟨w4.heap.size,0,none⟩)]):=by rw [hV5,←hvs,hbV];exact Row.new' (by simp))
     first|(have _:Kn 0:=kk;refine (have hVc:∀ w',Below W5.heap.size W5 w'→w'.cell? ⟨bV,0,none⟩=some (.int .i64 0)∧w'.cell? ⟨bV,1,none⟩=some (.pointer (some ⟨w4.heap.size,0,none⟩)):=?_;?_))|(have _:Kn 1:=kk;refine (have hVc:∀ w',Below W5.heap.size W5 w'→w'.cell? ⟨bV,0,none⟩=some (.pointer none)∧w'.cell? ⟨bV,1,none⟩=some (.pointer (some ⟨w4.heap.size,0,none⟩)):=?_;?_))|(have _:Kn 2:=kk;refine (have hVc:∀ w',Below W5.heap.size W5 w'→w'.cell? ⟨bV,0,none⟩=some (.pointer none)∧w'.cell? ⟨bV,1,none⟩=some (.pointer (some ⟨w4.heap.size,0,none⟩)):=?_;?_))|(have _:Kn 3:=kk;refine (have hVc:∀ w',Below W5.heap.size W5 w'→w'.cell? ⟨bV,0,none⟩=some (.pointer none)∧w'.cell? ⟨bV,1,none⟩=some (.pointer none)∧w'.cell? ⟨bV,2,none⟩=some (.pointer (some ⟨w4.heap.size,0,none⟩)):=?_;?_))
     ·intro w' hw'
      have hq:=hVr.old hw'
      simp only [hq.cell]
      simp
     have HW5:=aA hV5
     clear yY hV5 hI hvs hcP
     have aGc:bP<W5.heap.size:=World.block_lt_of_cell? W5 _ aCY
     have EK:bS≠bP:=by omega
     have aGd:bV≠bP:=by have h7:=(TW HI).2.2.2.1.lt;have h8:=cT.size;omega
     have hpos:(0:Int)<2*(n:Int)+1:=by omega
     rw [←hbV]
     clear hbV
     have hV0:=hVc W5 (Below.refl _ _)
     clear hVc
     first|(have _:Kn 0:=kk;refine fR (S:=(fun w'=>w'.cell? ⟨bS,4,none⟩=some (.slice (some ⟨bP,0,none⟩) (2*n+1) (2*n+1))∧w'.cell? ⟨bV,0,none⟩=some (.int .i64 0)∧w'.cell? ⟨bV,1,none⟩=some (.pointer (some ⟨w4.heap.size,0,none⟩)))) 12 rfl (by kernel_rfl) ?_ (fun hHeld=>?_))|(have _:Kn 1:=kk;refine fR (S:=(fun w'=>w'.cell? ⟨bS,4,none⟩=some (.slice (some ⟨bP,0,none⟩) (2*n+1) (2*n+1))∧w'.cell? ⟨bV,0,none⟩=some (.pointer none)∧w'.cell? ⟨bV,1,none⟩=some (.pointer (some ⟨w4.heap.size,0,none⟩)))) 12 rfl (by kernel_rfl) ?_ (fun hHeld=>?_))|(have _:Kn 2:=kk;refine fR (S:=(fun w'=>w'.cell? ⟨bS,4,none⟩=some (.slice (some ⟨bP,0,none⟩) (2*n+1) (2*n+1))∧w'.cell? ⟨bV,0,none⟩=some (.pointer none)∧w'.cell? ⟨bV,1,none⟩=some (.pointer (some ⟨w4.heap.size,0,none⟩)))) 12 rfl (by kernel_rfl) ?_ (fun hHeld=>?_))|(have _:Kn 3:=kk;refine fR (S:=(fun w'=>w'.cell? ⟨bS,4,none⟩=some (.slice (some ⟨bP,0,none⟩) (2*n+1) (2*n+1))∧w'.cell? ⟨bV,0,none⟩=some (.pointer none)∧w'.cell? ⟨bV,1,none⟩=some (.pointer none)∧w'.cell? ⟨bV,2,none⟩=some (.pointer (some ⟨w4.heap.size,0,none⟩)))) 12 rfl (by kernel_rfl) ?_ (fun hHeld=>?_))
     ·exact ⟨aGa,hV0⟩
     iterate 10 (refine tk 11 (by rfl) (by kernel_rfl) (by exact fun _ _ _ h=>h) (.inl ⟨by rfl,fun w hS=>by (try dsimp only at hS);go_simp;(try with_reducible rfl)⟩) (by assumption) ?_;try go_frame)
     refine bQ 10 (by rfl) (by kernel_rfl) (fun K hK=>?_)
     go_simp
     refine hK.out _ _ ?_ (fun hHeld=>?_)
     ·(repeat' apply And.intro)<;>(first|exact cell_later (aB _ _) hHeld.1|exact cell_later (aB _ _) hHeld.2.1|exact cell_later (aB _ _) hHeld.2.2|exact cell_later (aB _ _) hHeld.2.2.1|exact cell_later (aB _ _) hHeld.2.2.2)
     clear hK K
     (try go_frame)
     refine bQ 11 (by rfl) (by kernel_rfl) (fun K hK=>?_)
     go_simp
     first|(have _:Kn 0:=kk;refine (int.gP bP 1 W5.heap.size (.pointer none) ((int.jG w4.heap.size).getD 0 undef) _ ?_ ?_ ?_).mono ?_)|(have _:Kn 1:=kk;refine (list.gP bP 1 W5.heap.size (.pointer none) ((list.jG w4.heap.size).getD 0 undef) _ ?_ ?_ ?_).mono ?_)|(have _:Kn 2:=kk;refine (tree.gP bP 1 W5.heap.size (.pointer none) ((tree.jG w4.heap.size).getD 0 undef) _ ?_ ?_ ?_).mono ?_)|(have _:Kn 3:=kk;refine (row.gP bP 1 W5.heap.size (.pointer none) ((row.jG w4.heap.size).getD 0 undef) _ ?_ ?_ ?_).mono ?_)
     ·exact cell_later (Below.drew (aB _ _)) aCY
     ·exact ((Below.drew (aB W5 _)).frozen (p:=⟨bP,1,none⟩) aGc).trans aGb
     ·first|(have _:Kn 0:=kk;exact (Row.new' (w:=W5) (xs:=int.jG w4.heap.size) (t:=227) rfl).drew.cell_of rfl)|(have _:Kn 1:=kk;exact (Row.new' (w:=W5) (xs:=list.jG w4.heap.size) (t:=241) rfl).drew.cell_of rfl)|(have _:Kn 2:=kk;exact (Row.new' (w:=W5) (xs:=tree.jG w4.heap.size) (t:=269) rfl).drew.cell_of rfl)|(have _:Kn 3:=kk;exact (Row.new' (w:=W5) (xs:=row.jG w4.heap.size) (t:=255) rfl).drew.cell_of rfl)
     rintro e w6 ⟨rfl,hw6⟩
     have H6:=aA hw6
     clear hw6
     go_wp2_with fail
     refine hK.out _ _ ?_ (fun hHeld=>?_)
     ·(rw [H6.out];(repeat' apply And.intro)<;>(refine (World.cell?_setCell_far _ _ _ _ (by first|exact Ne.symm EK|exact Ne.symm aGd)).trans ?_;first|exact hHeld.1|exact hHeld.2.1|exact hHeld.2.2|exact hHeld.2.2.1|exact hHeld.2.2.2))
     clear hK K
     (try go_frame)
     refine wpAnyH_done (by kernel_rfl) ?_ _
     (try go_wp2_with fail)
     go_ret
     first|(have _:Kn 0:=kk;have UH:=int.mA.done HI.out cT HW5.out H6.out (by omega) (by omega) z3 (by omega) (by omega) (by omega) (by omega) (by omega) (by omega))|(have _:Kn 1:=kk;have UH:=list.mA.done HI.out cT HW5.out H6.out (by omega) (by omega) z3 (by omega) (by omega) (by omega) (by omega) (by omega) (by omega))|(have _:Kn 2:=kk;have UH:=tree.mA.done HI.out cT HW5.out H6.out (by omega) (by omega) z3 (by omega) (by omega) (by omega) (by omega) (by omega) (by omega))|(have _:Kn 3:=kk;have UH:=row.mA.done HI.out cT HW5.out H6.out (by omega) (by omega) z3 (by omega) (by omega) (by omega) (by omega) (by omega) (by omega))
     exact ⟨bS,aY,aX,bP,bW,w4.heap.size,W5.heap.size,rfl,UH.1.base (by omega),hb0.trans (UH.2.mono (by omega))⟩
theorem int.gK:cN:=kN.1
theorem list.gK:cN:=kN.2.1
theorem tree.gK:cN:=kN.2.2.1
theorem row.gK:cN:=kN.2.2.2
end Go.Proofs.YtefjhnhdagolhaaGreat
