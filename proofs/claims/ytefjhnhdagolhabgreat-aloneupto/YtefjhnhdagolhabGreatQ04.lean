import Derived.Test.YtefjhnhdagolhabGreatQ02
import Derived.Test.YtefjhnhdagolhabGreatQ03
set_option maxHeartbeats 16000000
set_option maxRecDepth 20000
namespace Go.Proofs.YtefjhnhdagolhabGreat
open int list tree
open Go.RowKit
attribute [local go_sem ↓] Go.wp_at_zero Go.wp_at_succ
theorem int.EL:(Tryz.prog.info? 299).map (fun i=>(i.zero,i.size,i.bytes))=some (some (.agg #[.int .i64 0]),1,8):=by kernel_rfl
theorem int.JU:(Tryz.prog.info? 300).map (fun i=>(i.zero,i.size,i.bytes))=some (some (.agg #[.int .i64 0,.int .i64 0,.int .i64 0]),3,24):=by kernel_rfl
theorem int.iX:(Tryz.prog.info? 202).map (fun i=>(i.zero,i.size,i.bytes))=some (some (.agg #[.slice none 0 0,.pointer none]),2,32):=by kernel_rfl
theorem list.iX:(Tryz.prog.info? 216).map (fun i=>(i.zero,i.size,i.bytes))=some (some (.agg #[.slice none 0 0,.pointer none]),2,32):=by kernel_rfl
theorem tree.iX:(Tryz.prog.info? 242).map (fun i=>(i.zero,i.size,i.bytes))=some (some (.agg #[.slice none 0 0,.pointer none]),2,32):=by kernel_rfl
theorem row.iX:(Tryz.prog.info? 229).map (fun i=>(i.zero,i.size,i.bytes))=some (some (.agg #[.slice none 0 0,.pointer none]),2,32):=by kernel_rfl
def int.tw (n:Nat):Nat:=(n+15) / 16
def int.eD (n:Nat):Nat:=(n+15) / 16+2*n
def int.lZ (W0:World) (bS aZ aX bP n:Nat) (oT:TypeId) (ov:Value) (k:Nat) (bW:Nat→Nat) (w':World):Prop :=
 Row w' bS 194 [.int .i64 (n:Int),.iface oT ov,.slice (some ⟨aZ,0,none⟩) (tw n) (tw n),.slice (some ⟨aX,0,none⟩) n n,.slice (some ⟨bP,0,none⟩) (2*n+1) (2*n+1),.int .i64 0] ∧
 Row w' aZ 299 (zeros (.int .i64 0) (tw n))∧Row w' aX 300 (zeros (.int .i64 0) (n*3))∧Row w' bP 202 (eW (2*n+1) (eD n) k bW) ∧
 (∀ r,r<k→Row w' (bW r) 299 (zeros (.int .i64 0) (eD n))∧bS<bW r)∧(∀ r s,r<s→s<k→bW r<bW s)∧Below W0.heap.size W0 w'
def list.lZ (W0:World) (bS aZ aX bP n:Nat) (oT:TypeId) (ov:Value) (k:Nat) (bW:Nat→Nat) (w':World):Prop :=
 Row w' bS 208 [.int .i64 (n:Int),.iface oT ov,.slice (some ⟨aZ,0,none⟩) (tw n) (tw n),.slice (some ⟨aX,0,none⟩) n n,.slice (some ⟨bP,0,none⟩) (2*n+1) (2*n+1),.int .i64 0] ∧
 Row w' aZ 299 (zeros (.int .i64 0) (tw n))∧Row w' aX 300 (zeros (.int .i64 0) (n*3))∧Row w' bP 216 (eW (2*n+1) (eD n) k bW) ∧
 (∀ r,r<k→Row w' (bW r) 299 (zeros (.int .i64 0) (eD n))∧bS<bW r)∧(∀ r s,r<s→s<k→bW r<bW s)∧Below W0.heap.size W0 w'
def tree.lZ (W0:World) (bS aZ aX bP n:Nat) (oT:TypeId) (ov:Value) (k:Nat) (bW:Nat→Nat) (w':World):Prop :=
 Row w' bS 234 [.int .i64 (n:Int),.iface oT ov,.slice (some ⟨aZ,0,none⟩) (tw n) (tw n),.slice (some ⟨aX,0,none⟩) n n,.slice (some ⟨bP,0,none⟩) (2*n+1) (2*n+1),.int .i64 0] ∧
 Row w' aZ 299 (zeros (.int .i64 0) (tw n))∧Row w' aX 300 (zeros (.int .i64 0) (n*3))∧Row w' bP 242 (eW (2*n+1) (eD n) k bW) ∧
 (∀ r,r<k→Row w' (bW r) 299 (zeros (.int .i64 0) (eD n))∧bS<bW r)∧(∀ r s,r<s→s<k→bW r<bW s)∧Below W0.heap.size W0 w'
def row.lZ (W0:World) (bS aZ aX bP n:Nat) (oT:TypeId) (ov:Value) (k:Nat) (bW:Nat→Nat) (w':World):Prop :=
 Row w' bS 221 [.int .i64 (n:Int),.iface oT ov,.slice (some ⟨aZ,0,none⟩) (tw n) (tw n),.slice (some ⟨aX,0,none⟩) n n,.slice (some ⟨bP,0,none⟩) (2*n+1) (2*n+1),.int .i64 0] ∧
 Row w' aZ 299 (zeros (.int .i64 0) (tw n))∧Row w' aX 300 (zeros (.int .i64 0) (n*3))∧Row w' bP 229 (eW (2*n+1) (eD n) k bW) ∧
 (∀ r,r<k→Row w' (bW r) 299 (zeros (.int .i64 0) (eD n))∧bS<bW r)∧(∀ r s,r<s→s<k→bW r<bW s)∧Below W0.heap.size W0 w'
def int.lZ.cS:Prop:=∀ {W0:World} {bS aZ aX bP n:Nat} {oT:TypeId} {ov:Value} {k:Nat} {bW:Nat→Nat} {w' w3:World} (_h:lZ W0 bS aZ aX bP n oT ov k bW w') (_hb:Below w'.heap.size w' w3) (_z3:W0.heap.size≤bP) (_z5:aZ≠bP) (_z6:aX≠bP) (_z9:bP<bS),lZ W0 bS aZ aX bP n oT ov (k+1) (fun r=>if r=k then w3.heap.size else bW r) ((w3.alloc (.cells (zeros (.int .i64 0) (eD n)).toArray 299)).setCell ⟨bP,2*k,none⟩ (.slice (some ⟨w3.heap.size,0,none⟩) (eD n) (eD n)))
def list.lZ.cS:Prop:=∀ {W0:World} {bS aZ aX bP n:Nat} {oT:TypeId} {ov:Value} {k:Nat} {bW:Nat→Nat} {w' w3:World} (_h:lZ W0 bS aZ aX bP n oT ov k bW w') (_hb:Below w'.heap.size w' w3) (_z3:W0.heap.size≤bP) (_z5:aZ≠bP) (_z6:aX≠bP) (_z9:bP<bS),lZ W0 bS aZ aX bP n oT ov (k+1) (fun r=>if r=k then w3.heap.size else bW r) ((w3.alloc (.cells (zeros (.int .i64 0) (eD n)).toArray 299)).setCell ⟨bP,2*k,none⟩ (.slice (some ⟨w3.heap.size,0,none⟩) (eD n) (eD n)))
def tree.lZ.cS:Prop:=∀ {W0:World} {bS aZ aX bP n:Nat} {oT:TypeId} {ov:Value} {k:Nat} {bW:Nat→Nat} {w' w3:World} (_h:lZ W0 bS aZ aX bP n oT ov k bW w') (_hb:Below w'.heap.size w' w3) (_z3:W0.heap.size≤bP) (_z5:aZ≠bP) (_z6:aX≠bP) (_z9:bP<bS),lZ W0 bS aZ aX bP n oT ov (k+1) (fun r=>if r=k then w3.heap.size else bW r) ((w3.alloc (.cells (zeros (.int .i64 0) (eD n)).toArray 299)).setCell ⟨bP,2*k,none⟩ (.slice (some ⟨w3.heap.size,0,none⟩) (eD n) (eD n)))
def row.lZ.cS:Prop:=∀ {W0:World} {bS aZ aX bP n:Nat} {oT:TypeId} {ov:Value} {k:Nat} {bW:Nat→Nat} {w' w3:World} (_h:lZ W0 bS aZ aX bP n oT ov k bW w') (_hb:Below w'.heap.size w' w3) (_z3:W0.heap.size≤bP) (_z5:aZ≠bP) (_z6:aX≠bP) (_z9:bP<bS),lZ W0 bS aZ aX bP n oT ov (k+1) (fun r=>if r=k then w3.heap.size else bW r) ((w3.alloc (.cells (zeros (.int .i64 0) (eD n)).toArray 299)).setCell ⟨bP,2*k,none⟩ (.slice (some ⟨w3.heap.size,0,none⟩) (eD n) (eD n)))
open row in
theorem rQ:int.lZ.cS∧list.lZ.cS∧tree.lZ.cS∧row.lZ.cS:=by
 refine ⟨?_,?_,?_,?_⟩<;>intro W0 bS aZ aX bP n oT ov k bW w' w3 h hb z3 z5 z6 z9
 all_goals
  obtain ⟨hS,XM,XN,hP,hW,hI,hB⟩:=h
  have hz:=hb.size
  have hlP:=hP.lt
  have hlS:=hS.lt
  refine ⟨((hS.old hb).alloc _).setOther (by simp;omega) _,((XM.old hb).alloc _).setOther z5 _,((XN.old hb).alloc _).setOther z6 _,?_,?_,?_,?_⟩
  ·rw [←MF];exact ((hP.old hb).alloc _).set _ _
  ·intro r hr
   by_cases e:r=k
   ·subst e
    simp only [if_true]
    exact ⟨(Row.new' rfl).setOther (by simp;omega) _,by omega⟩
   ·simp only [if_neg e]
    obtain ⟨h1,h2⟩:=hW r (by omega)
    exact ⟨((h1.old hb).alloc _).setOther (by simp;omega) _,h2⟩
  ·intro r s h1 h2
   by_cases e:s=k
   ·subst e
    have hr:=(hW r h1).1.lt
    simp only [if_true,if_neg (show ¬r=s by omega)]
    omega
   ·simp only [if_neg e,if_neg (show ¬r=k by omega)]
    exact hI r s h1 (by omega)
  ·exact (Below.alloc (Below.next hB hb hB.size) (Nat.le_trans hB.size hz) _).setCell z3 _
theorem int.lZ.next:cS:=rQ.1
theorem list.lZ.next:cS:=rQ.2.1
theorem tree.lZ.next:cS:=rQ.2.2.1
theorem row.lZ.next:cS:=rQ.2.2.2
def int.iY (bB:Nat):List Value:=[.int .i64 0]++[.pointer (some ⟨bB,0,none⟩)]++[.int .i64 0]++[.pointer (some ⟨bB,0,none⟩)]
def list.iY (bB:Nat):List Value:=[.pointer none]++[.pointer (some ⟨bB,0,none⟩)]++[.pointer none]++[.pointer (some ⟨bB,0,none⟩)]
def tree.iY (bB:Nat):List Value:=[.pointer none]++[.pointer (some ⟨bB,0,none⟩)]++[.pointer none]++[.pointer (some ⟨bB,0,none⟩)]
def row.iY (bB:Nat):List Value:=[.pointer none,.pointer none]++[.pointer (some ⟨bB,0,none⟩)]++[.pointer none,.pointer none]++[.pointer (some ⟨bB,0,none⟩)]
def int.dU (base bS aZ aX bP n:Nat) (oT:TypeId) (ov:Value) (bW:Nat→Nat) (bB bE:Nat) (w':World):Prop :=
 Row w' bS 194 [.int .i64 (n:Int),.iface oT ov,.slice (some ⟨aZ,0,none⟩) (tw n) (tw n),.slice (some ⟨aX,0,none⟩) n n,.slice (some ⟨bP,0,none⟩) (2*n+1) (2*n+1),.int .i64 0] ∧
 Row w' aZ 299 (zeros (.int .i64 0) (tw n))∧Row w' aX 300 (zeros (.int .i64 0) (n*3))∧Row w' bP 202 ((eW (2*n+1) (eD n) (2*n+1) bW).set 1 (.pointer (some ⟨bE,0,none⟩))) ∧
 (∀ r,r<2*n+1→Row w' (bW r) 299 (zeros (.int .i64 0) (eD n))∧bS<bW r∧bW r<bB)∧(∀ r s,r<s→s<2*n+1→bW r<bW s) ∧
 Row w' bB 204 [.int .i64 0,.slice none 0 0,.pointer none]∧Row w' bE 122 (iY bB) ∧
 base≤aZ∧base≤aX∧base≤bP∧aZ≠aX∧aZ≠bP∧aX≠bP∧aZ<bS∧aX<bS∧bP<bS∧bB<bE
def list.dU (base bS aZ aX bP n:Nat) (oT:TypeId) (ov:Value) (bW:Nat→Nat) (bB bE:Nat) (w':World):Prop :=
 Row w' bS 208 [.int .i64 (n:Int),.iface oT ov,.slice (some ⟨aZ,0,none⟩) (tw n) (tw n),.slice (some ⟨aX,0,none⟩) n n,.slice (some ⟨bP,0,none⟩) (2*n+1) (2*n+1),.int .i64 0] ∧
 Row w' aZ 299 (zeros (.int .i64 0) (tw n))∧Row w' aX 300 (zeros (.int .i64 0) (n*3))∧Row w' bP 216 ((eW (2*n+1) (eD n) (2*n+1) bW).set 1 (.pointer (some ⟨bE,0,none⟩))) ∧
 (∀ r,r<2*n+1→Row w' (bW r) 299 (zeros (.int .i64 0) (eD n))∧bS<bW r∧bW r<bB)∧(∀ r s,r<s→s<2*n+1→bW r<bW s) ∧
 Row w' bB 204 [.int .i64 0,.slice none 0 0,.pointer none]∧Row w' bE 136 (iY bB) ∧
 base≤aZ∧base≤aX∧base≤bP∧aZ≠aX∧aZ≠bP∧aX≠bP∧aZ<bS∧aX<bS∧bP<bS∧bB<bE
def tree.dU (base bS aZ aX bP n:Nat) (oT:TypeId) (ov:Value) (bW:Nat→Nat) (bB bE:Nat) (w':World):Prop :=
 Row w' bS 234 [.int .i64 (n:Int),.iface oT ov,.slice (some ⟨aZ,0,none⟩) (tw n) (tw n),.slice (some ⟨aX,0,none⟩) n n,.slice (some ⟨bP,0,none⟩) (2*n+1) (2*n+1),.int .i64 0] ∧
 Row w' aZ 299 (zeros (.int .i64 0) (tw n))∧Row w' aX 300 (zeros (.int .i64 0) (n*3))∧Row w' bP 242 ((eW (2*n+1) (eD n) (2*n+1) bW).set 1 (.pointer (some ⟨bE,0,none⟩))) ∧
 (∀ r,r<2*n+1→Row w' (bW r) 299 (zeros (.int .i64 0) (eD n))∧bS<bW r∧bW r<bB)∧(∀ r s,r<s→s<2*n+1→bW r<bW s) ∧
 Row w' bB 204 [.int .i64 0,.slice none 0 0,.pointer none]∧Row w' bE 164 (iY bB) ∧
 base≤aZ∧base≤aX∧base≤bP∧aZ≠aX∧aZ≠bP∧aX≠bP∧aZ<bS∧aX<bS∧bP<bS∧bB<bE
def row.dU (base bS aZ aX bP n:Nat) (oT:TypeId) (ov:Value) (bW:Nat→Nat) (bB bE:Nat) (w':World):Prop :=
 Row w' bS 221 [.int .i64 (n:Int),.iface oT ov,.slice (some ⟨aZ,0,none⟩) (tw n) (tw n),.slice (some ⟨aX,0,none⟩) n n,.slice (some ⟨bP,0,none⟩) (2*n+1) (2*n+1),.int .i64 0] ∧
 Row w' aZ 299 (zeros (.int .i64 0) (tw n))∧Row w' aX 300 (zeros (.int .i64 0) (n*3))∧Row w' bP 229 ((eW (2*n+1) (eD n) (2*n+1) bW).set 1 (.pointer (some ⟨bE,0,none⟩))) ∧
 (∀ r,r<2*n+1→Row w' (bW r) 299 (zeros (.int .i64 0) (eD n))∧bS<bW r∧bW r<bB)∧(∀ r s,r<s→s<2*n+1→bW r<bW s) ∧
 Row w' bB 204 [.int .i64 0,.slice none 0 0,.pointer none]∧Row w' bE 150 (iY bB) ∧
 base≤aZ∧base≤aX∧base≤bP∧aZ≠aX∧aZ≠bP∧aX≠bP∧aZ<bS∧aX<bS∧bP<bS∧bB<bE
theorem int.dU.base {base base' bS aZ aX bP n:Nat} {oT:TypeId} {ov:Value} {bW:Nat→Nat} {bB bE:Nat} {w':World} (h:dU base bS aZ aX bP n oT ov bW bB bE w') (hb:base'≤base):dU base' bS aZ aX bP n oT ov bW bB bE w':=by
 obtain ⟨a1,a2,a3,a4,a5,a6,a7,a8,z1,z2,z3,z⟩:=h
 exact ⟨a1,a2,a3,a4,a5,a6,a7,a8,by omega,by omega,by omega,z⟩
theorem list.dU.base {base base' bS aZ aX bP n:Nat} {oT:TypeId} {ov:Value} {bW:Nat→Nat} {bB bE:Nat} {w':World} (h:dU base bS aZ aX bP n oT ov bW bB bE w') (hb:base'≤base):dU base' bS aZ aX bP n oT ov bW bB bE w':=by
 obtain ⟨a1,a2,a3,a4,a5,a6,a7,a8,z1,z2,z3,z⟩:=h
 exact ⟨a1,a2,a3,a4,a5,a6,a7,a8,by omega,by omega,by omega,z⟩
theorem tree.dU.base {base base' bS aZ aX bP n:Nat} {oT:TypeId} {ov:Value} {bW:Nat→Nat} {bB bE:Nat} {w':World} (h:dU base bS aZ aX bP n oT ov bW bB bE w') (hb:base'≤base):dU base' bS aZ aX bP n oT ov bW bB bE w':=by
 obtain ⟨a1,a2,a3,a4,a5,a6,a7,a8,z1,z2,z3,z⟩:=h
 exact ⟨a1,a2,a3,a4,a5,a6,a7,a8,by omega,by omega,by omega,z⟩
theorem row.dU.base {base base' bS aZ aX bP n:Nat} {oT:TypeId} {ov:Value} {bW:Nat→Nat} {bB bE:Nat} {w':World} (h:dU base bS aZ aX bP n oT ov bW bB bE w') (hb:base'≤base):dU base' bS aZ aX bP n oT ov bW bB bE w':=by
 obtain ⟨a1,a2,a3,a4,a5,a6,a7,a8,z1,z2,z3,z⟩:=h
 exact ⟨a1,a2,a3,a4,a5,a6,a7,a8,by omega,by omega,by omega,z⟩
def int.lZ.oN:Prop:=∀ {W0:World} {bS aZ aX bP n:Nat} {oT:TypeId} {ov:Value} {bW:Nat→Nat} {wr w4 W5 w6:World} {vs:List Value} (_h:lZ W0 bS aZ aX bP n oT ov (2*n+1) bW wr) (_hb4:Below wr.heap.size wr w4) (_h5:W5=(w4.alloc (.cells [Value.int .i64 0,.slice none 0 0,.pointer none].toArray 204)).alloc (.cells vs.toArray 120)) (_h6:w6=(W5.alloc (.cells (iY w4.heap.size).toArray 122)).drew.setCell ⟨bP,1,none⟩ (.pointer (some ⟨W5.heap.size,0,none⟩))) (_z1:W0.heap.size≤aZ) (_z2:W0.heap.size≤aX) (_z3:W0.heap.size≤bP) (_z4:aZ≠aX) (_z5:aZ≠bP) (_z6:aX≠bP) (_z7:aZ<bS) (_z8:aX<bS) (_z9:bP<bS),dU W0.heap.size bS aZ aX bP n oT ov bW w4.heap.size W5.heap.size w6∧Below W0.heap.size W0 w6
def list.lZ.oN:Prop:=∀ {W0:World} {bS aZ aX bP n:Nat} {oT:TypeId} {ov:Value} {bW:Nat→Nat} {wr w4 W5 w6:World} {vs:List Value} (_h:lZ W0 bS aZ aX bP n oT ov (2*n+1) bW wr) (_hb4:Below wr.heap.size wr w4) (_h5:W5=(w4.alloc (.cells [Value.int .i64 0,.slice none 0 0,.pointer none].toArray 204)).alloc (.cells vs.toArray 134)) (_h6:w6=(W5.alloc (.cells (iY w4.heap.size).toArray 136)).drew.setCell ⟨bP,1,none⟩ (.pointer (some ⟨W5.heap.size,0,none⟩))) (_z1:W0.heap.size≤aZ) (_z2:W0.heap.size≤aX) (_z3:W0.heap.size≤bP) (_z4:aZ≠aX) (_z5:aZ≠bP) (_z6:aX≠bP) (_z7:aZ<bS) (_z8:aX<bS) (_z9:bP<bS),dU W0.heap.size bS aZ aX bP n oT ov bW w4.heap.size W5.heap.size w6∧Below W0.heap.size W0 w6
def tree.lZ.oN:Prop:=∀ {W0:World} {bS aZ aX bP n:Nat} {oT:TypeId} {ov:Value} {bW:Nat→Nat} {wr w4 W5 w6:World} {vs:List Value} (_h:lZ W0 bS aZ aX bP n oT ov (2*n+1) bW wr) (_hb4:Below wr.heap.size wr w4) (_h5:W5=(w4.alloc (.cells [Value.int .i64 0,.slice none 0 0,.pointer none].toArray 204)).alloc (.cells vs.toArray 162)) (_h6:w6=(W5.alloc (.cells (iY w4.heap.size).toArray 164)).drew.setCell ⟨bP,1,none⟩ (.pointer (some ⟨W5.heap.size,0,none⟩))) (_z1:W0.heap.size≤aZ) (_z2:W0.heap.size≤aX) (_z3:W0.heap.size≤bP) (_z4:aZ≠aX) (_z5:aZ≠bP) (_z6:aX≠bP) (_z7:aZ<bS) (_z8:aX<bS) (_z9:bP<bS),dU W0.heap.size bS aZ aX bP n oT ov bW w4.heap.size W5.heap.size w6∧Below W0.heap.size W0 w6
def row.lZ.oN:Prop:=∀ {W0:World} {bS aZ aX bP n:Nat} {oT:TypeId} {ov:Value} {bW:Nat→Nat} {wr w4 W5 w6:World} {vs:List Value} (_h:lZ W0 bS aZ aX bP n oT ov (2*n+1) bW wr) (_hb4:Below wr.heap.size wr w4) (_h5:W5=(w4.alloc (.cells [Value.int .i64 0,.slice none 0 0,.pointer none].toArray 204)).alloc (.cells vs.toArray 148)) (_h6:w6=(W5.alloc (.cells (iY w4.heap.size).toArray 150)).drew.setCell ⟨bP,1,none⟩ (.pointer (some ⟨W5.heap.size,0,none⟩))) (_z1:W0.heap.size≤aZ) (_z2:W0.heap.size≤aX) (_z3:W0.heap.size≤bP) (_z4:aZ≠aX) (_z5:aZ≠bP) (_z6:aX≠bP) (_z7:aZ<bS) (_z8:aX<bS) (_z9:bP<bS),dU W0.heap.size bS aZ aX bP n oT ov bW w4.heap.size W5.heap.size w6∧Below W0.heap.size W0 w6
open row in
theorem rS:int.lZ.oN∧list.lZ.oN∧tree.lZ.oN∧row.lZ.oN:=by
 refine ⟨?_,?_,?_,?_⟩<;>intro W0 bS aZ aX bP n oT ov bW wr w4 W5 w6 vs h cR h5 h6 z1 z2 z3 z4 z5 z6 z7 z8 z9
 all_goals
  obtain ⟨hS,XM,XN,hP,hW,hI,hB⟩:=h
  have hz:=cR.size
  have hlP:=hP.lt
  have hlS:=hS.lt
  have hs5:W5.heap.size=w4.heap.size+2:=by rw [h5];simp
  have zP:Below w4.heap.size w4 W5:=by rw [h5];exact ((Below.refl _ _).alloc (Nat.le_refl _) _).alloc (by simp) _
  have BH:Row W5 w4.heap.size 204 [.int .i64 0,.slice none 0 0,.pointer none]:=by rw [h5];exact (Row.new' rfl).alloc _
  have old:∀ {g:Nat} {t:TypeId} {xs:List Value},Row wr g t xs→g≠bP→Row w6 g t xs:=fun {g t xs} hr hne=>by
   rw [h6];exact Row.setOther (a:=⟨bP,1,none⟩) (Row.alloc ((hr.old cR).old zP) _).drew hne _
  refine ⟨⟨old hS (by omega),old XM z5,old XN z6,?_,?_,hI,?_,?_,z1,z2,z3,z4,z5,z6,z7,z8,z9,by omega⟩,?_⟩
  ·rw [h6];exact (Row.alloc ((hP.old cR).old zP) _).drew.set _ _
  ·intro r hr
   obtain ⟨h1,h2⟩:=hW r hr
   have:=h1.lt
   exact ⟨old h1 (by omega),h2,by omega⟩
  ·rw [h6];exact Row.setOther (a:=⟨bP,1,none⟩) (Row.alloc BH _).drew (by simp;omega) _
  ·rw [h6];exact Row.setOther (a:=⟨bP,1,none⟩) (Row.new' (w:=W5) rfl).drew (by simp;omega) _
  ·rw [h6]
   have hq:Below W0.heap.size W0 W5:=Below.next (Below.next hB cR hB.size) zP (Nat.le_trans hB.size hz)
   exact (Below.alloc hq hq.size _).drew.setCell z3 _
theorem int.lZ.done:oN:=rS.1
theorem list.lZ.done:oN:=rS.2.1
theorem tree.lZ.done:oN:=rS.2.2.1
theorem row.lZ.done:oN:=rS.2.2.2
def int.cM:Prop:=∀ (oT:TypeId) (ov:Value) (fF:Nat) (rv:Value) (_hm:∀ w,(method 466 oT ov "First").run Tryz.prog w = .ok (fF,rv) w) (_vL:∀ w,(callFunc fF #[rv]).run Tryz.prog w = .ok (.enter fF #[rv]) w) (_hF:∀ w,Calls Tryz.prog fF #[rv] w fun e w'=>e = .returned (.int .i64 0)∧Below w.heap.size w w') (n:Nat) (w:World) (_MM:1≤n) (_MN:n≤64),Calls Tryz.prog 35 #[.iface oT ov,.int .i64 (n:Int)] w fun e w'=>∃ bS aZ aX bP bW bB bE,e = .returned (.pointer (some ⟨bS,0,none⟩))∧dU w.heap.size bS aZ aX bP n oT ov bW bB bE w'∧Below w.heap.size w w'
def list.cM:Prop:=∀ (oT:TypeId) (ov:Value) (fF:Nat) (rv:Value) (_hm:∀ w,(method 466 oT ov "First").run Tryz.prog w = .ok (fF,rv) w) (_vL:∀ w,(callFunc fF #[rv]).run Tryz.prog w = .ok (.enter fF #[rv]) w) (_hF:∀ w,Calls Tryz.prog fF #[rv] w fun e w'=>e = .returned (.pointer none)∧Below w.heap.size w w') (n:Nat) (w:World) (_MM:1≤n) (_MN:n≤64),Calls Tryz.prog 37 #[.iface oT ov,.int .i64 (n:Int)] w fun e w'=>∃ bS aZ aX bP bW bB bE,e = .returned (.pointer (some ⟨bS,0,none⟩))∧dU w.heap.size bS aZ aX bP n oT ov bW bB bE w'∧Below w.heap.size w w'
def tree.cM:Prop:=∀ (oT:TypeId) (ov:Value) (fF:Nat) (rv:Value) (_hm:∀ w,(method 466 oT ov "First").run Tryz.prog w = .ok (fF,rv) w) (_vL:∀ w,(callFunc fF #[rv]).run Tryz.prog w = .ok (.enter fF #[rv]) w) (_hF:∀ w,Calls Tryz.prog fF #[rv] w fun e w'=>e = .returned (.pointer none)∧Below w.heap.size w w') (n:Nat) (w:World) (_MM:1≤n) (_MN:n≤64),Calls Tryz.prog 41 #[.iface oT ov,.int .i64 (n:Int)] w fun e w'=>∃ bS aZ aX bP bW bB bE,e = .returned (.pointer (some ⟨bS,0,none⟩))∧dU w.heap.size bS aZ aX bP n oT ov bW bB bE w'∧Below w.heap.size w w'
def row.cM:Prop:=∀ (oT:TypeId) (ov:Value) (fF:Nat) (rv:Value) (_hm:∀ w,(method 466 oT ov "First").run Tryz.prog w = .ok (fF,rv) w) (_vL:∀ w,(callFunc fF #[rv]).run Tryz.prog w = .ok (.enter fF #[rv]) w) (_hF:∀ w,Calls Tryz.prog fF #[rv] w fun e w'=>e = .returned (.agg #[.pointer none,.pointer none])∧Below w.heap.size w w') (n:Nat) (w:World) (_MM:1≤n) (_MN:n≤64),Calls Tryz.prog 39 #[.iface oT ov,.int .i64 (n:Int)] w fun e w'=>∃ bS aZ aX bP bW bB bE,e = .returned (.pointer (some ⟨bS,0,none⟩))∧dU w.heap.size bS aZ aX bP n oT ov bW bB bE w'∧Below w.heap.size w w'
open row in
theorem kK:int.cM∧list.cM∧tree.cM∧row.cM:=by
 refine ⟨@mkK _ 0 ?_,@mkK _ 1 ?_,@mkK _ 2 ?_,@mkK _ 3 ?_⟩<;>intro kk oT ov fF rv hm eE hF n w _h0 _h1
 all_goals
  have aEM:=iJ (P:=Tryz.prog) 185 299 (.agg #[.int .i64 0]) 1 8 [.int .i64 0] Tryz.underlying185 EL rfl (by decide) (((n:Int)+15) / 16) (tw n) (by unfold tw;omega) (by unfold tw;omega) (by unfold tw;omega)
  have aEN:=iJ (P:=Tryz.prog) 185 299 (.agg #[.int .i64 0]) 1 8 [.int .i64 0] Tryz.underlying185 EL rfl (by decide) (((n:Int)+15) / 16+2*(n:Int)) (eD n) (by unfold eD;omega) (by unfold eD;omega) (by unfold eD;omega)
  have aEO:=iJ (P:=Tryz.prog) 187 300 (.agg #[.int .i64 0,.int .i64 0,.int .i64 0]) 3 24 [.int .i64 0,.int .i64 0,.int .i64 0] Tryz.underlying187 JU rfl (by decide) (n:Int) n (by omega) (by omega) (by omega)
  first|(have _:Kn 0:=kk;have aAh:=iJ (P:=Tryz.prog) 188 202 (.agg #[.slice none 0 0,.pointer none]) 2 32 [.slice none 0 0,.pointer none] Tryz.underlying188 int.iX rfl (by decide) (2*(n:Int)+1) (2*n+1) (by omega) (by omega) (by omega))|(have _:Kn 1:=kk;have aAh:=iJ (P:=Tryz.prog) 206 216 (.agg #[.slice none 0 0,.pointer none]) 2 32 [.slice none 0 0,.pointer none] Tryz.underlying206 list.iX rfl (by decide) (2*(n:Int)+1) (2*n+1) (by omega) (by omega) (by omega))|(have _:Kn 2:=kk;have aAh:=iJ (P:=Tryz.prog) 232 242 (.agg #[.slice none 0 0,.pointer none]) 2 32 [.slice none 0 0,.pointer none] Tryz.underlying232 tree.iX rfl (by decide) (2*(n:Int)+1) (2*n+1) (by omega) (by omega) (by omega))|(have _:Kn 3:=kk;have aAh:=iJ (P:=Tryz.prog) 219 229 (.agg #[.slice none 0 0,.pointer none]) 2 32 [.slice none 0 0,.pointer none] Tryz.underlying219 row.iX rfl (by decide) (2*(n:Int)+1) (2*n+1) (by omega) (by omega) (by omega))
  rw [XJ] at aEM aEN
  rw [QD] at aEO
  have hw1:IntKind.i64.wrap (2*(n:Int))=2*(n:Int):=dR _ (by omega) (by omega)
  have XL:IntKind.i64.wrap (2*(n:Int)+1)=2*(n:Int)+1:=dR _ (by omega) (by omega)
  have HF:=aA hF
  clear hF
  first|(have _:Kn 0:=kk;go_enter Tryz.func35,Tryz.ntmps35)|(have _:Kn 1:=kk;go_enter Tryz.func37,Tryz.ntmps37)|(have _:Kn 2:=kk;go_enter Tryz.func41,Tryz.ntmps41)|(have _:Kn 3:=kk;go_enter Tryz.func39,Tryz.ntmps39)
  go_wp2
  generalize xH:World.alloc w _=W0
  have hb0:Below w.heap.size w W0:=by rw [←xH];exact aB w _
  have hs0:w.heap.size<W0.heap.size:=by rw [←xH];simp
  have hc0:W0.cell? ⟨w.heap.size,0,none⟩=some (.int .i64 (n:Int)):=by rw [←xH];exact (Row.new w [_] 184).cell_of rfl
  clear xH
  first
   |have _:Kn 0:=kk
    go_cut [6] (fun s w'=>∃ bS aZ aX bP,s = .pointer (some ⟨bS,0,none⟩) ∧
     Row w' bS 194 [.int .i64 (n:Int),.iface oT ov,.slice (some ⟨aZ,0,none⟩) (tw n) (tw n),.slice (some ⟨aX,0,none⟩) n n,.slice (some ⟨bP,0,none⟩) (2*n+1) (2*n+1),.int .i64 0] ∧
     Below W0.heap.size W0 w'∧W0.heap.size≤aZ∧W0.heap.size≤aX∧W0.heap.size≤bP∧aZ≠aX∧aZ≠bP∧aX≠bP∧aZ<bS∧aX<bS∧bP<bS ∧
     Row w' aZ 299 (zeros (.int .i64 0) (tw n))∧Row w' aX 300 (zeros (.int .i64 0) (n*3))∧Row w' bP 202 (rep [.slice none 0 0,.pointer none] ((2*n+1)*2)))
   |have _:Kn 1:=kk
    go_cut [6] (fun s w'=>∃ bS aZ aX bP,s = .pointer (some ⟨bS,0,none⟩) ∧
     Row w' bS 208 [.int .i64 (n:Int),.iface oT ov,.slice (some ⟨aZ,0,none⟩) (tw n) (tw n),.slice (some ⟨aX,0,none⟩) n n,.slice (some ⟨bP,0,none⟩) (2*n+1) (2*n+1),.int .i64 0] ∧
     Below W0.heap.size W0 w'∧W0.heap.size≤aZ∧W0.heap.size≤aX∧W0.heap.size≤bP∧aZ≠aX∧aZ≠bP∧aX≠bP∧aZ<bS∧aX<bS∧bP<bS ∧
     Row w' aZ 299 (zeros (.int .i64 0) (tw n))∧Row w' aX 300 (zeros (.int .i64 0) (n*3))∧Row w' bP 216 (rep [.slice none 0 0,.pointer none] ((2*n+1)*2)))
   |have _:Kn 2:=kk
    go_cut [6] (fun s w'=>∃ bS aZ aX bP,s = .pointer (some ⟨bS,0,none⟩) ∧
     Row w' bS 234 [.int .i64 (n:Int),.iface oT ov,.slice (some ⟨aZ,0,none⟩) (tw n) (tw n),.slice (some ⟨aX,0,none⟩) n n,.slice (some ⟨bP,0,none⟩) (2*n+1) (2*n+1),.int .i64 0] ∧
     Below W0.heap.size W0 w'∧W0.heap.size≤aZ∧W0.heap.size≤aX∧W0.heap.size≤bP∧aZ≠aX∧aZ≠bP∧aX≠bP∧aZ<bS∧aX<bS∧bP<bS ∧
     Row w' aZ 299 (zeros (.int .i64 0) (tw n))∧Row w' aX 300 (zeros (.int .i64 0) (n*3))∧Row w' bP 242 (rep [.slice none 0 0,.pointer none] ((2*n+1)*2)))
   |have _:Kn 3:=kk
    go_cut [6] (fun s w'=>∃ bS aZ aX bP,s = .pointer (some ⟨bS,0,none⟩) ∧
     Row w' bS 221 [.int .i64 (n:Int),.iface oT ov,.slice (some ⟨aZ,0,none⟩) (tw n) (tw n),.slice (some ⟨aX,0,none⟩) n n,.slice (some ⟨bP,0,none⟩) (2*n+1) (2*n+1),.int .i64 0] ∧
     Below W0.heap.size W0 w'∧W0.heap.size≤aZ∧W0.heap.size≤aX∧W0.heap.size≤bP∧aZ≠aX∧aZ≠bP∧aX≠bP∧aZ<bS∧aX<bS∧bP<bS ∧
     Row w' aZ 299 (zeros (.int .i64 0) (tw n))∧Row w' aX 300 (zeros (.int .i64 0) (n*3))∧Row w' bP 229 (rep [.slice none 0 0,.pointer none] ((2*n+1)*2)))
  case first =>
   refine fQ (S:=(fun w'=>Below W0.heap.size W0 w'∧w'.cell? ⟨w.heap.size,0,none⟩=some (.int .i64 (n:Int)))) 14 rfl (by kernel_rfl) ?_ (fun hHeld=>?_)
   ·exact ⟨Below.drew (Below.refl _ _),hc0⟩
   iterate 3 (refine tk 13 (by rfl) (by kernel_rfl) (by exact fun _ _ _ h=>h) (.inl ⟨by rfl,fun w hS=>by (try dsimp only at hS);go_simp;(try with_reducible rfl)⟩) (by assumption) ?_;try go_frame)
   iterate 1 (refine tk 15 (by rfl) (by kernel_rfl) (by exact fun _ _ _ h=>h) (.inl ⟨by rfl,fun w hS=>by (try dsimp only at hS);go_simp;(try with_reducible rfl)⟩) (by assumption) ?_;try go_frame)
   iterate 3 (refine tk 16 (by rfl) (by kernel_rfl) (by exact fun _ _ _ h=>h) (.inl ⟨by rfl,fun w hS=>by (try dsimp only at hS);go_simp;(try with_reducible rfl)⟩) (by assumption) ?_;try go_frame)
   refine wpAnyH_ready (rs:=[3,6,10]) (by kernel_rfl) (by simp) (rc (by rfl) (fun K hK=>?_) (rc (by rfl) (fun K hK=>?_) (rc (by rfl) (fun K hK=>?_) AllReadyH.nil)))
   ·go_simp
    refine (cX (n:Int) _ (by omega) (by omega)).mono ?_
    rintro e w2 ⟨rfl,bA⟩
    have JJ:=bA.size
    (try simp at JJ)
    go_wp2_with fail
    refine hK.out _ _ ?_ (fun hHeld=>?_)
    ·exact ⟨Below.next hHeld.1 bA hHeld.1.size,cell_later bA hHeld.2⟩
    clear hK K
    (try go_frame)
    refine wpAnyH_ready (rs:=[4,6,10]) (by kernel_rfl) (by simp) (rc (by rfl) (fun K hK=>?_) (rc (by rfl) (fun K hK=>?_) (rc (by rfl) (fun K hK=>?_) AllReadyH.nil)))
    ·go_simp
     refine hK.out _ _ ?_ (fun hHeld=>?_)
     ·exact ⟨hHeld.1.alloc hHeld.1.size _,cell_later (aB _ _) hHeld.2⟩
     clear hK K
     (try go_frame)
     refine wpAnyH_ready (rs:=[6,10]) (by kernel_rfl) (by simp) (rc (by rfl) (fun K hK=>?_) (rc (by rfl) (fun K hK=>?_) AllReadyH.nil))
     ·go_simp
      refine hK.out _ _ ?_ (fun hHeld=>?_)
      ·exact ⟨hHeld.1.alloc hHeld.1.size _,cell_later (aB _ _) hHeld.2⟩
      clear hK K
      (try go_frame)
      refine bK 10 (by rfl) (by kernel_rfl) (fun K hK=>?_)
      go_simp
      refine hK.out _ _ ?_ (fun hHeld=>?_)
      ·exact ⟨hHeld.1.alloc hHeld.1.size _,cell_later (aB _ _) hHeld.2⟩
      clear hK K
      (try go_frame)
      iterate 1 (refine tk 13 (by rfl) (by kernel_rfl) (by exact fun _ _ _ h=>h) (.inl ⟨by rfl,fun w hS=>by (try dsimp only at hS);go_simp;(try with_reducible rfl)⟩) (by assumption) ?_;try go_frame)
      refine bK 12 (by rfl) (by kernel_rfl) (fun K hK=>?_)
      go_simp
      refine hK.out _ _ ?_ (fun hHeld=>?_)
      ·exact ⟨hHeld.1.alloc hHeld.1.size _,cell_later (aB _ _) hHeld.2⟩
      clear hK K
      (try go_frame)
      iterate 1 (refine tk 13 (by rfl) (by kernel_rfl) (by exact fun _ _ _ h=>h) (.inl ⟨by rfl,fun w hS=>by (try dsimp only at hS);go_simp;(try with_reducible rfl)⟩) (by assumption) ?_;try go_frame)
      refine wpAnyH_done (by kernel_rfl) ?_ _
      (try go_wp2_with fail)
      go_meet
      case rel =>
       refine ⟨_,_,_,_,rfl,Row.new' (by simp),hHeld.1,?_⟩
       (refine ⟨?_,?_,?_,?_,?_,?_,?_,?_,?_,?_,?_,?_⟩)<;>first|(simp;omega)|omega|(repeat (first|exact Row.new' (by simp)|refine Row.alloc ?_ _|refine Row.old ?_ bA))
     ·go_simp
      refine hK.out _ _ ?_ (fun hHeld=>?_)
      ·exact ⟨hHeld.1.alloc hHeld.1.size _,cell_later (aB _ _) hHeld.2⟩
      clear hK K
      (try go_frame)
      refine bK 6 (by rfl) (by kernel_rfl) (fun K hK=>?_)
      go_simp
      refine hK.out _ _ ?_ (fun hHeld=>?_)
      ·exact ⟨hHeld.1.alloc hHeld.1.size _,cell_later (aB _ _) hHeld.2⟩
      clear hK K
      (try go_frame)
      iterate 1 (refine tk 13 (by rfl) (by kernel_rfl) (by exact fun _ _ _ h=>h) (.inl ⟨by rfl,fun w hS=>by (try dsimp only at hS);go_simp;(try with_reducible rfl)⟩) (by assumption) ?_;try go_frame)
      refine bK 12 (by rfl) (by kernel_rfl) (fun K hK=>?_)
      go_simp
      refine hK.out _ _ ?_ (fun hHeld=>?_)
      ·exact ⟨hHeld.1.alloc hHeld.1.size _,cell_later (aB _ _) hHeld.2⟩
      clear hK K
      (try go_frame)
      iterate 1 (refine tk 13 (by rfl) (by kernel_rfl) (by exact fun _ _ _ h=>h) (.inl ⟨by rfl,fun w hS=>by (try dsimp only at hS);go_simp;(try with_reducible rfl)⟩) (by assumption) ?_;try go_frame)
      refine wpAnyH_done (by kernel_rfl) ?_ _
      (try go_wp2_with fail)
      go_meet
      case rel =>
       refine ⟨_,_,_,_,rfl,Row.new' (by simp),hHeld.1,?_⟩
       (refine ⟨?_,?_,?_,?_,?_,?_,?_,?_,?_,?_,?_,?_⟩)<;>first|(simp;omega)|omega|(repeat (first|exact Row.new' (by simp)|refine Row.alloc ?_ _|refine Row.old ?_ bA))
    ·go_simp
     refine hK.out _ _ ?_ (fun hHeld=>?_)
     ·exact ⟨hHeld.1.alloc hHeld.1.size _,cell_later (aB _ _) hHeld.2⟩
     clear hK K
     (try go_frame)
     refine wpAnyH_ready (rs:=[4,10]) (by kernel_rfl) (by simp) (rc (by rfl) (fun K hK=>?_) (rc (by rfl) (fun K hK=>?_) AllReadyH.nil))
     ·go_simp
      refine hK.out _ _ ?_ (fun hHeld=>?_)
      ·exact ⟨hHeld.1.alloc hHeld.1.size _,cell_later (aB _ _) hHeld.2⟩
      clear hK K
      (try go_frame)
      refine bK 10 (by rfl) (by kernel_rfl) (fun K hK=>?_)
      go_simp
      refine hK.out _ _ ?_ (fun hHeld=>?_)
      ·exact ⟨hHeld.1.alloc hHeld.1.size _,cell_later (aB _ _) hHeld.2⟩
      clear hK K
      (try go_frame)
      iterate 1 (refine tk 13 (by rfl) (by kernel_rfl) (by exact fun _ _ _ h=>h) (.inl ⟨by rfl,fun w hS=>by (try dsimp only at hS);go_simp;(try with_reducible rfl)⟩) (by assumption) ?_;try go_frame)
      refine bK 12 (by rfl) (by kernel_rfl) (fun K hK=>?_)
      go_simp
      refine hK.out _ _ ?_ (fun hHeld=>?_)
      ·exact ⟨hHeld.1.alloc hHeld.1.size _,cell_later (aB _ _) hHeld.2⟩
      clear hK K
      (try go_frame)
      iterate 1 (refine tk 13 (by rfl) (by kernel_rfl) (by exact fun _ _ _ h=>h) (.inl ⟨by rfl,fun w hS=>by (try dsimp only at hS);go_simp;(try with_reducible rfl)⟩) (by assumption) ?_;try go_frame)
      refine wpAnyH_done (by kernel_rfl) ?_ _
      (try go_wp2_with fail)
      go_meet
      case rel =>
       refine ⟨_,_,_,_,rfl,Row.new' (by simp),hHeld.1,?_⟩
       (refine ⟨?_,?_,?_,?_,?_,?_,?_,?_,?_,?_,?_,?_⟩)<;>first|(simp;omega)|omega|(repeat (first|exact Row.new' (by simp)|refine Row.alloc ?_ _|refine Row.old ?_ bA))
     ·go_simp
      refine hK.out _ _ ?_ (fun hHeld=>?_)
      ·exact ⟨hHeld.1.alloc hHeld.1.size _,cell_later (aB _ _) hHeld.2⟩
      clear hK K
      (try go_frame)
      refine bK 4 (by rfl) (by kernel_rfl) (fun K hK=>?_)
      go_simp
      refine hK.out _ _ ?_ (fun hHeld=>?_)
      ·exact ⟨hHeld.1.alloc hHeld.1.size _,cell_later (aB _ _) hHeld.2⟩
      clear hK K
      (try go_frame)
      iterate 1 (refine tk 13 (by rfl) (by kernel_rfl) (by exact fun _ _ _ h=>h) (.inl ⟨by rfl,fun w hS=>by (try dsimp only at hS);go_simp;(try with_reducible rfl)⟩) (by assumption) ?_;try go_frame)
      refine bK 12 (by rfl) (by kernel_rfl) (fun K hK=>?_)
      go_simp
      refine hK.out _ _ ?_ (fun hHeld=>?_)
      ·exact ⟨hHeld.1.alloc hHeld.1.size _,cell_later (aB _ _) hHeld.2⟩
      clear hK K
      (try go_frame)
      iterate 1 (refine tk 13 (by rfl) (by kernel_rfl) (by exact fun _ _ _ h=>h) (.inl ⟨by rfl,fun w hS=>by (try dsimp only at hS);go_simp;(try with_reducible rfl)⟩) (by assumption) ?_;try go_frame)
      refine wpAnyH_done (by kernel_rfl) ?_ _
      (try go_wp2_with fail)
      go_meet
      case rel =>
       refine ⟨_,_,_,_,rfl,Row.new' (by simp),hHeld.1,?_⟩
       (refine ⟨?_,?_,?_,?_,?_,?_,?_,?_,?_,?_,?_,?_⟩)<;>first|(simp;omega)|omega|(repeat (first|exact Row.new' (by simp)|refine Row.alloc ?_ _|refine Row.old ?_ bA))
    ·go_simp
     refine hK.out _ _ ?_ (fun hHeld=>?_)
     ·exact ⟨hHeld.1.alloc hHeld.1.size _,cell_later (aB _ _) hHeld.2⟩
     clear hK K
     (try go_frame)
     refine wpAnyH_ready (rs:=[4,6]) (by kernel_rfl) (by simp) (rc (by rfl) (fun K hK=>?_) (rc (by rfl) (fun K hK=>?_) AllReadyH.nil))
     ·go_simp
      refine hK.out _ _ ?_ (fun hHeld=>?_)
      ·exact ⟨hHeld.1.alloc hHeld.1.size _,cell_later (aB _ _) hHeld.2⟩
      clear hK K
      (try go_frame)
      refine bK 6 (by rfl) (by kernel_rfl) (fun K hK=>?_)
      go_simp
      refine hK.out _ _ ?_ (fun hHeld=>?_)
      ·exact ⟨hHeld.1.alloc hHeld.1.size _,cell_later (aB _ _) hHeld.2⟩
      clear hK K
      (try go_frame)
      iterate 1 (refine tk 13 (by rfl) (by kernel_rfl) (by exact fun _ _ _ h=>h) (.inl ⟨by rfl,fun w hS=>by (try dsimp only at hS);go_simp;(try with_reducible rfl)⟩) (by assumption) ?_;try go_frame)
      refine bK 12 (by rfl) (by kernel_rfl) (fun K hK=>?_)
      go_simp
      refine hK.out _ _ ?_ (fun hHeld=>?_)
      ·exact ⟨hHeld.1.alloc hHeld.1.size _,cell_later (aB _ _) hHeld.2⟩
      clear hK K
      (try go_frame)
      iterate 1 (refine tk 13 (by rfl) (by kernel_rfl) (by exact fun _ _ _ h=>h) (.inl ⟨by rfl,fun w hS=>by (try dsimp only at hS);go_simp;(try with_reducible rfl)⟩) (by assumption) ?_;try go_frame)
      refine wpAnyH_done (by kernel_rfl) ?_ _
      (try go_wp2_with fail)
      go_meet
      case rel =>
       refine ⟨_,_,_,_,rfl,Row.new' (by simp),hHeld.1,?_⟩
       (refine ⟨?_,?_,?_,?_,?_,?_,?_,?_,?_,?_,?_,?_⟩)<;>first|(simp;omega)|omega|(repeat (first|exact Row.new' (by simp)|refine Row.alloc ?_ _|refine Row.old ?_ bA))
     ·go_simp
      refine hK.out _ _ ?_ (fun hHeld=>?_)
      ·exact ⟨hHeld.1.alloc hHeld.1.size _,cell_later (aB _ _) hHeld.2⟩
      clear hK K
      (try go_frame)
      refine bK 4 (by rfl) (by kernel_rfl) (fun K hK=>?_)
      go_simp
      refine hK.out _ _ ?_ (fun hHeld=>?_)
      ·exact ⟨hHeld.1.alloc hHeld.1.size _,cell_later (aB _ _) hHeld.2⟩
      clear hK K
      (try go_frame)
      iterate 1 (refine tk 13 (by rfl) (by kernel_rfl) (by exact fun _ _ _ h=>h) (.inl ⟨by rfl,fun w hS=>by (try dsimp only at hS);go_simp;(try with_reducible rfl)⟩) (by assumption) ?_;try go_frame)
      refine bK 12 (by rfl) (by kernel_rfl) (fun K hK=>?_)
      go_simp
      refine hK.out _ _ ?_ (fun hHeld=>?_)
      ·exact ⟨hHeld.1.alloc hHeld.1.size _,cell_later (aB _ _) hHeld.2⟩
      clear hK K
      (try go_frame)
      iterate 1 (refine tk 13 (by rfl) (by kernel_rfl) (by exact fun _ _ _ h=>h) (.inl ⟨by rfl,fun w hS=>by (try dsimp only at hS);go_simp;(try with_reducible rfl)⟩) (by assumption) ?_;try go_frame)
      refine wpAnyH_done (by kernel_rfl) ?_ _
      (try go_wp2_with fail)
      go_meet
      case rel =>
       refine ⟨_,_,_,_,rfl,Row.new' (by simp),hHeld.1,?_⟩
       (refine ⟨?_,?_,?_,?_,?_,?_,?_,?_,?_,?_,?_,?_⟩)<;>first|(simp;omega)|omega|(repeat (first|exact Row.new' (by simp)|refine Row.alloc ?_ _|refine Row.old ?_ bA))
   ·go_simp
    refine hK.out _ _ ?_ (fun hHeld=>?_)
    ·exact ⟨hHeld.1.alloc hHeld.1.size _,cell_later (aB _ _) hHeld.2⟩
    clear hK K
    (try go_frame)
    refine wpAnyH_ready (rs:=[3,10]) (by kernel_rfl) (by simp) (rc (by rfl) (fun K hK=>?_) (rc (by rfl) (fun K hK=>?_) AllReadyH.nil))
    ·go_simp
     refine (cX (n:Int) _ (by omega) (by omega)).mono ?_
     rintro e w2 ⟨rfl,bA⟩
     have JJ:=bA.size
     (try simp at JJ)
     go_wp2_with fail
     refine hK.out _ _ ?_ (fun hHeld=>?_)
     ·exact ⟨Below.next hHeld.1 bA hHeld.1.size,cell_later bA hHeld.2⟩
     clear hK K
     (try go_frame)
     refine wpAnyH_ready (rs:=[4,10]) (by kernel_rfl) (by simp) (rc (by rfl) (fun K hK=>?_) (rc (by rfl) (fun K hK=>?_) AllReadyH.nil))
     ·go_simp
      refine hK.out _ _ ?_ (fun hHeld=>?_)
      ·exact ⟨hHeld.1.alloc hHeld.1.size _,cell_later (aB _ _) hHeld.2⟩
      clear hK K
      (try go_frame)
      refine bK 10 (by rfl) (by kernel_rfl) (fun K hK=>?_)
      go_simp
      refine hK.out _ _ ?_ (fun hHeld=>?_)
      ·exact ⟨hHeld.1.alloc hHeld.1.size _,cell_later (aB _ _) hHeld.2⟩
      clear hK K
      (try go_frame)
      iterate 1 (refine tk 13 (by rfl) (by kernel_rfl) (by exact fun _ _ _ h=>h) (.inl ⟨by rfl,fun w hS=>by (try dsimp only at hS);go_simp;(try with_reducible rfl)⟩) (by assumption) ?_;try go_frame)
      refine bK 12 (by rfl) (by kernel_rfl) (fun K hK=>?_)
      go_simp
      refine hK.out _ _ ?_ (fun hHeld=>?_)
      ·exact ⟨hHeld.1.alloc hHeld.1.size _,cell_later (aB _ _) hHeld.2⟩
      clear hK K
      (try go_frame)
      iterate 1 (refine tk 13 (by rfl) (by kernel_rfl) (by exact fun _ _ _ h=>h) (.inl ⟨by rfl,fun w hS=>by (try dsimp only at hS);go_simp;(try with_reducible rfl)⟩) (by assumption) ?_;try go_frame)
      refine wpAnyH_done (by kernel_rfl) ?_ _
      (try go_wp2_with fail)
      go_meet
      case rel =>
       refine ⟨_,_,_,_,rfl,Row.new' (by simp),hHeld.1,?_⟩
       (refine ⟨?_,?_,?_,?_,?_,?_,?_,?_,?_,?_,?_,?_⟩)<;>first|(simp;omega)|omega|(repeat (first|exact Row.new' (by simp)|refine Row.alloc ?_ _|refine Row.old ?_ bA))
     ·go_simp
      refine hK.out _ _ ?_ (fun hHeld=>?_)
      ·exact ⟨hHeld.1.alloc hHeld.1.size _,cell_later (aB _ _) hHeld.2⟩
      clear hK K
      (try go_frame)
      refine bK 4 (by rfl) (by kernel_rfl) (fun K hK=>?_)
      go_simp
      refine hK.out _ _ ?_ (fun hHeld=>?_)
      ·exact ⟨hHeld.1.alloc hHeld.1.size _,cell_later (aB _ _) hHeld.2⟩
      clear hK K
      (try go_frame)
      iterate 1 (refine tk 13 (by rfl) (by kernel_rfl) (by exact fun _ _ _ h=>h) (.inl ⟨by rfl,fun w hS=>by (try dsimp only at hS);go_simp;(try with_reducible rfl)⟩) (by assumption) ?_;try go_frame)
      refine bK 12 (by rfl) (by kernel_rfl) (fun K hK=>?_)
      go_simp
      refine hK.out _ _ ?_ (fun hHeld=>?_)
      ·exact ⟨hHeld.1.alloc hHeld.1.size _,cell_later (aB _ _) hHeld.2⟩
      clear hK K
      (try go_frame)
      iterate 1 (refine tk 13 (by rfl) (by kernel_rfl) (by exact fun _ _ _ h=>h) (.inl ⟨by rfl,fun w hS=>by (try dsimp only at hS);go_simp;(try with_reducible rfl)⟩) (by assumption) ?_;try go_frame)
      refine wpAnyH_done (by kernel_rfl) ?_ _
      (try go_wp2_with fail)
      go_meet
      case rel =>
       refine ⟨_,_,_,_,rfl,Row.new' (by simp),hHeld.1,?_⟩
       (refine ⟨?_,?_,?_,?_,?_,?_,?_,?_,?_,?_,?_,?_⟩)<;>first|(simp;omega)|omega|(repeat (first|exact Row.new' (by simp)|refine Row.alloc ?_ _|refine Row.old ?_ bA))
    ·go_simp
     refine hK.out _ _ ?_ (fun hHeld=>?_)
     ·exact ⟨hHeld.1.alloc hHeld.1.size _,cell_later (aB _ _) hHeld.2⟩
     clear hK K
     (try go_frame)
     refine bK 3 (by rfl) (by kernel_rfl) (fun K hK=>?_)
     go_simp
     refine (cX (n:Int) _ (by omega) (by omega)).mono ?_
     rintro e w2 ⟨rfl,bA⟩
     have JJ:=bA.size
     (try simp at JJ)
     go_wp2_with fail
     refine hK.out _ _ ?_ (fun hHeld=>?_)
     ·exact ⟨Below.next hHeld.1 bA hHeld.1.size,cell_later bA hHeld.2⟩
     clear hK K
     (try go_frame)
     refine bK 4 (by rfl) (by kernel_rfl) (fun K hK=>?_)
     go_simp
     refine hK.out _ _ ?_ (fun hHeld=>?_)
     ·exact ⟨hHeld.1.alloc hHeld.1.size _,cell_later (aB _ _) hHeld.2⟩
     clear hK K
     (try go_frame)
     iterate 1 (refine tk 13 (by rfl) (by kernel_rfl) (by exact fun _ _ _ h=>h) (.inl ⟨by rfl,fun w hS=>by (try dsimp only at hS);go_simp;(try with_reducible rfl)⟩) (by assumption) ?_;try go_frame)
     refine bK 12 (by rfl) (by kernel_rfl) (fun K hK=>?_)
     go_simp
     refine hK.out _ _ ?_ (fun hHeld=>?_)
     ·exact ⟨hHeld.1.alloc hHeld.1.size _,cell_later (aB _ _) hHeld.2⟩
     clear hK K
     (try go_frame)
     iterate 1 (refine tk 13 (by rfl) (by kernel_rfl) (by exact fun _ _ _ h=>h) (.inl ⟨by rfl,fun w hS=>by (try dsimp only at hS);go_simp;(try with_reducible rfl)⟩) (by assumption) ?_;try go_frame)
     refine wpAnyH_done (by kernel_rfl) ?_ _
     (try go_wp2_with fail)
     go_meet
     case rel =>
      refine ⟨_,_,_,_,rfl,Row.new' (by simp),hHeld.1,?_⟩
      (refine ⟨?_,?_,?_,?_,?_,?_,?_,?_,?_,?_,?_,?_⟩)<;>first|(simp;omega)|omega|(repeat (first|exact Row.new' (by simp)|refine Row.alloc ?_ _|refine Row.old ?_ bA))
   ·go_simp
    refine hK.out _ _ ?_ (fun hHeld=>?_)
    ·exact ⟨hHeld.1.alloc hHeld.1.size _,cell_later (aB _ _) hHeld.2⟩
    clear hK K
    (try go_frame)
    refine wpAnyH_ready (rs:=[3,6]) (by kernel_rfl) (by simp) (rc (by rfl) (fun K hK=>?_) (rc (by rfl) (fun K hK=>?_) AllReadyH.nil))
    ·go_simp
     refine (cX (n:Int) _ (by omega) (by omega)).mono ?_
     rintro e w2 ⟨rfl,bA⟩
     have JJ:=bA.size
     (try simp at JJ)
     go_wp2_with fail
     refine hK.out _ _ ?_ (fun hHeld=>?_)
     ·exact ⟨Below.next hHeld.1 bA hHeld.1.size,cell_later bA hHeld.2⟩
     clear hK K
     (try go_frame)
     refine wpAnyH_ready (rs:=[4,6]) (by kernel_rfl) (by simp) (rc (by rfl) (fun K hK=>?_) (rc (by rfl) (fun K hK=>?_) AllReadyH.nil))
     ·go_simp
      refine hK.out _ _ ?_ (fun hHeld=>?_)
      ·exact ⟨hHeld.1.alloc hHeld.1.size _,cell_later (aB _ _) hHeld.2⟩
      clear hK K
      (try go_frame)
      refine bK 6 (by rfl) (by kernel_rfl) (fun K hK=>?_)
      go_simp
      refine hK.out _ _ ?_ (fun hHeld=>?_)
      ·exact ⟨hHeld.1.alloc hHeld.1.size _,cell_later (aB _ _) hHeld.2⟩
      clear hK K
      (try go_frame)
      iterate 1 (refine tk 13 (by rfl) (by kernel_rfl) (by exact fun _ _ _ h=>h) (.inl ⟨by rfl,fun w hS=>by (try dsimp only at hS);go_simp;(try with_reducible rfl)⟩) (by assumption) ?_;try go_frame)
      refine bK 12 (by rfl) (by kernel_rfl) (fun K hK=>?_)
      go_simp
      refine hK.out _ _ ?_ (fun hHeld=>?_)
      ·exact ⟨hHeld.1.alloc hHeld.1.size _,cell_later (aB _ _) hHeld.2⟩
      clear hK K
      (try go_frame)
      iterate 1 (refine tk 13 (by rfl) (by kernel_rfl) (by exact fun _ _ _ h=>h) (.inl ⟨by rfl,fun w hS=>by (try dsimp only at hS);go_simp;(try with_reducible rfl)⟩) (by assumption) ?_;try go_frame)
      refine wpAnyH_done (by kernel_rfl) ?_ _
      (try go_wp2_with fail)
      go_meet
      case rel =>
       refine ⟨_,_,_,_,rfl,Row.new' (by simp),hHeld.1,?_⟩
       (refine ⟨?_,?_,?_,?_,?_,?_,?_,?_,?_,?_,?_,?_⟩)<;>first|(simp;omega)|omega|(repeat (first|exact Row.new' (by simp)|refine Row.alloc ?_ _|refine Row.old ?_ bA))
     ·go_simp
      refine hK.out _ _ ?_ (fun hHeld=>?_)
      ·exact ⟨hHeld.1.alloc hHeld.1.size _,cell_later (aB _ _) hHeld.2⟩
      clear hK K
      (try go_frame)
      refine bK 4 (by rfl) (by kernel_rfl) (fun K hK=>?_)
      go_simp
      refine hK.out _ _ ?_ (fun hHeld=>?_)
      ·exact ⟨hHeld.1.alloc hHeld.1.size _,cell_later (aB _ _) hHeld.2⟩
      clear hK K
      (try go_frame)
      iterate 1 (refine tk 13 (by rfl) (by kernel_rfl) (by exact fun _ _ _ h=>h) (.inl ⟨by rfl,fun w hS=>by (try dsimp only at hS);go_simp;(try with_reducible rfl)⟩) (by assumption) ?_;try go_frame)
      refine bK 12 (by rfl) (by kernel_rfl) (fun K hK=>?_)
      go_simp
      refine hK.out _ _ ?_ (fun hHeld=>?_)
      ·exact ⟨hHeld.1.alloc hHeld.1.size _,cell_later (aB _ _) hHeld.2⟩
      clear hK K
      (try go_frame)
      iterate 1 (refine tk 13 (by rfl) (by kernel_rfl) (by exact fun _ _ _ h=>h) (.inl ⟨by rfl,fun w hS=>by (try dsimp only at hS);go_simp;(try with_reducible rfl)⟩) (by assumption) ?_;try go_frame)
      refine wpAnyH_done (by kernel_rfl) ?_ _
      (try go_wp2_with fail)
      go_meet
      case rel =>
       refine ⟨_,_,_,_,rfl,Row.new' (by simp),hHeld.1,?_⟩
       (refine ⟨?_,?_,?_,?_,?_,?_,?_,?_,?_,?_,?_,?_⟩)<;>first|(simp;omega)|omega|(repeat (first|exact Row.new' (by simp)|refine Row.alloc ?_ _|refine Row.old ?_ bA))
    ·go_simp
     refine hK.out _ _ ?_ (fun hHeld=>?_)
     ·exact ⟨hHeld.1.alloc hHeld.1.size _,cell_later (aB _ _) hHeld.2⟩
     clear hK K
     (try go_frame)
     refine bK 3 (by rfl) (by kernel_rfl) (fun K hK=>?_)
     go_simp
     refine (cX (n:Int) _ (by omega) (by omega)).mono ?_
     rintro e w2 ⟨rfl,bA⟩
     have JJ:=bA.size
     (try simp at JJ)
     go_wp2_with fail
     refine hK.out _ _ ?_ (fun hHeld=>?_)
     ·exact ⟨Below.next hHeld.1 bA hHeld.1.size,cell_later bA hHeld.2⟩
     clear hK K
     (try go_frame)
     refine bK 4 (by rfl) (by kernel_rfl) (fun K hK=>?_)
     go_simp
     refine hK.out _ _ ?_ (fun hHeld=>?_)
     ·exact ⟨hHeld.1.alloc hHeld.1.size _,cell_later (aB _ _) hHeld.2⟩
     clear hK K
     (try go_frame)
     iterate 1 (refine tk 13 (by rfl) (by kernel_rfl) (by exact fun _ _ _ h=>h) (.inl ⟨by rfl,fun w hS=>by (try dsimp only at hS);go_simp;(try with_reducible rfl)⟩) (by assumption) ?_;try go_frame)
     refine bK 12 (by rfl) (by kernel_rfl) (fun K hK=>?_)
     go_simp
     refine hK.out _ _ ?_ (fun hHeld=>?_)
     ·exact ⟨hHeld.1.alloc hHeld.1.size _,cell_later (aB _ _) hHeld.2⟩
     clear hK K
     (try go_frame)
     iterate 1 (refine tk 13 (by rfl) (by kernel_rfl) (by exact fun _ _ _ h=>h) (.inl ⟨by rfl,fun w hS=>by (try dsimp only at hS);go_simp;(try with_reducible rfl)⟩) (by assumption) ?_;try go_frame)
     refine wpAnyH_done (by kernel_rfl) ?_ _
     (try go_wp2_with fail)
     go_meet
     case rel =>
      refine ⟨_,_,_,_,rfl,Row.new' (by simp),hHeld.1,?_⟩
      (refine ⟨?_,?_,?_,?_,?_,?_,?_,?_,?_,?_,?_,?_⟩)<;>first|(simp;omega)|omega|(repeat (first|exact Row.new' (by simp)|refine Row.alloc ?_ _|refine Row.old ?_ bA))
  case rest =>
   obtain ⟨bS,aZ,aX,bP,rfl,hS,hB,z1,z2,z3,z4,z5,z6,z7,z8,z9,XM,XN,hP⟩:=hcut
   rw [JS _ (eD n) (fun _=>0)] at hP
   first|(have _:Kn 0:=kk;have hI0:int.lZ W0 bS aZ aX bP n oT ov 0 (fun _=>0) wc:=⟨hS,XM,XN,hP,fun r hr=>absurd hr (by omega),fun r s _ h=>absurd h (by omega),hB⟩)|(have _:Kn 1:=kk;have hI0:list.lZ W0 bS aZ aX bP n oT ov 0 (fun _=>0) wc:=⟨hS,XM,XN,hP,fun r hr=>absurd hr (by omega),fun r s _ h=>absurd h (by omega),hB⟩)|(have _:Kn 2:=kk;have hI0:tree.lZ W0 bS aZ aX bP n oT ov 0 (fun _=>0) wc:=⟨hS,XM,XN,hP,fun r hr=>absurd hr (by omega),fun r s _ h=>absurd h (by omega),hB⟩)|(have _:Kn 3:=kk;have hI0:row.lZ W0 bS aZ aX bP n oT ov 0 (fun _=>0) wc:=⟨hS,XM,XN,hP,fun r hr=>absurd hr (by omega),fun r s _ h=>absurd h (by omega),hB⟩)
   have aIV:=hS.cell_of (i:=4) rfl
   clear hS XM XN hP hB
   go_wp2
   first|(have _:Kn 0:=kk;go_loopw [29] (fun i w'=>∃ k bW,k≤2*n+1∧i = .int .i64 (k:Int)∧int.lZ W0 bS aZ aX bP n oT ov k bW w') (fun i _=>2*n+1-(intOf i).toNat))|(have _:Kn 1:=kk;go_loopw [29] (fun i w'=>∃ k bW,k≤2*n+1∧i = .int .i64 (k:Int)∧list.lZ W0 bS aZ aX bP n oT ov k bW w') (fun i _=>2*n+1-(intOf i).toNat))|(have _:Kn 2:=kk;go_loopw [29] (fun i w'=>∃ k bW,k≤2*n+1∧i = .int .i64 (k:Int)∧tree.lZ W0 bS aZ aX bP n oT ov k bW w') (fun i _=>2*n+1-(intOf i).toNat))|(have _:Kn 3:=kk;go_loopw [29] (fun i w'=>∃ k bW,k≤2*n+1∧i = .int .i64 (k:Int)∧row.lZ W0 bS aZ aX bP n oT ov k bW w') (fun i _=>2*n+1-(intOf i).toNat))
   case atStart=>exact ⟨0,_,Nat.zero_le _,rfl,hI0⟩
   case round =>
    obtain ⟨k,bW,hk,rfl,hI⟩:=hrel
    by_cases hlt:k<2*n+1
    ·have hlt':(k:Int)<2*(n:Int)+1:=by omega
     have aG5:(k:Int)<(2*n+1:Nat):=by omega
     have hk0:(0:Int)≤(k:Int):=by omega
     have hcS:wr.cell? ⟨bS,4,none⟩=some (.slice (some ⟨bP,0,none⟩) (2*n+1) (2*n+1)):=hI.1.cell_of rfl
     have hcN:wr.cell? ⟨w.heap.size,0,none⟩=some (.int .i64 (n:Int)):=cell_later hI.2.2.2.2.2.2 hc0
     have OT:wr.there bP (k*2) 1:=hI.2.2.2.1.there (by rw [qJ];omega)
     have hsz:(Tryz.prog.info? 185).map (·.size)=some 1:=by kernel_rfl
     have MO:bS≠bP:=by omega
     have aEP:w.heap.size≠bP:=by omega
     have HI:=aA hI
     clear hI
     go_wp2
     refine fQ (S:=(fun w'=>w'.cell? ⟨bS,4,none⟩=some (.slice (some ⟨bP,0,none⟩) (2*n+1) (2*n+1))∧w'.cell? ⟨w.heap.size,0,none⟩=some (.int .i64 (n:Int))∧w'.there bP (k*2) 1)) 11 rfl (by kernel_rfl) ?_ (fun hHeld=>?_)
     ·exact ⟨hcS,hcN,OT⟩
     iterate 6 (refine tk 10 (by rfl) (by kernel_rfl) (by exact fun _ _ _ h=>h) (.inl ⟨by rfl,fun w hS=>by (try dsimp only at hS);go_simp;(try with_reducible rfl)⟩) (by assumption) ?_;try go_frame)
     refine bK 6 (by rfl) (by kernel_rfl) (fun K hK=>?_)
     go_simp
     refine (nA (n:Int) _ (by omega) (by omega)).mono ?_
     rintro e w3 ⟨rfl,cH⟩
     go_wp2_with fail
     refine hK.out _ _ ?_ (fun hHeld=>?_)
     ·exact ⟨cell_later cH hHeld.1,cell_later cH hHeld.2.1,aU cH hHeld.2.2⟩
     clear hK K
     (try go_frame)
     refine bK 7 (by rfl) (by kernel_rfl) (fun K hK=>?_)
     go_simp
     refine hK.out _ _ ?_ (fun hHeld=>?_)
     ·exact ⟨cell_later (aB _ _) hHeld.1,cell_later (aB _ _) hHeld.2.1,World.there_alloc hHeld.2.2 _⟩
     clear hK K
     (try go_frame)
     iterate 2 (refine tk 10 (by rfl) (by kernel_rfl) (by exact fun _ _ _ h=>h) (.inl ⟨by rfl,fun w hS=>by (try dsimp only at hS);go_simp;(try with_reducible rfl)⟩) (by assumption) ?_;try go_frame)
     refine bK 10 (by rfl) (by kernel_rfl) (fun K hK=>?_)
     rw [if_pos (by rfl)]
     refine aP _ _ _ rfl bP (k*2) _ rfl rfl rfl rfl hHeld.2.2 hsz ?_
     refine hK.out _ _ ?_ (fun hHeld=>?_)
     ·exact ⟨(World.cell?_setCell_far _ _ _ _ (Ne.symm MO)).trans hHeld.1,(World.cell?_setCell_far _ _ _ _ (Ne.symm aEP)).trans hHeld.2.1,bM hHeld.2.2 _ rfl _⟩
     clear hK K
     (try go_frame)
     refine wpAnyH_done (by kernel_rfl) ?_ _
     (try go_wp2_with fail)
     go_roundw
     case rel =>
      rw [Nat.mul_comm k 2]
      first|(have _:Kn 0:=kk;exact ⟨k+1,_,by omega,by go_num,int.lZ.next HI.out (Below.bU cH) z3 (by omega) (by omega) (by omega)⟩)|(have _:Kn 1:=kk;exact ⟨k+1,_,by omega,by go_num,list.lZ.next HI.out (Below.bU cH) z3 (by omega) (by omega) (by omega)⟩)|(have _:Kn 2:=kk;exact ⟨k+1,_,by omega,by go_num,tree.lZ.next HI.out (Below.bU cH) z3 (by omega) (by omega) (by omega)⟩)|(have _:Kn 3:=kk;exact ⟨k+1,_,by omega,by go_num,row.lZ.next HI.out (Below.bU cH) z3 (by omega) (by omega) (by omega)⟩)
     case measure=>simp [intOf];omega
    ·have hke:k=2*n+1:=by omega
     subst hke
     have hI':=hI
     clear hI hlt
     have hcP:wr.cell? ⟨bS,4,none⟩=some (.slice (some ⟨bP,0,none⟩) (2*n+1) (2*n+1)):=hI'.1.cell_of rfl
     have HI:=aA hI'
     clear hI'
     have hlt':¬((2*n+1:Nat):Int)<2*(n:Int)+1:=by omega
     go_wp2_with fail
     refine (HF.out _).mono ?_
     rintro e w4 ⟨rfl,cR⟩
     go_wp2_with fail
     generalize EM:World.alloc (World.alloc w4 _) _=W5
     have hI:=HI.out
     have zP:Below w4.heap.size w4 W5:=by rw [←EM];exact ((Below.refl _ _).alloc (Nat.le_refl _) _).alloc (by simp) _
     have aER:W5.cell? ⟨bS,4,none⟩=some (.slice (some ⟨bP,0,none⟩) (2*n+1) (2*n+1)):=cell_later zP (cell_later cR hcP)
     have aB4:W5.cell? ⟨bP,1,none⟩=some (.pointer none):=cell_later zP (cell_later cR (hI.2.2.2.1.cell_of (MG (j:=0) (by omega))))
     have aES:W5.frozen? ⟨bP,1,none⟩=false:=((hI.2.2.2.1.old cR).old zP).frozen 1
     obtain ⟨bV,hbV⟩:∃ bV,bV=w4.heap.size+1:=⟨_,rfl⟩
     first|(have _:Kn 0:=kk;have hV:∃ vs,W5=(w4.alloc (.cells [Value.int .i64 0,.slice none 0 0,.pointer none].toArray 204)).alloc (.cells vs.toArray 120)∧vs=[.int .i64 0]++[.pointer (some ⟨w4.heap.size,0,none⟩)]:=⟨_,EM.symm,rfl⟩)|(have _:Kn 1:=kk;have hV:∃ vs,W5=(w4.alloc (.cells [Value.int .i64 0,.slice none 0 0,.pointer none].toArray 204)).alloc (.cells vs.toArray 134)∧vs=[.pointer none]++[.pointer (some ⟨w4.heap.size,0,none⟩)]:=⟨_,EM.symm,rfl⟩)|(have _:Kn 2:=kk;have hV:∃ vs,W5=(w4.alloc (.cells [Value.int .i64 0,.slice none 0 0,.pointer none].toArray 204)).alloc (.cells vs.toArray 162)∧vs=[.pointer none]++[.pointer (some ⟨w4.heap.size,0,none⟩)]:=⟨_,EM.symm,rfl⟩)|(have _:Kn 3:=kk;have hV:∃ vs,W5=(w4.alloc (.cells [Value.int .i64 0,.slice none 0 0,.pointer none].toArray 204)).alloc (.cells vs.toArray 148)∧vs=[.pointer none,.pointer none]++[.pointer (some ⟨w4.heap.size,0,none⟩)]:=⟨_,EM.symm,rfl⟩)
     obtain ⟨vs,hV5,hvs⟩:=hV
     first|(have _:Kn 0:=kk;have hVr:Row W5 bV 120 ([.int .i64 0]++[.pointer (some ⟨w4.heap.size,0,none⟩)]):=by rw [hV5,←hvs,hbV];exact Row.new' (by simp))|(have _:Kn 1:=kk;have hVr:Row W5 bV 134 ([.pointer none]++[.pointer (some ⟨w4.heap.size,0,none⟩)]):=by rw [hV5,←hvs,hbV];exact Row.new' (by simp))|(have _:Kn 2:=kk;have hVr:Row W5 bV 162 ([.pointer none]++[.pointer (some ⟨w4.heap.size,0,none⟩)]):=by rw [hV5,←hvs,hbV];exact Row.new' (by simp))|(have _:Kn 3:=kk;have hVr:Row W5 bV 148 ([.pointer none,.pointer none]++[.pointer (some ⟨w4.heap.size,0,none⟩)]):=by rw [hV5,←hvs,hbV];exact Row.new' (by simp))
     first|(have _:Kn 0:=kk;refine (have hVc:∀ w',Below W5.heap.size W5 w'→w'.cell? ⟨bV,0,none⟩=some (.int .i64 0)∧w'.cell? ⟨bV,1,none⟩=some (.pointer (some ⟨w4.heap.size,0,none⟩)):=?_;?_))|(have _:Kn 1:=kk;refine (have hVc:∀ w',Below W5.heap.size W5 w'→w'.cell? ⟨bV,0,none⟩=some (.pointer none)∧w'.cell? ⟨bV,1,none⟩=some (.pointer (some ⟨w4.heap.size,0,none⟩)):=?_;?_))|(have _:Kn 2:=kk;refine (have hVc:∀ w',Below W5.heap.size W5 w'→w'.cell? ⟨bV,0,none⟩=some (.pointer none)∧w'.cell? ⟨bV,1,none⟩=some (.pointer (some ⟨w4.heap.size,0,none⟩)):=?_;?_))|(have _:Kn 3:=kk;refine (have hVc:∀ w',Below W5.heap.size W5 w'→w'.cell? ⟨bV,0,none⟩=some (.pointer none)∧w'.cell? ⟨bV,1,none⟩=some (.pointer none)∧w'.cell? ⟨bV,2,none⟩=some (.pointer (some ⟨w4.heap.size,0,none⟩)):=?_;?_))
     ·intro w' hw'
      have hq:=hVr.old hw'
      simp only [hq.cell]
      simp
     have HW5:=aA hV5
     clear EM hV5 hI hvs hcP
     have aET:bP<W5.heap.size:=World.block_lt_of_cell? W5 _ aB4
     have MO:bS≠bP:=by omega
     have aEU:bV≠bP:=by have h7:=(SS HI).2.2.2.1.lt;have h8:=cR.size;omega
     have hpos:(0:Int)<2*(n:Int)+1:=by omega
     rw [←hbV]
     clear hbV
     have hV0:=hVc W5 (Below.refl _ _)
     clear hVc
     first|(have _:Kn 0:=kk;refine fQ (S:=(fun w'=>w'.cell? ⟨bS,4,none⟩=some (.slice (some ⟨bP,0,none⟩) (2*n+1) (2*n+1))∧w'.cell? ⟨bV,0,none⟩=some (.int .i64 0)∧w'.cell? ⟨bV,1,none⟩=some (.pointer (some ⟨w4.heap.size,0,none⟩)))) 12 rfl (by kernel_rfl) ?_ (fun hHeld=>?_))|(have _:Kn 1:=kk;refine fQ (S:=(fun w'=>w'.cell? ⟨bS,4,none⟩=some (.slice (some ⟨bP,0,none⟩) (2*n+1) (2*n+1))∧w'.cell? ⟨bV,0,none⟩=some (.pointer none)∧w'.cell? ⟨bV,1,none⟩=some (.pointer (some ⟨w4.heap.size,0,none⟩)))) 12 rfl (by kernel_rfl) ?_ (fun hHeld=>?_))|(have _:Kn 2:=kk;refine fQ (S:=(fun w'=>w'.cell? ⟨bS,4,none⟩=some (.slice (some ⟨bP,0,none⟩) (2*n+1) (2*n+1))∧w'.cell? ⟨bV,0,none⟩=some (.pointer none)∧w'.cell? ⟨bV,1,none⟩=some (.pointer (some ⟨w4.heap.size,0,none⟩)))) 12 rfl (by kernel_rfl) ?_ (fun hHeld=>?_))|(have _:Kn 3:=kk;refine fQ (S:=(fun w'=>w'.cell? ⟨bS,4,none⟩=some (.slice (some ⟨bP,0,none⟩) (2*n+1) (2*n+1))∧w'.cell? ⟨bV,0,none⟩=some (.pointer none)∧w'.cell? ⟨bV,1,none⟩=some (.pointer none)∧w'.cell? ⟨bV,2,none⟩=some (.pointer (some ⟨w4.heap.size,0,none⟩)))) 12 rfl (by kernel_rfl) ?_ (fun hHeld=>?_))
     ·exact ⟨aER,hV0⟩
     iterate 10 (refine tk 11 (by rfl) (by kernel_rfl) (by exact fun _ _ _ h=>h) (.inl ⟨by rfl,fun w hS=>by (try dsimp only at hS);go_simp;(try with_reducible rfl)⟩) (by assumption) ?_;try go_frame)
     refine bK 10 (by rfl) (by kernel_rfl) (fun K hK=>?_)
     go_simp
     refine hK.out _ _ ?_ (fun hHeld=>?_)
     ·(repeat' apply And.intro)<;>(first|exact cell_later (aB _ _) hHeld.1|exact cell_later (aB _ _) hHeld.2.1|exact cell_later (aB _ _) hHeld.2.2|exact cell_later (aB _ _) hHeld.2.2.1|exact cell_later (aB _ _) hHeld.2.2.2)
     clear hK K
     (try go_frame)
     refine bK 11 (by rfl) (by kernel_rfl) (fun K hK=>?_)
     go_simp
     first|(have _:Kn 0:=kk;refine (int.gL bP 1 W5.heap.size (.pointer none) ((int.iY w4.heap.size).getD 0 undef) _ ?_ ?_ ?_).mono ?_)|(have _:Kn 1:=kk;refine (list.gL bP 1 W5.heap.size (.pointer none) ((list.iY w4.heap.size).getD 0 undef) _ ?_ ?_ ?_).mono ?_)|(have _:Kn 2:=kk;refine (tree.gL bP 1 W5.heap.size (.pointer none) ((tree.iY w4.heap.size).getD 0 undef) _ ?_ ?_ ?_).mono ?_)|(have _:Kn 3:=kk;refine (row.gL bP 1 W5.heap.size (.pointer none) ((row.iY w4.heap.size).getD 0 undef) _ ?_ ?_ ?_).mono ?_)
     ·exact cell_later (Below.drew (aB _ _)) aB4
     ·exact ((Below.drew (aB W5 _)).frozen (p:=⟨bP,1,none⟩) aET).trans aES
     ·first|(have _:Kn 0:=kk;exact (Row.new' (w:=W5) (xs:=int.iY w4.heap.size) (t:=122) rfl).drew.cell_of rfl)|(have _:Kn 1:=kk;exact (Row.new' (w:=W5) (xs:=list.iY w4.heap.size) (t:=136) rfl).drew.cell_of rfl)|(have _:Kn 2:=kk;exact (Row.new' (w:=W5) (xs:=tree.iY w4.heap.size) (t:=164) rfl).drew.cell_of rfl)|(have _:Kn 3:=kk;exact (Row.new' (w:=W5) (xs:=row.iY w4.heap.size) (t:=150) rfl).drew.cell_of rfl)
     rintro e w6 ⟨rfl,hw6⟩
     have H6:=aA hw6
     clear hw6
     go_wp2_with fail
     refine hK.out _ _ ?_ (fun hHeld=>?_)
     ·(rw [H6.out];(repeat' apply And.intro)<;>(refine (World.cell?_setCell_far _ _ _ _ (by first|exact Ne.symm MO|exact Ne.symm aEU)).trans ?_;first|exact hHeld.1|exact hHeld.2.1|exact hHeld.2.2|exact hHeld.2.2.1|exact hHeld.2.2.2))
     clear hK K
     (try go_frame)
     refine wpAnyH_done (by kernel_rfl) ?_ _
     (try go_wp2_with fail)
     go_ret
     first|(have _:Kn 0:=kk;have TI:=int.lZ.done HI.out cR HW5.out H6.out (by omega) (by omega) z3 (by omega) (by omega) (by omega) (by omega) (by omega) (by omega))|(have _:Kn 1:=kk;have TI:=list.lZ.done HI.out cR HW5.out H6.out (by omega) (by omega) z3 (by omega) (by omega) (by omega) (by omega) (by omega) (by omega))|(have _:Kn 2:=kk;have TI:=tree.lZ.done HI.out cR HW5.out H6.out (by omega) (by omega) z3 (by omega) (by omega) (by omega) (by omega) (by omega) (by omega))|(have _:Kn 3:=kk;have TI:=row.lZ.done HI.out cR HW5.out H6.out (by omega) (by omega) z3 (by omega) (by omega) (by omega) (by omega) (by omega) (by omega))
     exact ⟨bS,aZ,aX,bP,bW,w4.heap.size,W5.heap.size,rfl,TI.1.base (by omega),hb0.trans (TI.2.mono (by omega))⟩
theorem int.gB:cM:=kK.1
theorem list.gB:cM:=kK.2.1
theorem tree.gB:cM:=kK.2.2.1
theorem row.gB:cM:=kK.2.2.2
end Go.Proofs.YtefjhnhdagolhabGreat
