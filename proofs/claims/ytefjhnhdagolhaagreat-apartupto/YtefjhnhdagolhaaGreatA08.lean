import Derived.Test.YtefjhnhdagolhaaGreatA02
import Derived.Test.YtefjhnhdagolhaaGreatA05
import Derived.Test.YtefjhnhdagolhaaGreatA07
set_option maxHeartbeats 16000000
set_option maxRecDepth 20000
namespace Go.Proofs.YtefjhnhdagolhaaGreat
open Tryz
open int list tree
open Go.RowKit
attribute [local go_sem ↓] Go.wp_at_zero Go.wp_at_succ
theorem int.RV:(prog.info? 387).map (fun i=>(i.zero,i.size,i.bytes))=some (some (.agg #[.int .i64 0]),1,8):=by kernel_rfl
theorem int.YM:(prog.info? 388).map (fun i=>(i.zero,i.size,i.bytes))=some (some (.agg #[.int .i64 0,.int .i64 0,.int .i64 0]),3,24):=by kernel_rfl
theorem int.mD:(prog.info? 304).map (fun i=>(i.zero,i.size,i.bytes))=some (some (.agg #[.slice none 0 0,.pointer none]),2,32):=by kernel_rfl
theorem list.mD:(prog.info? 318).map (fun i=>(i.zero,i.size,i.bytes))=some (some (.agg #[.slice none 0 0,.pointer none]),2,32):=by kernel_rfl
theorem tree.mD:(prog.info? 344).map (fun i=>(i.zero,i.size,i.bytes))=some (some (.agg #[.slice none 0 0,.pointer none]),2,32):=by kernel_rfl
theorem row.mD:(prog.info? 331).map (fun i=>(i.zero,i.size,i.bytes))=some (some (.agg #[.slice none 0 0,.pointer none]),2,32):=by kernel_rfl
def int.tw (n:Nat):Nat:=(n+15) / 16
def int.mW (n:Nat):Nat:=(n+15) / 16+2*n
def int.vK (W0:World) (bS cS cQ bP n:Nat) (oT:TypeId) (ov:Value) (k:Nat) (bW:Nat→Nat) (w':World):Prop :=
 Row w' bS 296 [.int .i64 (n:Int),.iface oT ov,.slice (some ⟨cS,0,none⟩) (tw n) (tw n),.slice (some ⟨cQ,0,none⟩) n n,.slice (some ⟨bP,0,none⟩) (2*n+1) (2*n+1),.int .i64 0] ∧
 Row w' cS 387 (zeros (.int .i64 0) (tw n))∧Row w' cQ 388 (zeros (.int .i64 0) (n*3))∧Row w' bP 304 (gF (2*n+1) (mW n) k bW) ∧
 (∀ r,r<k→Row w' (bW r) 387 (zeros (.int .i64 0) (mW n))∧bS<bW r)∧(∀ r s,r<s→s<k→bW r<bW s)∧Below W0.heap.size W0 w'
def list.vK (W0:World) (bS cS cQ bP n:Nat) (oT:TypeId) (ov:Value) (k:Nat) (bW:Nat→Nat) (w':World):Prop :=
 Row w' bS 310 [.int .i64 (n:Int),.iface oT ov,.slice (some ⟨cS,0,none⟩) (tw n) (tw n),.slice (some ⟨cQ,0,none⟩) n n,.slice (some ⟨bP,0,none⟩) (2*n+1) (2*n+1),.int .i64 0] ∧
 Row w' cS 387 (zeros (.int .i64 0) (tw n))∧Row w' cQ 388 (zeros (.int .i64 0) (n*3))∧Row w' bP 318 (gF (2*n+1) (mW n) k bW) ∧
 (∀ r,r<k→Row w' (bW r) 387 (zeros (.int .i64 0) (mW n))∧bS<bW r)∧(∀ r s,r<s→s<k→bW r<bW s)∧Below W0.heap.size W0 w'
def tree.vK (W0:World) (bS cS cQ bP n:Nat) (oT:TypeId) (ov:Value) (k:Nat) (bW:Nat→Nat) (w':World):Prop :=
 Row w' bS 336 [.int .i64 (n:Int),.iface oT ov,.slice (some ⟨cS,0,none⟩) (tw n) (tw n),.slice (some ⟨cQ,0,none⟩) n n,.slice (some ⟨bP,0,none⟩) (2*n+1) (2*n+1),.int .i64 0] ∧
 Row w' cS 387 (zeros (.int .i64 0) (tw n))∧Row w' cQ 388 (zeros (.int .i64 0) (n*3))∧Row w' bP 344 (gF (2*n+1) (mW n) k bW) ∧
 (∀ r,r<k→Row w' (bW r) 387 (zeros (.int .i64 0) (mW n))∧bS<bW r)∧(∀ r s,r<s→s<k→bW r<bW s)∧Below W0.heap.size W0 w'
def row.vK (W0:World) (bS cS cQ bP n:Nat) (oT:TypeId) (ov:Value) (k:Nat) (bW:Nat→Nat) (w':World):Prop :=
 Row w' bS 323 [.int .i64 (n:Int),.iface oT ov,.slice (some ⟨cS,0,none⟩) (tw n) (tw n),.slice (some ⟨cQ,0,none⟩) n n,.slice (some ⟨bP,0,none⟩) (2*n+1) (2*n+1),.int .i64 0] ∧
 Row w' cS 387 (zeros (.int .i64 0) (tw n))∧Row w' cQ 388 (zeros (.int .i64 0) (n*3))∧Row w' bP 331 (gF (2*n+1) (mW n) k bW) ∧
 (∀ r,r<k→Row w' (bW r) 387 (zeros (.int .i64 0) (mW n))∧bS<bW r)∧(∀ r s,r<s→s<k→bW r<bW s)∧Below W0.heap.size W0 w'
def yY (vK:World→Nat→Nat→Nat→Nat→Nat→TypeId→Value→Nat→(Nat→Nat)→World→Prop):Prop:=∀ {W0:World} {bS cS cQ bP n:Nat} {oT:TypeId} {ov:Value} {k:Nat} {bW:Nat→Nat} {w' w3:World} (_h:vK W0 bS cS cQ bP n oT ov k bW w') (_hb:Below w'.heap.size w' w3) (_z3:W0.heap.size≤bP) (_z5:cS≠bP) (_z6:cQ≠bP) (_z9:bP<bS),vK W0 bS cS cQ bP n oT ov (k+1) (fun r=>if r=k then w3.heap.size else bW r) ((w3.alloc (.cells (zeros (.int .i64 0) (mW n)).toArray 387)).setCell ⟨bP,2*k,none⟩ (.slice (some ⟨w3.heap.size,0,none⟩) (mW n) (mW n)))
open row in
theorem lV:yY int.vK∧yY list.vK∧yY tree.vK∧yY row.vK:=by
 refine ⟨?_,?_,?_,?_⟩<;>intro W0 bS cS cQ bP n oT ov k bW w' w3 h hb z3 z5 z6 z9
 all_goals
  obtain ⟨hS,hTg,aj,hP,hW,hI,hB⟩:=h;have hz:=hb.size;have hlP:=hP.lt;have hlS:=hS.lt;refine ⟨((hS.old hb).alloc _).setOther (by simp;omega) _,((hTg.old hb).alloc _).setOther z5 _,((aj.old hb).alloc _).setOther z6 _,?_,?_,?_,?_⟩
  ·rw [←jh];exact ((hP.old hb).alloc _).set _ _
  ·intro r hr
   by_cases e:r=k
   ·subst e
    simp only [if_true];exact ⟨(aV rfl).setOther (by simp;omega) _,by omega⟩
   ·simp only [aN e]
    obtain ⟨h1,h2⟩:=hW r (by omega);exact ⟨((h1.old hb).alloc _).setOther (by simp;omega) _,h2⟩
  ·intro r s h1 h2
   by_cases e:s=k
   ·subst e
    have hr:=(hW r h1).1.lt;simp only [if_true,aN (show ¬r=s by omega)];omega
   ·simp only [aN e,aN (show ¬r=k by omega)]
    exact hI r s h1 (by omega)
  ·exact (cI (aS hB hb hB.size) (bK hB.size hz) _).setCell z3 _
theorem int.vK.next:yY int.vK:=lV.1
theorem list.vK.next:yY list.vK:=lV.2.1
theorem tree.vK.next:yY tree.vK:=lV.2.2.1
theorem row.vK.next:yY row.vK:=lV.2.2.2
def int.mB (bB:Nat):List Value:=[.int .i64 0]++[.pointer (some ⟨bB,0,none⟩)]++[.int .i64 0]++[.pointer (some ⟨bB,0,none⟩)]
def list.mB (bB:Nat):List Value:=[.pointer none]++[.pointer (some ⟨bB,0,none⟩)]++[.pointer none]++[.pointer (some ⟨bB,0,none⟩)]
def tree.mB (bB:Nat):List Value:=[.pointer none]++[.pointer (some ⟨bB,0,none⟩)]++[.pointer none]++[.pointer (some ⟨bB,0,none⟩)]
def row.mB (bB:Nat):List Value:=[.pointer none,.pointer none]++[.pointer (some ⟨bB,0,none⟩)]++[.pointer none,.pointer none]++[.pointer (some ⟨bB,0,none⟩)]
def int.eY (base bS cS cQ bP n:Nat) (oT:TypeId) (ov:Value) (bW:Nat→Nat) (bB bE:Nat) (w':World):Prop :=
 Row w' bS 296 [.int .i64 (n:Int),.iface oT ov,.slice (some ⟨cS,0,none⟩) (tw n) (tw n),.slice (some ⟨cQ,0,none⟩) n n,.slice (some ⟨bP,0,none⟩) (2*n+1) (2*n+1),.int .i64 0] ∧
 Row w' cS 387 (zeros (.int .i64 0) (tw n))∧Row w' cQ 388 (zeros (.int .i64 0) (n*3))∧Row w' bP 304 ((gF (2*n+1) (mW n) (2*n+1) bW).set 1 (.pointer (some ⟨bE,0,none⟩))) ∧
 (∀ r,r<2*n+1→Row w' (bW r) 387 (zeros (.int .i64 0) (mW n))∧bS<bW r∧bW r<bB)∧(∀ r s,r<s→s<2*n+1→bW r<bW s) ∧
 Row w' bB 306 [.int .i64 0,.slice none 0 0,.pointer none]∧Row w' bE 227 (mB bB) ∧
 base≤cS∧base≤cQ∧base≤bP∧cS≠cQ∧cS≠bP∧cQ≠bP∧cS<bS∧cQ<bS∧bP<bS∧bB<bE
def list.eY (base bS cS cQ bP n:Nat) (oT:TypeId) (ov:Value) (bW:Nat→Nat) (bB bE:Nat) (w':World):Prop :=
 Row w' bS 310 [.int .i64 (n:Int),.iface oT ov,.slice (some ⟨cS,0,none⟩) (tw n) (tw n),.slice (some ⟨cQ,0,none⟩) n n,.slice (some ⟨bP,0,none⟩) (2*n+1) (2*n+1),.int .i64 0] ∧
 Row w' cS 387 (zeros (.int .i64 0) (tw n))∧Row w' cQ 388 (zeros (.int .i64 0) (n*3))∧Row w' bP 318 ((gF (2*n+1) (mW n) (2*n+1) bW).set 1 (.pointer (some ⟨bE,0,none⟩))) ∧
 (∀ r,r<2*n+1→Row w' (bW r) 387 (zeros (.int .i64 0) (mW n))∧bS<bW r∧bW r<bB)∧(∀ r s,r<s→s<2*n+1→bW r<bW s) ∧
 Row w' bB 306 [.int .i64 0,.slice none 0 0,.pointer none]∧Row w' bE 241 (mB bB) ∧
 base≤cS∧base≤cQ∧base≤bP∧cS≠cQ∧cS≠bP∧cQ≠bP∧cS<bS∧cQ<bS∧bP<bS∧bB<bE
def tree.eY (base bS cS cQ bP n:Nat) (oT:TypeId) (ov:Value) (bW:Nat→Nat) (bB bE:Nat) (w':World):Prop :=
 Row w' bS 336 [.int .i64 (n:Int),.iface oT ov,.slice (some ⟨cS,0,none⟩) (tw n) (tw n),.slice (some ⟨cQ,0,none⟩) n n,.slice (some ⟨bP,0,none⟩) (2*n+1) (2*n+1),.int .i64 0] ∧
 Row w' cS 387 (zeros (.int .i64 0) (tw n))∧Row w' cQ 388 (zeros (.int .i64 0) (n*3))∧Row w' bP 344 ((gF (2*n+1) (mW n) (2*n+1) bW).set 1 (.pointer (some ⟨bE,0,none⟩))) ∧
 (∀ r,r<2*n+1→Row w' (bW r) 387 (zeros (.int .i64 0) (mW n))∧bS<bW r∧bW r<bB)∧(∀ r s,r<s→s<2*n+1→bW r<bW s) ∧
 Row w' bB 306 [.int .i64 0,.slice none 0 0,.pointer none]∧Row w' bE 269 (mB bB) ∧
 base≤cS∧base≤cQ∧base≤bP∧cS≠cQ∧cS≠bP∧cQ≠bP∧cS<bS∧cQ<bS∧bP<bS∧bB<bE
def row.eY (base bS cS cQ bP n:Nat) (oT:TypeId) (ov:Value) (bW:Nat→Nat) (bB bE:Nat) (w':World):Prop :=
 Row w' bS 323 [.int .i64 (n:Int),.iface oT ov,.slice (some ⟨cS,0,none⟩) (tw n) (tw n),.slice (some ⟨cQ,0,none⟩) n n,.slice (some ⟨bP,0,none⟩) (2*n+1) (2*n+1),.int .i64 0] ∧
 Row w' cS 387 (zeros (.int .i64 0) (tw n))∧Row w' cQ 388 (zeros (.int .i64 0) (n*3))∧Row w' bP 331 ((gF (2*n+1) (mW n) (2*n+1) bW).set 1 (.pointer (some ⟨bE,0,none⟩))) ∧
 (∀ r,r<2*n+1→Row w' (bW r) 387 (zeros (.int .i64 0) (mW n))∧bS<bW r∧bW r<bB)∧(∀ r s,r<s→s<2*n+1→bW r<bW s) ∧
 Row w' bB 306 [.int .i64 0,.slice none 0 0,.pointer none]∧Row w' bE 255 (mB bB) ∧
 base≤cS∧base≤cQ∧base≤bP∧cS≠cQ∧cS≠bP∧cQ≠bP∧cS<bS∧cQ<bS∧bP<bS∧bB<bE
def tQ (eY:Nat→Nat→Nat→Nat→Nat→Nat→TypeId→Value→(Nat→Nat)→Nat→Nat→World→Prop):Prop:=∀ {base base' bS cS cQ bP n:Nat} {oT:TypeId} {ov:Value} {bW:Nat→Nat} {bB bE:Nat} {w':World} (_h:eY base bS cS cQ bP n oT ov bW bB bE w') (_hb:base'≤base),eY base' bS cS cQ bP n oT ov bW bB bE w'
open row in
theorem iT:tQ int.eY∧tQ list.eY∧tQ tree.eY∧tQ row.eY:=by
 refine ⟨?_,?_,?_,?_⟩<;>intro base base' bS cS cQ bP n oT ov bW bB bE w' h hb
 all_goals
  obtain ⟨a1,a2,a3,a4,a5,a6,a7,a8,z1,z2,z3,z⟩:=h;exact ⟨a1,a2,a3,a4,a5,a6,a7,a8,by omega,by omega,by omega,z⟩
theorem int.eY.base:tQ int.eY:=iT.1
theorem list.eY.base:tQ list.eY:=iT.2.1
theorem tree.eY.base:tQ tree.eY:=iT.2.2.1
theorem row.eY.base:tQ row.eY:=iT.2.2.2
def int.vK.uT:Prop:=∀ {W0:World} {bS cS cQ bP n:Nat} {oT:TypeId} {ov:Value} {bW:Nat→Nat} {wr w4 W5 w6:World} {vs:List Value} (_h:vK W0 bS cS cQ bP n oT ov (2*n+1) bW wr) (_hb4:Below wr.heap.size wr w4) (_h5:W5=(w4.alloc (.cells [Value.int .i64 0,.slice none 0 0,.pointer none].toArray 306)).alloc (.cells vs.toArray 225)) (_h6:w6=(W5.alloc (.cells (mB w4.heap.size).toArray 227)).drew.setCell ⟨bP,1,none⟩ (.pointer (some ⟨W5.heap.size,0,none⟩))) (_z1:W0.heap.size≤cS) (_z2:W0.heap.size≤cQ) (_z3:W0.heap.size≤bP) (_z4:cS≠cQ) (_z5:cS≠bP) (_z6:cQ≠bP) (_z7:cS<bS) (_z8:cQ<bS) (_z9:bP<bS),eY W0.heap.size bS cS cQ bP n oT ov bW w4.heap.size W5.heap.size w6∧Below W0.heap.size W0 w6
def list.vK.uT:Prop:=∀ {W0:World} {bS cS cQ bP n:Nat} {oT:TypeId} {ov:Value} {bW:Nat→Nat} {wr w4 W5 w6:World} {vs:List Value} (_h:vK W0 bS cS cQ bP n oT ov (2*n+1) bW wr) (_hb4:Below wr.heap.size wr w4) (_h5:W5=(w4.alloc (.cells [Value.int .i64 0,.slice none 0 0,.pointer none].toArray 306)).alloc (.cells vs.toArray 239)) (_h6:w6=(W5.alloc (.cells (mB w4.heap.size).toArray 241)).drew.setCell ⟨bP,1,none⟩ (.pointer (some ⟨W5.heap.size,0,none⟩))) (_z1:W0.heap.size≤cS) (_z2:W0.heap.size≤cQ) (_z3:W0.heap.size≤bP) (_z4:cS≠cQ) (_z5:cS≠bP) (_z6:cQ≠bP) (_z7:cS<bS) (_z8:cQ<bS) (_z9:bP<bS),eY W0.heap.size bS cS cQ bP n oT ov bW w4.heap.size W5.heap.size w6∧Below W0.heap.size W0 w6
def tree.vK.uT:Prop:=∀ {W0:World} {bS cS cQ bP n:Nat} {oT:TypeId} {ov:Value} {bW:Nat→Nat} {wr w4 W5 w6:World} {vs:List Value} (_h:vK W0 bS cS cQ bP n oT ov (2*n+1) bW wr) (_hb4:Below wr.heap.size wr w4) (_h5:W5=(w4.alloc (.cells [Value.int .i64 0,.slice none 0 0,.pointer none].toArray 306)).alloc (.cells vs.toArray 267)) (_h6:w6=(W5.alloc (.cells (mB w4.heap.size).toArray 269)).drew.setCell ⟨bP,1,none⟩ (.pointer (some ⟨W5.heap.size,0,none⟩))) (_z1:W0.heap.size≤cS) (_z2:W0.heap.size≤cQ) (_z3:W0.heap.size≤bP) (_z4:cS≠cQ) (_z5:cS≠bP) (_z6:cQ≠bP) (_z7:cS<bS) (_z8:cQ<bS) (_z9:bP<bS),eY W0.heap.size bS cS cQ bP n oT ov bW w4.heap.size W5.heap.size w6∧Below W0.heap.size W0 w6
def row.vK.uT:Prop:=∀ {W0:World} {bS cS cQ bP n:Nat} {oT:TypeId} {ov:Value} {bW:Nat→Nat} {wr w4 W5 w6:World} {vs:List Value} (_h:vK W0 bS cS cQ bP n oT ov (2*n+1) bW wr) (_hb4:Below wr.heap.size wr w4) (_h5:W5=(w4.alloc (.cells [Value.int .i64 0,.slice none 0 0,.pointer none].toArray 306)).alloc (.cells vs.toArray 253)) (_h6:w6=(W5.alloc (.cells (mB w4.heap.size).toArray 255)).drew.setCell ⟨bP,1,none⟩ (.pointer (some ⟨W5.heap.size,0,none⟩))) (_z1:W0.heap.size≤cS) (_z2:W0.heap.size≤cQ) (_z3:W0.heap.size≤bP) (_z4:cS≠cQ) (_z5:cS≠bP) (_z6:cQ≠bP) (_z7:cS<bS) (_z8:cQ<bS) (_z9:bP<bS),eY W0.heap.size bS cS cQ bP n oT ov bW w4.heap.size W5.heap.size w6∧Below W0.heap.size W0 w6
open row in
theorem yX:int.vK.uT∧list.vK.uT∧tree.vK.uT∧row.vK.uT:=by
 refine ⟨?_,?_,?_,?_⟩<;>intro W0 bS cS cQ bP n oT ov bW wr w4 W5 w6 vs h dQ h5 h6 z1 z2 z3 z4 z5 z6 z7 z8 z9
 all_goals
  obtain ⟨hS,hTg,aj,hP,hW,hI,hB⟩:=h;have hz:=dQ.size;have hlP:=hP.lt;have hlS:=hS.lt;have hs5:W5.heap.size=w4.heap.size+2:=by rw [h5];simp
  have xU:Below w4.heap.size w4 W5:=by rw [h5];exact ((aT _ _).alloc (bQ _) _).alloc (by simp) _
  have hbB:Row W5 w4.heap.size 306 [.int .i64 0,.slice none 0 0,.pointer none]:=by rw [h5];exact (aV rfl).alloc _
  have old:∀ {g:Nat} {t:TypeId} {xs:List Value},Row wr g t xs→g≠bP→Row w6 g t xs:=fun {g t xs} hr hne=>by
   rw [h6];exact Row.setOther (a:=⟨bP,1,none⟩) (Row.alloc ((hr.old dQ).old xU) _).drew hne _
  refine ⟨⟨old hS (by omega),old hTg z5,old aj z6,?_,?_,hI,?_,?_,z1,z2,z3,z4,z5,z6,z7,z8,z9,by omega⟩,?_⟩
  ·rw [h6];exact (Row.alloc ((hP.old dQ).old xU) _).drew.set _ _
  ·intro r hr
   obtain ⟨h1,h2⟩:=hW r hr;have:=h1.lt;exact ⟨old h1 (by omega),h2,by omega⟩
  ·rw [h6];exact Row.setOther (a:=⟨bP,1,none⟩) (Row.alloc hbB _).drew (by simp;omega) _
  ·rw [h6];exact Row.setOther (a:=⟨bP,1,none⟩) (aV (w:=W5) rfl).drew (by simp;omega) _
  ·rw [h6]
   have hq:Below W0.heap.size W0 W5:=aS (aS hB dQ hB.size) xU (bK hB.size hz);exact (cI hq hq.size _).drew.setCell z3 _
theorem int.vK.done:uT:=yX.1
theorem list.vK.done:uT:=yX.2.1
theorem tree.vK.done:uT:=yX.2.2.1
theorem row.vK.done:uT:=yX.2.2.2
def int.dO:Prop:=∀ (oT:TypeId) (ov:Value) (fF:Nat) (rv:Value) (_hm:∀ w,(method 553 oT ov "First").run prog w = .ok (fF,rv) w) (_LG:∀ w,(callFunc fF #[rv]).run prog w = .ok (.enter fF #[rv]) w) (_hF:∀ w,Calls prog fF #[rv] w fun e w'=>e = .returned (.int .i64 0)∧Below w.heap.size w w') (n:Nat) (w:World) (_bz:1≤n) (_cj:n≤64),Calls prog 133 #[.iface oT ov,.int .i64 (n:Int)] w fun e w'=>∃ bS cS cQ bP bW bB bE,e = .returned (.pointer (some ⟨bS,0,none⟩))∧eY w.heap.size bS cS cQ bP n oT ov bW bB bE w'∧Below w.heap.size w w'
def list.dO:Prop:=∀ (oT:TypeId) (ov:Value) (fF:Nat) (rv:Value) (_hm:∀ w,(method 553 oT ov "First").run prog w = .ok (fF,rv) w) (_LG:∀ w,(callFunc fF #[rv]).run prog w = .ok (.enter fF #[rv]) w) (_hF:∀ w,Calls prog fF #[rv] w fun e w'=>e = .returned (.pointer none)∧Below w.heap.size w w') (n:Nat) (w:World) (_bz:1≤n) (_cj:n≤64),Calls prog 135 #[.iface oT ov,.int .i64 (n:Int)] w fun e w'=>∃ bS cS cQ bP bW bB bE,e = .returned (.pointer (some ⟨bS,0,none⟩))∧eY w.heap.size bS cS cQ bP n oT ov bW bB bE w'∧Below w.heap.size w w'
def tree.dO:Prop:=∀ (oT:TypeId) (ov:Value) (fF:Nat) (rv:Value) (_hm:∀ w,(method 553 oT ov "First").run prog w = .ok (fF,rv) w) (_LG:∀ w,(callFunc fF #[rv]).run prog w = .ok (.enter fF #[rv]) w) (_hF:∀ w,Calls prog fF #[rv] w fun e w'=>e = .returned (.pointer none)∧Below w.heap.size w w') (n:Nat) (w:World) (_bz:1≤n) (_cj:n≤64),Calls prog 139 #[.iface oT ov,.int .i64 (n:Int)] w fun e w'=>∃ bS cS cQ bP bW bB bE,e = .returned (.pointer (some ⟨bS,0,none⟩))∧eY w.heap.size bS cS cQ bP n oT ov bW bB bE w'∧Below w.heap.size w w'
def row.dO:Prop:=∀ (oT:TypeId) (ov:Value) (fF:Nat) (rv:Value) (_hm:∀ w,(method 553 oT ov "First").run prog w = .ok (fF,rv) w) (_LG:∀ w,(callFunc fF #[rv]).run prog w = .ok (.enter fF #[rv]) w) (_hF:∀ w,Calls prog fF #[rv] w fun e w'=>e = .returned (.agg #[.pointer none,.pointer none])∧Below w.heap.size w w') (n:Nat) (w:World) (_bz:1≤n) (_cj:n≤64),Calls prog 137 #[.iface oT ov,.int .i64 (n:Int)] w fun e w'=>∃ bS cS cQ bP bW bB bE,e = .returned (.pointer (some ⟨bS,0,none⟩))∧eY w.heap.size bS cS cQ bP n oT ov bW bB bE w'∧Below w.heap.size w w'
open row in
theorem nO:int.dO∧list.dO∧tree.dO∧row.dO:=by
 refine ⟨@mkK _ 0 ?_,@mkK _ 1 ?_,@mkK _ 2 ?_,@mkK _ 3 ?_⟩<;>intro kk oT ov fF rv hm eP hF n w _h0 _h1
 all_goals
  have aLV:=kS (P:=prog) 288 387 (.agg #[.int .i64 0]) 1 8 [.int .i64 0] underlying288 RV rfl (by decide) (((n:Int)+15) / 16) (tw n) (by unfold tw;omega) (by unfold tw;omega) (by unfold tw;omega);have aLU:=kS (P:=prog) 288 387 (.agg #[.int .i64 0]) 1 8 [.int .i64 0] underlying288 RV rfl (by decide) (((n:Int)+15) / 16+2*(n:Int)) (mW n) (by unfold mW;omega) (by unfold mW;omega) (by unfold mW;omega);have aLT:=kS (P:=prog) 289 388 (.agg #[.int .i64 0,.int .i64 0,.int .i64 0]) 3 24 [.int .i64 0,.int .i64 0,.int .i64 0] underlying289 YM rfl (by decide) (n:Int) n (by omega) (by omega) (by omega)
  first|(have:=kA kk;have aE3:=kS (P:=prog) 290 304 (.agg #[.slice none 0 0,.pointer none]) 2 32 [.slice none 0 0,.pointer none] underlying290 int.mD rfl (by decide) (2*(n:Int)+1) (2*n+1) (by omega) (by omega) (by omega))|(have:=kB kk;have aE3:=kS (P:=prog) 308 318 (.agg #[.slice none 0 0,.pointer none]) 2 32 [.slice none 0 0,.pointer none] underlying308 list.mD rfl (by decide) (2*(n:Int)+1) (2*n+1) (by omega) (by omega) (by omega))|(have:=kC kk;have aE3:=kS (P:=prog) 334 344 (.agg #[.slice none 0 0,.pointer none]) 2 32 [.slice none 0 0,.pointer none] underlying334 tree.mD rfl (by decide) (2*(n:Int)+1) (2*n+1) (by omega) (by omega) (by omega))|(have:=kD kk;have aE3:=kS (P:=prog) 321 331 (.agg #[.slice none 0 0,.pointer none]) 2 32 [.slice none 0 0,.pointer none] underlying321 row.mD rfl (by decide) (2*(n:Int)+1) (2*n+1) (by omega) (by omega) (by omega))
  rw [aDk] at aLV aLU;rw [ya] at aLT;have hw1:IntKind.i64.wrap (2*(n:Int))=2*(n:Int):=eS _ (by omega) (by omega);have hw2:IntKind.i64.wrap (2*(n:Int)+1)=2*(n:Int)+1:=eS _ (by omega) (by omega);have HF:=aA hF;clear hF
  first|(have:=kA kk;go_enter func133,ntmps133)|(have:=kB kk;go_enter func135,ntmps135)|(have:=kC kk;go_enter func139,ntmps139)|(have:=kD kk;go_enter func137,ntmps137)
  go_wp2;generalize pT:World.alloc w _=W0;have hb0:Below w.heap.size w W0:=by rw [←pT];exact aB w _
  have hs0:w.heap.size<W0.heap.size:=by rw [←pT];simp
  have hc0:W0.cell? ⟨w.heap.size,0,none⟩=some (.int .i64 (n:Int)):=by rw [←pT];exact (dH w [_] 287).cell_of rfl
  clear pT
  first
   |have:=kA kk
    go_cut [6] (fun s w'=>∃ bS cS cQ bP,s = .pointer (some ⟨bS,0,none⟩) ∧
     Row w' bS 296 [.int .i64 (n:Int),.iface oT ov,.slice (some ⟨cS,0,none⟩) (tw n) (tw n),.slice (some ⟨cQ,0,none⟩) n n,.slice (some ⟨bP,0,none⟩) (2*n+1) (2*n+1),.int .i64 0] ∧
     Below W0.heap.size W0 w'∧W0.heap.size≤cS∧W0.heap.size≤cQ∧W0.heap.size≤bP∧cS≠cQ∧cS≠bP∧cQ≠bP∧cS<bS∧cQ<bS∧bP<bS ∧
     Row w' cS 387 (zeros (.int .i64 0) (tw n))∧Row w' cQ 388 (zeros (.int .i64 0) (n*3))∧Row w' bP 304 (rep [.slice none 0 0,.pointer none] ((2*n+1)*2)))
   |have:=kB kk
    go_cut [6] (fun s w'=>∃ bS cS cQ bP,s = .pointer (some ⟨bS,0,none⟩) ∧
     Row w' bS 310 [.int .i64 (n:Int),.iface oT ov,.slice (some ⟨cS,0,none⟩) (tw n) (tw n),.slice (some ⟨cQ,0,none⟩) n n,.slice (some ⟨bP,0,none⟩) (2*n+1) (2*n+1),.int .i64 0] ∧
     Below W0.heap.size W0 w'∧W0.heap.size≤cS∧W0.heap.size≤cQ∧W0.heap.size≤bP∧cS≠cQ∧cS≠bP∧cQ≠bP∧cS<bS∧cQ<bS∧bP<bS ∧
     Row w' cS 387 (zeros (.int .i64 0) (tw n))∧Row w' cQ 388 (zeros (.int .i64 0) (n*3))∧Row w' bP 318 (rep [.slice none 0 0,.pointer none] ((2*n+1)*2)))
   |have:=kC kk
    go_cut [6] (fun s w'=>∃ bS cS cQ bP,s = .pointer (some ⟨bS,0,none⟩) ∧
     Row w' bS 336 [.int .i64 (n:Int),.iface oT ov,.slice (some ⟨cS,0,none⟩) (tw n) (tw n),.slice (some ⟨cQ,0,none⟩) n n,.slice (some ⟨bP,0,none⟩) (2*n+1) (2*n+1),.int .i64 0] ∧
     Below W0.heap.size W0 w'∧W0.heap.size≤cS∧W0.heap.size≤cQ∧W0.heap.size≤bP∧cS≠cQ∧cS≠bP∧cQ≠bP∧cS<bS∧cQ<bS∧bP<bS ∧
     Row w' cS 387 (zeros (.int .i64 0) (tw n))∧Row w' cQ 388 (zeros (.int .i64 0) (n*3))∧Row w' bP 344 (rep [.slice none 0 0,.pointer none] ((2*n+1)*2)))
   |have:=kD kk
    go_cut [6] (fun s w'=>∃ bS cS cQ bP,s = .pointer (some ⟨bS,0,none⟩) ∧
     Row w' bS 323 [.int .i64 (n:Int),.iface oT ov,.slice (some ⟨cS,0,none⟩) (tw n) (tw n),.slice (some ⟨cQ,0,none⟩) n n,.slice (some ⟨bP,0,none⟩) (2*n+1) (2*n+1),.int .i64 0] ∧
     Below W0.heap.size W0 w'∧W0.heap.size≤cS∧W0.heap.size≤cQ∧W0.heap.size≤bP∧cS≠cQ∧cS≠bP∧cQ≠bP∧cS<bS∧cQ<bS∧bP<bS ∧
     Row w' cS 387 (zeros (.int .i64 0) (tw n))∧Row w' cQ 388 (zeros (.int .i64 0) (n*3))∧Row w' bP 331 (rep [.slice none 0 0,.pointer none] ((2*n+1)*2)))
  case first =>
   refine fH (S:=(fun w'=>Below W0.heap.size W0 w'∧w'.cell? ⟨w.heap.size,0,none⟩=some (.int .i64 (n:Int)))) 14 rfl (by kernel_rfl) ?_ (fun hHeld=>?_)
   ·exact ⟨dU (aT _ _),hc0⟩
   repeat' first
    |(
     (first|refine ZY [3,4,6,10,12] 13 (by rfl) (by decide +kernel) ?_|refine ZY [3,4,6,10,12] 15 (by rfl) (by decide +kernel) ?_|refine ZY [3,4,6,10,12] 16 (by rfl) (by decide +kernel) ?_)
     refine ⟨_,by exact fun _ _ _ h=>h,.inl ⟨by rfl,fun w hS=>by (try dsimp only at hS);go_simp;(try with_reducible rfl)⟩,by assumption,?_⟩
     (try go_frame)
     )
    |(
     (first|refine pF 10 (by rfl) (by decide +kernel) (fun K hK PY=>?_)|refine pF 12 (by rfl) (by decide +kernel) (fun K hK PY=>?_)|refine pF 6 (by rfl) (by decide +kernel) (fun K hK PY=>?_)|refine pF 4 (by rfl) (by decide +kernel) (fun K hK PY=>?_)|refine pF 3 (by rfl) (by decide +kernel) (fun K hK PY=>?_)|refine fC (rs:=[3,6,10]) (by decide +kernel) (by simp) (JF (by rfl) (fun K hK PY=>?_) (JF (by rfl) (fun K hK PY=>?_) (JF (by rfl) (fun K hK PY=>?_) AllReadyH.nil)))|refine fC (rs:=[4,6,10]) (by decide +kernel) (by simp) (JF (by rfl) (fun K hK PY=>?_) (JF (by rfl) (fun K hK PY=>?_) (JF (by rfl) (fun K hK PY=>?_) AllReadyH.nil)))|refine fC (rs:=[6,10]) (by decide +kernel) (by simp) (JF (by rfl) (fun K hK PY=>?_) (JF (by rfl) (fun K hK PY=>?_) AllReadyH.nil))|refine fC (rs:=[4,10]) (by decide +kernel) (by simp) (JF (by rfl) (fun K hK PY=>?_) (JF (by rfl) (fun K hK PY=>?_) AllReadyH.nil))|refine fC (rs:=[4,6]) (by decide +kernel) (by simp) (JF (by rfl) (fun K hK PY=>?_) (JF (by rfl) (fun K hK PY=>?_) AllReadyH.nil))|refine fC (rs:=[3,10]) (by decide +kernel) (by simp) (JF (by rfl) (fun K hK PY=>?_) (JF (by rfl) (fun K hK PY=>?_) AllReadyH.nil))|refine fC (rs:=[3,6]) (by decide +kernel) (by simp) (JF (by rfl) (fun K hK PY=>?_) (JF (by rfl) (fun K hK PY=>?_) AllReadyH.nil)))
     all_goals first
      |(
       have _:On 3:=PY;go_simp;refine (iH (n:Int) _ (by omega) (by omega)).mono ?_;rintro e w2 ⟨rfl,bI⟩;have YJ:=bI.size
       (try simp at YJ)
       go_wp2_with fail;refine hK.out _ _ ?_ (fun hHeld=>?_)
       ·exact ⟨aS hHeld.1 bI hHeld.1.size,aI bI hHeld.2⟩
       clear hK K PY
       (try go_frame)
       )
      |(
       go_simp;refine hK.out _ _ ?_ (fun hHeld=>?_)
       ·exact ⟨hHeld.1.alloc hHeld.1.size _,aI (aB _ _) hHeld.2⟩
       clear hK K PY
       (try go_frame)
       )
     )
    |(
     refine cC (by decide +kernel) ?_ _
     (try go_wp2_with fail)
     go_meet
     case rel =>
      refine ⟨_,_,_,_,rfl,aV (by simp),hHeld.1,?_⟩
      (refine ⟨?_,?_,?_,?_,?_,?_,?_,?_,?_,?_,?_,?_⟩)<;>first|(simp;omega)|omega|(repeat (first|exact aV (by simp)|refine Row.alloc ?_ _|refine Row.old ?_ bI))
     )
  case rest =>
   obtain ⟨bS,cS,cQ,bP,rfl,hS,hB,z1,z2,z3,z4,z5,z6,z7,z8,z9,hTg,aj,hP⟩:=hcut;rw [ZD _ (mW n) (fun _=>0)] at hP
   first|(have:=kA kk;have hI0:int.vK W0 bS cS cQ bP n oT ov 0 (fun _=>0) wc:=⟨hS,hTg,aj,hP,fun r hr=>absurd hr (by omega),fun r s _ h=>absurd h (by omega),hB⟩)|(have:=kB kk;have hI0:list.vK W0 bS cS cQ bP n oT ov 0 (fun _=>0) wc:=⟨hS,hTg,aj,hP,fun r hr=>absurd hr (by omega),fun r s _ h=>absurd h (by omega),hB⟩)|(have:=kC kk;have hI0:tree.vK W0 bS cS cQ bP n oT ov 0 (fun _=>0) wc:=⟨hS,hTg,aj,hP,fun r hr=>absurd hr (by omega),fun r s _ h=>absurd h (by omega),hB⟩)|(have:=kD kk;have hI0:row.vK W0 bS cS cQ bP n oT ov 0 (fun _=>0) wc:=⟨hS,hTg,aj,hP,fun r hr=>absurd hr (by omega),fun r s _ h=>absurd h (by omega),hB⟩)
   have aQT:=hS.cell_of (i:=4) rfl;clear hS hTg aj hP hB;go_wp2
   first|(have:=kA kk;go_loopw [29] (fun i w'=>∃ k bW,k≤2*n+1∧i = .int .i64 (k:Int)∧int.vK W0 bS cS cQ bP n oT ov k bW w') (fun i _=>2*n+1-(intOf i).toNat))|(have:=kB kk;go_loopw [29] (fun i w'=>∃ k bW,k≤2*n+1∧i = .int .i64 (k:Int)∧list.vK W0 bS cS cQ bP n oT ov k bW w') (fun i _=>2*n+1-(intOf i).toNat))|(have:=kC kk;go_loopw [29] (fun i w'=>∃ k bW,k≤2*n+1∧i = .int .i64 (k:Int)∧tree.vK W0 bS cS cQ bP n oT ov k bW w') (fun i _=>2*n+1-(intOf i).toNat))|(have:=kD kk;go_loopw [29] (fun i w'=>∃ k bW,k≤2*n+1∧i = .int .i64 (k:Int)∧row.vK W0 bS cS cQ bP n oT ov k bW w') (fun i _=>2*n+1-(intOf i).toNat))
   case atStart=>exact ⟨0,_,aW _,rfl,hI0⟩
   case round =>
    obtain ⟨k,bW,hk,rfl,hI⟩:=hrel
    by_cases hlt:k<2*n+1
    ·have hlt':(k:Int)<2*(n:Int)+1:=by omega
     have aDJ:(k:Int)<(2*n+1:Nat):=by omega
     have WU:(0:Int)≤(k:Int):=by omega
     have hcS:wr.cell? ⟨bS,4,none⟩=some (.slice (some ⟨bP,0,none⟩) (2*n+1) (2*n+1)):=hI.1.cell_of rfl;have hcN:wr.cell? ⟨w.heap.size,0,none⟩=some (.int .i64 (n:Int)):=aI hI.2.2.2.2.2.2 hc0;have FC:wr.there bP (k*2) 1:=hI.2.2.2.1.there (by rw [xF];omega);have hsz:(prog.info? 288).map (·.size)=some 1:=by kernel_rfl
     have YH:bS≠bP:=by omega
     have aAW:w.heap.size≠bP:=by omega
     have HI:=aA hI;clear hI;go_wp2;refine fH (S:=(fun w'=>w'.cell? ⟨bS,4,none⟩=some (.slice (some ⟨bP,0,none⟩) (2*n+1) (2*n+1))∧w'.cell? ⟨w.heap.size,0,none⟩=some (.int .i64 (n:Int))∧w'.there bP (k*2) 1)) 11 rfl (by kernel_rfl) ?_ (fun hHeld=>?_)
     ·exact ⟨hcS,hcN,FC⟩
     iterate 6 (refine tk 10 (by rfl) (by kernel_rfl) (by exact fun _ _ _ h=>h) (.inl ⟨by rfl,fun w hS=>by (try dsimp only at hS);go_simp;(try with_reducible rfl)⟩) (by assumption) ?_;try go_frame)
     refine cT 6 (by rfl) (by kernel_rfl) (fun K hK=>?_);go_simp;refine (sV (n:Int) _ (by omega) (by omega)).mono ?_;rintro e w3 ⟨rfl,cP⟩;go_wp2_with fail;refine hK.out _ _ ?_ (fun hHeld=>?_)
     ·exact ⟨aI cP hHeld.1,aI cP hHeld.2.1,aU cP hHeld.2.2⟩
     clear hK K
     (try go_frame)
     refine cT 7 (by rfl) (by kernel_rfl) (fun K hK=>?_);go_simp;refine hK.out _ _ ?_ (fun hHeld=>?_)
     ·exact ⟨aI (aB _ _) hHeld.1,aI (aB _ _) hHeld.2.1,BJ hHeld.2.2 _⟩
     clear hK K
     (try go_frame)
     iterate 2 (refine tk 10 (by rfl) (by kernel_rfl) (by exact fun _ _ _ h=>h) (.inl ⟨by rfl,fun w hS=>by (try dsimp only at hS);go_simp;(try with_reducible rfl)⟩) (by assumption) ?_;try go_frame)
     refine cT 10 (by rfl) (by kernel_rfl) (fun K hK=>?_);rw [aJ (by rfl)];refine aY _ _ _ rfl bP (k*2) _ rfl rfl rfl rfl hHeld.2.2 hsz ?_;refine hK.out _ _ ?_ (fun hHeld=>?_)
     ·exact ⟨(IY _ _ _ _ (nI YH)).trans hHeld.1,(IY _ _ _ _ (nI aAW)).trans hHeld.2.1,bA hHeld.2.2 _ rfl _⟩
     clear hK K
     (try go_frame)
     refine cC (by kernel_rfl) ?_ _
     (try go_wp2_with fail)
     go_roundw
     case rel =>
      rw [Nat.mul_comm k 2]
      first|(have:=kA kk;exact ⟨k+1,_,by omega,by go_num,int.vK.next HI.out (Below.dJ cP) z3 (by omega) (by omega) (by omega)⟩)|(have:=kB kk;exact ⟨k+1,_,by omega,by go_num,list.vK.next HI.out (Below.dJ cP) z3 (by omega) (by omega) (by omega)⟩)|(have:=kC kk;exact ⟨k+1,_,by omega,by go_num,tree.vK.next HI.out (Below.dJ cP) z3 (by omega) (by omega) (by omega)⟩)|(have:=kD kk;exact ⟨k+1,_,by omega,by go_num,row.vK.next HI.out (Below.dJ cP) z3 (by omega) (by omega) (by omega)⟩)
     case measure=>simp [intOf];omega
    ·have hke:k=2*n+1:=by omega
     subst hke;have hI':=hI;clear hI hlt;have hcP:wr.cell? ⟨bS,4,none⟩=some (.slice (some ⟨bP,0,none⟩) (2*n+1) (2*n+1)):=hI'.1.cell_of rfl;have HI:=aA hI';clear hI';have hlt':¬((2*n+1:Nat):Int)<2*(n:Int)+1:=by omega
     go_wp2_with fail;refine (HF.out _).mono ?_;rintro e w4 ⟨rfl,dQ⟩;go_wp2_with fail;generalize RR:World.alloc (World.alloc w4 _) _=W5;have hI:=HI.out;have xU:Below w4.heap.size w4 W5:=by rw [←RR];exact ((aT _ _).alloc (bQ _) _).alloc (by simp) _
     have aLv:W5.cell? ⟨bS,4,none⟩=some (.slice (some ⟨bP,0,none⟩) (2*n+1) (2*n+1)):=aI xU (aI dQ hcP);have aHm:W5.cell? ⟨bP,1,none⟩=some (.pointer none):=aI xU (aI dQ (hI.2.2.2.1.cell_of (jg (j:=0) (by omega))));have aLz:W5.frozen? ⟨bP,1,none⟩=false:=((hI.2.2.2.1.old dQ).old xU).frozen 1;obtain ⟨bV,hbV⟩:∃ bV,bV=w4.heap.size+1:=⟨_,rfl⟩
     first|(have:=kA kk;have hV:∃ vs,W5=(w4.alloc (.cells [Value.int .i64 0,.slice none 0 0,.pointer none].toArray 306)).alloc (.cells vs.toArray 225)∧vs=[.int .i64 0]++[.pointer (some ⟨w4.heap.size,0,none⟩)]:=⟨_,RR.symm,rfl⟩)|(have:=kB kk;have hV:∃ vs,W5=(w4.alloc (.cells [Value.int .i64 0,.slice none 0 0,.pointer none].toArray 306)).alloc (.cells vs.toArray 239)∧vs=[.pointer none]++[.pointer (some ⟨w4.heap.size,0,none⟩)]:=⟨_,RR.symm,rfl⟩)|(have:=kC kk;have hV:∃ vs,W5=(w4.alloc (.cells [Value.int .i64 0,.slice none 0 0,.pointer none].toArray 306)).alloc (.cells vs.toArray 267)∧vs=[.pointer none]++[.pointer (some ⟨w4.heap.size,0,none⟩)]:=⟨_,RR.symm,rfl⟩)|(have:=kD kk;have hV:∃ vs,W5=(w4.alloc (.cells [Value.int .i64 0,.slice none 0 0,.pointer none].toArray 306)).alloc (.cells vs.toArray 253)∧vs=[.pointer none,.pointer none]++[.pointer (some ⟨w4.heap.size,0,none⟩)]:=⟨_,RR.symm,rfl⟩)
     obtain ⟨vs,hV5,hvs⟩:=hV
     first|(have:=kA kk;have hVr:Row W5 bV 225 ([.int .i64 0]++[.pointer (some ⟨w4.heap.size,0,none⟩)]):=by rw [hV5,←hvs,hbV];exact aV (by simp))|(have:=kB kk;have hVr:Row W5 bV 239 ([.pointer none]++[.pointer (some ⟨w4.heap.size,0,none⟩)]):=by rw [hV5,←hvs,hbV];exact aV (by simp))|(have:=kC kk;have hVr:Row W5 bV 267 ([.pointer none]++[.pointer (some ⟨w4.heap.size,0,none⟩)]):=by rw [hV5,←hvs,hbV];exact aV (by simp))|(have:=kD kk;have hVr:Row W5 bV 253 ([.pointer none,.pointer none]++[.pointer (some ⟨w4.heap.size,0,none⟩)]):=by rw [hV5,←hvs,hbV];exact aV (by simp))
     first|(have:=kA kk;refine (have hVc:∀ w',Below W5.heap.size W5 w'→w'.cell? ⟨bV,0,none⟩=some (.int .i64 0)∧w'.cell? ⟨bV,1,none⟩=some (.pointer (some ⟨w4.heap.size,0,none⟩)):=?_;?_))|(have:=kB kk;refine (have hVc:∀ w',Below W5.heap.size W5 w'→w'.cell? ⟨bV,0,none⟩=some (.pointer none)∧w'.cell? ⟨bV,1,none⟩=some (.pointer (some ⟨w4.heap.size,0,none⟩)):=?_;?_))|(have:=kC kk;refine (have hVc:∀ w',Below W5.heap.size W5 w'→w'.cell? ⟨bV,0,none⟩=some (.pointer none)∧w'.cell? ⟨bV,1,none⟩=some (.pointer (some ⟨w4.heap.size,0,none⟩)):=?_;?_))|(have:=kD kk;refine (have hVc:∀ w',Below W5.heap.size W5 w'→w'.cell? ⟨bV,0,none⟩=some (.pointer none)∧w'.cell? ⟨bV,1,none⟩=some (.pointer none)∧w'.cell? ⟨bV,2,none⟩=some (.pointer (some ⟨w4.heap.size,0,none⟩)):=?_;?_))
     ·intro w' hw'
      have hq:=hVr.old hw';simp only [hq.cell];simp
     have HW5:=aA hV5;clear RR hV5 hI hvs hcP;have aLO:bP<W5.heap.size:=mX W5 _ aHm;have YH:bS≠bP:=by omega
     have aL1:bV≠bP:=by have h7:=(BG HI).2.2.2.1.lt;have h8:=dQ.size;omega
     have hpos:(0:Int)<2*(n:Int)+1:=by omega
     rw [←hbV];clear hbV;have hV0:=hVc W5 (aT _ _);clear hVc
     first|(have:=kA kk;refine fH (S:=(fun w'=>w'.cell? ⟨bS,4,none⟩=some (.slice (some ⟨bP,0,none⟩) (2*n+1) (2*n+1))∧w'.cell? ⟨bV,0,none⟩=some (.int .i64 0)∧w'.cell? ⟨bV,1,none⟩=some (.pointer (some ⟨w4.heap.size,0,none⟩)))) 12 rfl (by kernel_rfl) ?_ (fun hHeld=>?_))|(have:=kB kk;refine fH (S:=(fun w'=>w'.cell? ⟨bS,4,none⟩=some (.slice (some ⟨bP,0,none⟩) (2*n+1) (2*n+1))∧w'.cell? ⟨bV,0,none⟩=some (.pointer none)∧w'.cell? ⟨bV,1,none⟩=some (.pointer (some ⟨w4.heap.size,0,none⟩)))) 12 rfl (by kernel_rfl) ?_ (fun hHeld=>?_))|(have:=kC kk;refine fH (S:=(fun w'=>w'.cell? ⟨bS,4,none⟩=some (.slice (some ⟨bP,0,none⟩) (2*n+1) (2*n+1))∧w'.cell? ⟨bV,0,none⟩=some (.pointer none)∧w'.cell? ⟨bV,1,none⟩=some (.pointer (some ⟨w4.heap.size,0,none⟩)))) 12 rfl (by kernel_rfl) ?_ (fun hHeld=>?_))|(have:=kD kk;refine fH (S:=(fun w'=>w'.cell? ⟨bS,4,none⟩=some (.slice (some ⟨bP,0,none⟩) (2*n+1) (2*n+1))∧w'.cell? ⟨bV,0,none⟩=some (.pointer none)∧w'.cell? ⟨bV,1,none⟩=some (.pointer none)∧w'.cell? ⟨bV,2,none⟩=some (.pointer (some ⟨w4.heap.size,0,none⟩)))) 12 rfl (by kernel_rfl) ?_ (fun hHeld=>?_))
     ·exact ⟨aLv,hV0⟩
     iterate 10 (refine tk 11 (by rfl) (by kernel_rfl) (by exact fun _ _ _ h=>h) (.inl ⟨by rfl,fun w hS=>by (try dsimp only at hS);go_simp;(try with_reducible rfl)⟩) (by assumption) ?_;try go_frame)
     refine cT 10 (by rfl) (by kernel_rfl) (fun K hK=>?_);go_simp;refine hK.out _ _ ?_ (fun hHeld=>?_)
     ·(repeat' apply aP)<;>(first|exact aI (aB _ _) hHeld.1|exact aI (aB _ _) hHeld.2.1|exact aI (aB _ _) hHeld.2.2|exact aI (aB _ _) hHeld.2.2.1|exact aI (aB _ _) hHeld.2.2.2)
     clear hK K
     (try go_frame)
     refine cT 11 (by rfl) (by kernel_rfl) (fun K hK=>?_);go_simp
     first|(have:=kA kk;refine (int.jP bP 1 W5.heap.size (.pointer none) ((int.mB w4.heap.size).getD 0 undef) _ ?_ ?_ ?_).mono ?_)|(have:=kB kk;refine (list.jP bP 1 W5.heap.size (.pointer none) ((list.mB w4.heap.size).getD 0 undef) _ ?_ ?_ ?_).mono ?_)|(have:=kC kk;refine (tree.jP bP 1 W5.heap.size (.pointer none) ((tree.mB w4.heap.size).getD 0 undef) _ ?_ ?_ ?_).mono ?_)|(have:=kD kk;refine (row.jP bP 1 W5.heap.size (.pointer none) ((row.mB w4.heap.size).getD 0 undef) _ ?_ ?_ ?_).mono ?_)
     ·exact aI (dU (aB _ _)) aHm
     ·exact ((dU (aB W5 _)).frozen (p:=⟨bP,1,none⟩) aLO).trans aLz
     ·first|(have:=kA kk;exact (aV (w:=W5) (xs:=int.mB w4.heap.size) (t:=227) rfl).drew.cell_of rfl)|(have:=kB kk;exact (aV (w:=W5) (xs:=list.mB w4.heap.size) (t:=241) rfl).drew.cell_of rfl)|(have:=kC kk;exact (aV (w:=W5) (xs:=tree.mB w4.heap.size) (t:=269) rfl).drew.cell_of rfl)|(have:=kD kk;exact (aV (w:=W5) (xs:=row.mB w4.heap.size) (t:=255) rfl).drew.cell_of rfl)
     rintro e w6 ⟨rfl,hw6⟩;have H6:=aA hw6;clear hw6;go_wp2_with fail;refine hK.out _ _ ?_ (fun hHeld=>?_)
     ·(rw [H6.out];(repeat' apply aP)<;>(refine (IY _ _ _ _ (by first|exact nI YH|exact nI aL1)).trans ?_;first|exact hHeld.1|exact hHeld.2.1|exact hHeld.2.2|exact hHeld.2.2.1|exact hHeld.2.2.2))
     clear hK K
     (try go_frame)
     refine cC (by kernel_rfl) ?_ _
     (try go_wp2_with fail)
     go_ret
     first|(have:=kA kk;have aAQ:=int.vK.done HI.out dQ HW5.out H6.out (by omega) (by omega) z3 (by omega) (by omega) (by omega) (by omega) (by omega) (by omega))|(have:=kB kk;have aAQ:=list.vK.done HI.out dQ HW5.out H6.out (by omega) (by omega) z3 (by omega) (by omega) (by omega) (by omega) (by omega) (by omega))|(have:=kC kk;have aAQ:=tree.vK.done HI.out dQ HW5.out H6.out (by omega) (by omega) z3 (by omega) (by omega) (by omega) (by omega) (by omega) (by omega))|(have:=kD kk;have aAQ:=row.vK.done HI.out dQ HW5.out H6.out (by omega) (by omega) z3 (by omega) (by omega) (by omega) (by omega) (by omega) (by omega))
     exact ⟨bS,cS,cQ,bP,bW,w4.heap.size,W5.heap.size,rfl,aAQ.1.base (by omega),hb0.trans (aAQ.2.mono (by omega))⟩
theorem int.jJ:dO:=nO.1
theorem list.jJ:dO:=nO.2.1
theorem tree.jJ:dO:=nO.2.2.1
theorem row.jJ:dO:=nO.2.2.2
end Go.Proofs.YtefjhnhdagolhaaGreat
