import Derived.Test.YtefjhnhdagolhaaGreatProg
import Derived.Test.YtefjhnhdagolhaaGreatA05
set_option maxHeartbeats 1600000
set_option maxRecDepth 20000
namespace Go.Proofs.YtefjhnhdagolhaaGreat
open Tryz
namespace int
end int
namespace list
end list
namespace tree
end tree
namespace row
end row
open int list tree
open Go.RowKit
theorem int.eH:(prog.info? 227).map (fun i=>decide (i.size=0))=some false:=by kernel_rfl
theorem list.eH:(prog.info? 241).map (fun i=>decide (i.size=0))=some false:=by kernel_rfl
theorem tree.eH:(prog.info? 269).map (fun i=>decide (i.size=0))=some false:=by kernel_rfl
theorem row.eH:(prog.info? 255).map (fun i=>decide (i.size=0))=some false:=by kernel_rfl
def wJ (n0:Nat):Prop:=∀ (b o g:Nat) (u v:Value) (w:World) (_hc:w.cell? ⟨b,o,none⟩=some u) (_hz:w.frozen? ⟨b,o,none⟩=false) (_hg:w.cell? ⟨g,0,none⟩=some v),Calls prog n0 #[.pointer (some ⟨b,o,none⟩),.pointer (some ⟨g,0,none⟩)] w fun e w'=>e = .returned (.tuple #[])∧w'=w.setCell ⟨b,o,none⟩ (.pointer (some ⟨g,0,none⟩))
open row in
theorem kM:wJ 158∧wJ 159∧wJ 161∧wJ 160:=by
 refine ⟨@mkK _ 0 ?_,@mkK _ 1 ?_,@mkK _ 2 ?_,@mkK _ 3 ?_⟩<;>intro kk b o g u v w hc hz hg
 all_goals
  first|(have:=kA kk;have hcv:=run_convert_to_unsafe (P:=prog) (src:=297) (dst:=208) (t:=227) underlying297 underlying208 int.eH hg)|(have:=kB kk;have hcv:=run_convert_to_unsafe (P:=prog) (src:=311) (dst:=208) (t:=241) underlying311 underlying208 list.eH hg)|(have:=kC kk;have hcv:=run_convert_to_unsafe (P:=prog) (src:=337) (dst:=208) (t:=269) underlying337 underlying208 tree.eH hg)|(have:=kD kk;have hcv:=run_convert_to_unsafe (P:=prog) (src:=324) (dst:=208) (t:=255) underlying324 underlying208 row.eH hg)
  have hst:=LU (P:=prog) func165 (by kernel_rfl) (by kernel_rfl) (by kernel_rfl) (by kernel_rfl) (y:=some ⟨g,0,none⟩) hc hz;clear hc hz hg
  first|(have:=kA kk;go_enter func158,ntmps158)|(have:=kB kk;go_enter func159,ntmps159)|(have:=kC kk;go_enter func161,ntmps161)|(have:=kD kk;go_enter func160,ntmps160)
  go_wp2
  go_end0
  exact ⟨rfl,rfl⟩
theorem int.jP:wJ 158:=kM.1
theorem list.jP:wJ 159:=kM.2.1
theorem tree.jP:wJ 161:=kM.2.2.1
theorem row.jP:wJ 160:=kM.2.2.2
theorem int.kR:liesAt prog prog.depth 227 (4 / prog.cellsOf 227) 0 227 1=true:=by kernel_rfl
theorem list.kR:liesAt prog prog.depth 241 (4 / prog.cellsOf 241) 0 241 1=true:=by kernel_rfl
theorem tree.kR:liesAt prog prog.depth 269 (4 / prog.cellsOf 269) 0 269 1=true:=by kernel_rfl
theorem row.kR:liesAt prog prog.depth 255 (6 / prog.cellsOf 255) 0 255 1=true:=by kernel_rfl
def zB (n0 n1 n2:Nat):Prop:=∀ (b o g:Nat) (xs:List Value) (w:World) (_hc:w.cell? ⟨b,o,none⟩=some (.pointer (some ⟨g,0,none⟩))) (_hg:Row w g n0 xs) (_hx:xs.length=n1),Calls prog n2 #[.pointer (some ⟨b,o,none⟩)] w fun e w'=>e = .returned (.pointer (some ⟨g,0,none⟩))∧w'=w
open row in
theorem lZ:zB 227 4 238∧zB 241 4 285∧zB 269 4 359∧zB 255 6 322:=by
 refine ⟨@mkK _ 0 ?_,@mkK _ 1 ?_,@mkK _ 2 ?_,@mkK _ 3 ?_⟩<;>intro kk b o g xs w hc hg hx
 all_goals
  first|(have:=kA kk;have hcv:=run_from_unsafe (P:=prog) (src:=208) (dst:=297) (u:=227) underlying208 underlying297 hg int.eH (by rw [hx];exact int.kR))|(have:=kB kk;have hcv:=run_from_unsafe (P:=prog) (src:=208) (dst:=311) (u:=241) underlying208 underlying311 hg list.eH (by rw [hx];exact list.kR))|(have:=kC kk;have hcv:=run_from_unsafe (P:=prog) (src:=208) (dst:=337) (u:=269) underlying208 underlying337 hg tree.eH (by rw [hx];exact tree.kR))|(have:=kD kk;have hcv:=run_from_unsafe (P:=prog) (src:=208) (dst:=324) (u:=255) underlying208 underlying324 hg row.eH (by rw [hx];exact row.kR))
  have hld:=OY (P:=prog) func245 (by kernel_rfl) (by kernel_rfl) (by kernel_rfl) (by kernel_rfl) hc;clear hc hg hx
  first|(have:=kA kk;go_enter func238,ntmps238)|(have:=kB kk;go_enter func285,ntmps285)|(have:=kC kk;go_enter func359,ntmps359)|(have:=kD kk;go_enter func322,ntmps322)
  go_wp2;go_ret;exact ⟨rfl,rfl⟩
theorem int.lY:zB 227 4 238:=lZ.1
theorem list.lY:zB 241 4 285:=lZ.2.1
theorem tree.lY:zB 269 4 359:=lZ.2.2.1
theorem row.lY:zB 255 6 322:=lZ.2.2.2
end Go.Proofs.YtefjhnhdagolhaaGreat
