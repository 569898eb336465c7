import Derived.Test.YtefjhnhdagolhaaGreatQ08
import Derived.Test.YtefjhnhdagolhaaGreatQ12
import Derived.Test.YtefjhnhdagolhaaGreatQ13
namespace Go.Proofs.YtefjhnhdagolhaaGreat.list
open Go.RowKit
attribute [local go_sem ↓] Go.wp_at_zero Go.wp_at_succ
theorem mC (bS n:Nat) (most:Int) (gD gG:Nat→Nat):∀ (k t j:Nat),t<k→j<28→(eY bS n most gD gG k)[t*28+j]?=(dK bS (t:Int) most (gD t) (gS n) (gG t) (tw n))[j]?
 |0,t,j,h,_=>absurd h (by omega)
 |k+1,t,j,h,hj=>by
  have hl:∀ k,(eY bS n most gD gG k).length=k*28:=fun k=>by
   unfold eY
   induction k with
   |zero=>rfl
   |succ k ih=>rw [List.range_succ,List.flatMap_append,List.length_append,ih];simp [mV];omega
  have hs:eY bS n most gD gG (k+1)=eY bS n most gD gG k++dK bS (k:Int) most (gD k) (gS n) (gG k) (tw n):=by
   unfold eY;rw [List.range_succ,List.flatMap_append];simp
  rw [hs]
  by_cases e:t=k
  ·subst e
   rw [List.getElem?_append_right (by rw [hl];omega),hl]
   congr 1;omega
  ·have q:t+1≤k:=by omega
   have q2:=Nat.mul_le_mul_right 28 q
   rw [List.getElem?_append_left (by rw [hl];omega)]
   exact mC bS n most gD gG k t j (by omega) hj
end Go.Proofs.YtefjhnhdagolhaaGreat.list
namespace Go.Proofs.YtefjhnhdagolhaaGreat.list
open Go.RowKit
attribute [local go_sem ↓] Go.wp_at_zero Go.wp_at_succ
theorem oN:(Tryz.prog.info? 223).map (fun i=>(i.zero,i.size,i.bytes))=some (some (.pointer none),1,8):=by kernel_rfl
end Go.Proofs.YtefjhnhdagolhaaGreat.list
