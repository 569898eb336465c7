import Derived.Test.YtefjhnhdagolhabGreatQ10
import Derived.Test.YtefjhnhdagolhabGreatQ02
import Derived.Test.YtefjhnhdagolhabGreatQ07
import Derived.Test.YtefjhnhdagolhabGreatQ00
namespace Go.Proofs.YtefjhnhdagolhabGreat
open Go.RowKit
attribute [local go_sem ↓] Go.wp_at_zero Go.wp_at_succ
theorem Row.apart {w:World} {g g':Nat} {t t':TypeId} {xs xs':List Value} (h:Row w g t xs) (h':Row w g' t' xs') (ne:t≠t'):g≠g':=by
 rintro rfl
 have e:=(show w.heap[g]?=_ from h).symm.trans (show w.heap[g]?=_ from h')
 simp at e
 exact ne e.2
theorem aAz {w:World} {base:Nat} {e:TypeId} {v:Value} {n:Nat} {xs:List Value} (h:w.ownsRow base e 1 v n xs):Sl w v xs:=by
 have hl:xs.length=n:=by simpa using h.1
 rcases h.2 with ⟨rfl,rfl⟩|⟨g,cap,cur,rfl,-,hg,hc,hm,hcs,htk⟩
 ·obtain rfl:xs=[]:=List.eq_nil_of_length_eq_zero hl
  exact Sl.nil w
 ·refine ⟨some ⟨g,0,none⟩,cap,by rw [hl],by rw [hl];exact hc,hm,.inr ⟨g,0,rfl,fun j x hj=>?_⟩⟩
  have:=h.cells (g:=g) rfl j x hj
  rw [show (⟨g,0,none⟩:Addr).add j=⟨g,j,none⟩ by by_cases q:j=0<;>simp [Addr.add,q]] at this
  simpa using this
end Go.Proofs.YtefjhnhdagolhabGreat
