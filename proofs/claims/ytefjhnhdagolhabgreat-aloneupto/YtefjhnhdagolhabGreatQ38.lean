import Derived.Test.YtefjhnhdagolhabGreatQ11
import Derived.Test.YtefjhnhdagolhabGreatQ02
import Derived.Test.YtefjhnhdagolhabGreatQ10
import Derived.Test.YtefjhnhdagolhabGreatQ13
import Derived.Test.YtefjhnhdagolhabGreatQ37
import Derived.Deep.RegionLawGrows
namespace Go.Proofs.YtefjhnhdagolhabGreat
open Go.RowKit
attribute [local go_sem ↓] Go.wp_at_zero Go.wp_at_succ
def uW (w:World) (v:Value) (l:List Int):Prop :=
 (v = .slice none 0 0∧l=[])∨∃ (g off cap:Nat) (xs:List Value),v = .slice (some ⟨g,off,none⟩) l.length cap∧Row w g 3 xs∧l.length≤cap∧off+cap≤xs.length∧∀ (j:Nat) (x:Int),l[j]?=some x→xs[off+j]?=some (.int .i64 x)
theorem uW.block {w w':World} {v:Value} {l:List Int} (h:uW w v l) (hb:∀ k,v.ownBlock=some k→w'.heap[k]?=w.heap[k]?):uW w' v l:=by
 rcases h with h|⟨g,off,cap,xs,rfl,h2,h3⟩
 ·exact .inl h
 ·exact .inr ⟨g,off,cap,xs,rfl,h2.of_block (hb g rfl),h3⟩
theorem uW.lt {w:World} {v:Value} {l:List Int} (h:uW w v l) (k:Nat) (e:v.ownBlock=some k):k<w.heap.size:=by
 rcases h with ⟨rfl,-⟩|⟨g,off,cap,xs,rfl,h2,-⟩
 ·cases e
 ·have:g=k:=by simpa [Value.ownBlock] using e
  subst this
  exact h2.lt
theorem uW.form {w:World} {v:Value} {l:List Int} (h:uW w v l):∃ a c,v = .slice a l.length c:=by
 rcases h with ⟨rfl,rfl⟩|⟨g,off,cap,xs,rfl,-⟩
 ·exact ⟨none,0,rfl⟩
 ·exact ⟨_,_,rfl⟩
theorem uW.later {w w':World} {v:Value} {l:List Int} (h:uW w v l) (hb:Below w.heap.size w w'):uW w' v l:=h.block fun k e=>hb.block k (h.lt k e)
theorem uW.IJ {w:World} {base:Nat} {v:Value} {l:List Int} (h:w.ownsRow base 3 1 v l.length (ints l)):uW w v l:=by
 rcases h.2 with ⟨e,h0⟩|⟨g,cap,cur,rfl,-,h4,h5,-,h7,h8⟩
 ·exact .inl ⟨e,List.length_eq_zero_iff.mp (by simpa using h0)⟩
 ·refine .inr ⟨g,0,cap,cur.toList,rfl,?_,h5,by rw [Nat.zero_add,Array.length_toList,h7];omega,fun j x hj=>?_⟩
  ·unfold Row;rw [Array.toArray_toList];exact h4
  ·have hjl:j<l.length:=(List.getElem?_eq_some_iff.mp hj).1
   have e:(ints l)[j]?=some (.int .i64 x):=by rw [ints,List.getElem?_map,hj];rfl
   rw [←h8,List.getElem?_take] at e
   rw [if_pos (by omega)] at e
   rw [Nat.zero_add]
   exact e
theorem uW.not {w:World} {v:Value} {l:List Int} {b:Nat} {t:TypeId} {ys:List Value} (h:uW w v l) (hr:Row w b t ys) (hne:3≠t):v.ownBlock≠some b:=by
 intro c
 rcases h with ⟨rfl,-⟩|⟨g,off,cap,xs,rfl,h2,-⟩
 ·cases c
 ·have:g=b:=by simpa [Value.ownBlock] using c
  exact Row.apart h2 hr hne this
theorem yX {w w':World} {b o n:Nat} (hg:w.grownBy w' none) (h:w.there b o n):w'.there b o n:=fun k hk=>by
 obtain ⟨h1,h2⟩:=h k hk
 obtain ⟨v,hv⟩:=Option.isSome_iff_exists.1 h1
 have hb:=hg.block b (World.block_lt_of_cell? w _ hv) (by simp)
 exact ⟨by rw [World.cell?_of_block (w:=w) (a:=⟨b,o+k,none⟩) hb];exact h1,by rw [World.frozen?_of_block (w:=w) (a:=⟨b,o+k,none⟩) hb];exact h2⟩
section
variable {kind st co a b2:Int} {s1 s2:Value} {b:Nat} {w:World} {l:List Int} {vh:Value}
end
end Go.Proofs.YtefjhnhdagolhabGreat
