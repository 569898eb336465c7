import Derived.Test.YtefjhnhdagolhabGreatQ11
import Derived.Test.YtefjhnhdagolhabGreatQ02
import Derived.Test.YtefjhnhdagolhabGreatQ10
import Derived.Test.YtefjhnhdagolhabGreatQ13
import Derived.Test.YtefjhnhdagolhabGreatQ41
import Derived.Test.YtefjhnhdagolhabGreatQ38
import Derived.Test.YtefjhnhdagolhabGreatQ37
namespace Go.Proofs.YtefjhnhdagolhabGreat
open Go.RowKit
open M (aH aC aE aT bJ cnt marks tagged num)
attribute [local go_sem ↓] Go.wp_at_zero Go.wp_at_succ
theorem iF {w:World} {base:Nat} {e t:TypeId} {size:Nat} {v:Value} {n:Nat} {xs ys:List Value} {b:Nat} (h:w.ownsRow base e size v n xs) (hr:Row w b t ys) (hne:e≠t):v.ownBlock≠some b:=by
 intro c
 rcases h.2 with ⟨rfl,-⟩|⟨g,cap,cur,rfl,-,h4,-⟩
 ·cases c
 ·have:g=b:=by simpa [Value.ownBlock] using c
  subst this
  unfold Row at hr
  rw [h4] at hr
  injection hr with hr
  injection hr with _ h2
  exact hne h2
section
variable {st co c a b2:Int} {s1 s2:Value} {b g cc:Nat} {w:World} {l:gJ} {vh:Value}
def DJ (l:gJ) (c a b:Int):gJ:=if c=1 then jA l a++[(a,b)] else if c=3 then jA l a else l
end
end Go.Proofs.YtefjhnhdagolhabGreat
namespace Go.Proofs.YtefjhnhdagolhabGreat
open Go.RowKit
attribute [local go_sem ↓] Go.wp_at_zero Go.wp_at_succ
theorem uW.get {w:World} {l:List Int} {a:Option Addr} {c k:Nat} {y:Int} (h:uW w (.slice a l.length c) l) (hy:l[k]?=some y):∃ g off,a=some ⟨g,off,none⟩∧w.cell? ⟨g,off+k,none⟩=some (.int .i64 y):=by
 rcases h with ⟨e,hl⟩|⟨g,off,cap,xs,e,hrow,h1,h2,h3⟩
 ·rw [hl] at hy;simp at hy
 ·injection e with e1 e2 e3
  exact ⟨g,off,e1,hrow.cell_of (h3 k _ hy)⟩
section
variable {st co:Int} {s1 s2:Value} {b:Nat} {w:World} {l:List Int} {vh:Value}
end
end Go.Proofs.YtefjhnhdagolhabGreat
