import Derived.Test.YtefjhnhdagolhaaGreatQ12
import Derived.Test.YtefjhnhdagolhaaGreatQ13
import Derived.Deep.DeepCutAuto
set_option maxHeartbeats 800000
namespace Go.Proofs.YtefjhnhdagolhaaGreat
open Go.RowKit
open M (aI aC aD aP bA cnt marks tagged num YI)
abbrev NM (n:Nat) (x:Int):Prop:=0≤x∧x<n
def aBn (n cap:Nat):Int:=4+2*((cap:Int)+3+2*(((n:Int)+15) / 16+2*(n:Int)+1)+((n:Int)+15) / 16+3*(n:Int))+3
def beE (n:Nat) (Y:aP) (x:Int):Int:=if NM n x then (if (Y.th x.toNat).part=0 then 0 else 4) else 3
def VE (n:Nat) (Y:aP) (x:Int) (o:M.Op):aP:=if NM n x then (if (Y.th x.toNat).part=0 then M.bG Y x.toNat o else Y) else Y
def stA (n cap:Nat) (Y:aP) (x:Int):Int:=if NM n x then (if (Y.th x.toNat).part=0 then 0 else aBk (M.bD n cap Y x.toNat).2) else 0
def stE (n:Nat) (Y:aP) (x:Int):Int:=if NM n x then (if (Y.th x.toNat).part=0 then 5 else 0) else 3
def RS (n cap:Nat) (Y:aP) (x:Int):aP:=if NM n x then (if (Y.th x.toNat).part=0 then Y else (M.bD n cap Y x.toNat).1) else Y
section
variable {σ:Type}
def anT (P:M.Plain σ) (n:Nat) (Y:aP) (x:Int):Int×Int×Int:=if NM n x then (if (Y.th x.toNat).part≠0 then (0,0,4) else if (Y.th x.toNat).ended=0 then (0,0,5) else ((gB P Y x.toNat).s,(gB P Y x.toNat).v,0)) else (0,0,3)
def doT (P:M.Plain σ) (n cap:Nat) (Y:aP) (x:Int) (o:M.Op):Int×Int×Int:=if NM n x then (if (Y.th x.toNat).part≠0 then (0,0,4) else ((gB P (M.fin n cap x.toNat (M.bG Y x.toNat o)) x.toNat).s,(gB P (M.fin n cap x.toNat (M.bG Y x.toNat o)) x.toNat).v,0)) else (0,0,3)
def doZ (n cap:Nat) (Y:aP) (x:Int) (o:M.Op):aP:=if NM n x then doY n cap Y x.toNat o else Y
def tri (a:Int×Int×Int):Value:=.tuple #[.agg #[.int .i64 a.1,.int .i64 a.2.1],.int .i64 a.2.2]
structure XY (X:(Nat→Prop)→aP→World→Prop) (S:Nat→Prop) (w:World) (Y':aP) (w':World):Prop where
 x:X (Grow S w w') Y' w'
 fr:Fr S w w'
structure wH (P:M.Plain σ) (tell:σ→List Int) (D:DL) (tE:TypeId) (bN:Nat) (X:(Nat→Prop)→aP→World→Prop) (nJ nK nL nM nN nO nP:Nat):Prop where
 mBe:∀ W,(method 553 tE (.pointer (some ⟨bN,0,none⟩)) "Begin").run Tryz.prog W = .ok (nJ,.pointer (some ⟨bN,0,none⟩)) W
 mSt:∀ W,(method 553 tE (.pointer (some ⟨bN,0,none⟩)) "Step").run Tryz.prog W = .ok (nK,.pointer (some ⟨bN,0,none⟩)) W
 mAn:∀ W,(method 553 tE (.pointer (some ⟨bN,0,none⟩)) "Answer").run Tryz.prog W = .ok (nL,.pointer (some ⟨bN,0,none⟩)) W
 mDo:∀ W,(method 553 tE (.pointer (some ⟨bN,0,none⟩)) "Do").run Tryz.prog W = .ok (nM,.pointer (some ⟨bN,0,none⟩)) W
 mOr:∀ W,(method 553 tE (.pointer (some ⟨bN,0,none⟩)) "Order").run Tryz.prog W = .ok (nN,.pointer (some ⟨bN,0,none⟩)) W
 mTe:∀ W,(method 553 tE (.pointer (some ⟨bN,0,none⟩)) "State").run Tryz.prog W = .ok (nO,.pointer (some ⟨bN,0,none⟩)) W
 mBo:∀ W,(method 553 tE (.pointer (some ⟨bN,0,none⟩)) "Bound").run Tryz.prog W = .ok (nP,.pointer (some ⟨bN,0,none⟩)) W
 cBe:∀ (a b:Value) (W:World),(callFunc nJ #[.pointer (some ⟨bN,0,none⟩),a,b]).run Tryz.prog W = .ok (.enter nJ #[.pointer (some ⟨bN,0,none⟩),a,b]) W
 cSt:∀ (a:Value) (W:World),(callFunc nK #[.pointer (some ⟨bN,0,none⟩),a]).run Tryz.prog W = .ok (.enter nK #[.pointer (some ⟨bN,0,none⟩),a]) W
 cAn:∀ (a:Value) (W:World),(callFunc nL #[.pointer (some ⟨bN,0,none⟩),a]).run Tryz.prog W = .ok (.enter nL #[.pointer (some ⟨bN,0,none⟩),a]) W
 cDo:∀ (a b:Value) (W:World),(callFunc nM #[.pointer (some ⟨bN,0,none⟩),a,b]).run Tryz.prog W = .ok (.enter nM #[.pointer (some ⟨bN,0,none⟩),a,b]) W
 cOr:∀ W,(callFunc nN #[.pointer (some ⟨bN,0,none⟩)]).run Tryz.prog W = .ok (.enter nN #[.pointer (some ⟨bN,0,none⟩)]) W
 cTe:∀ W,(callFunc nO #[.pointer (some ⟨bN,0,none⟩)]).run Tryz.prog W = .ok (.enter nO #[.pointer (some ⟨bN,0,none⟩)]) W
 cBo:∀ W,(callFunc nP #[.pointer (some ⟨bN,0,none⟩)]).run Tryz.prog W = .ok (.enter nP #[.pointer (some ⟨bN,0,none⟩)]) W
 lt:∀ S Y w,X S Y w→∀ k,S k→k<w.heap.size
 stay:∀ S S' Y w w',X S Y w→(∀ k,S k→w'.heap[k]?=w.heap[k]?)→(∀ k,S k→S' k)→(∀ k,S' k→k<w'.heap.size)→X S' Y w'
 be:∀ S Y w x (o:M.Op),X S Y w→Calls Tryz.prog nJ #[.pointer (some ⟨bN,0,none⟩),.int .i64 x,.agg #[.int .i64 o.c,.int .i64 o.a,.int .i64 o.b]] w fun e w'=>e = .returned (.int .i64 (beE D.n Y x))∧XY X S w (VE D.n Y x o) w'
 st:∀ S Y w x,X S Y w→wG D 1000000000 Y→Calls Tryz.prog nK #[.pointer (some ⟨bN,0,none⟩),.int .i64 x] w fun e w'=>e = .returned (.tuple #[.int .i64 (stA D.n D.cap Y x),.int .i64 (stE D.n Y x)])∧XY X S w (RS D.n D.cap Y x) w'
 an:∀ S Y w x,X S Y w→Calls Tryz.prog nL #[.pointer (some ⟨bN,0,none⟩),.int .i64 x] w fun e w'=>e = .returned (tri (anT P D.n Y x))∧Below w.heap.size w w'
 dd:∀ S Y w x (o:M.Op) K,X S Y w→wG D K Y→K+6000≤1000000000→Calls Tryz.prog nM #[.pointer (some ⟨bN,0,none⟩),.int .i64 x,.agg #[.int .i64 o.c,.int .i64 o.a,.int .i64 o.b]] w fun e w'=>e = .returned (tri (doT P D.n D.cap Y x o))∧XY X S w (doZ D.n D.cap Y x o) w'
 or:∀ S Y w,X S Y w→wG D 1000000000 Y→Calls Tryz.prog nN #[.pointer (some ⟨bN,0,none⟩)] w fun e w'=>∃ v,e = .returned v∧w'.ownsRow w.heap.size 81 3 v Y.order.length (dL Y.order)∧Below w.heap.size w w'
 te:∀ S Y w,X S Y w→wG D 1000000000 Y→Calls Tryz.prog nO #[.pointer (some ⟨bN,0,none⟩)] w fun e w'=>∃ v,e = .returned v∧w'.ownsRow w.heap.size 3 1 v (tell (VC P Y Y.order.length).st).length (ints (tell (VC P Y Y.order.length).st))∧Below w.heap.size w w'
 bo:∀ S Y w,X S Y w→Calls Tryz.prog nP #[.pointer (some ⟨bN,0,none⟩)] w fun e w'=>e = .returned (.int .i64 (aBn D.n D.cap))∧Below w.heap.size w w'
end
attribute [local go_sem ↓] Go.wp_at_zero Go.wp_at_succ
section
variable {σ:Type} {L:DL} {P:M.Plain σ} {tell:σ→List Int} {sz:σ→Nat} {HM:World→Value→σ→Prop} {S:Nat→Prop} {Y:aP} {w:World} {K:Nat}
theorem GQ {n:Nat} {x:Int} (h:NM n x):∃ t:Nat,x=t∧t<n∧x.toNat=t:=⟨x.toNat,by have:=h.1;omega,by have:=h.1;have:=h.2;omega,rfl⟩
theorem VF (P:M.Plain σ) (Y:aP) (t:Nat):aDs P Y t=tri (if (Y.th t).part≠0 then (0,0,4) else if (Y.th t).ended=0 then (0,0,5) else ((gB P Y t).s,(gB P Y t).v,0)):=by
 unfold aDs tri
 split
 ·rfl
 ·split<;>rfl
theorem ZI (P:M.Plain σ) (n cap:Nat) (Y:aP) (t:Nat) (o:M.Op):doW P n cap Y t o=tri (if (Y.th t).part≠0 then (0,0,4) else ((gB P (M.fin n cap t (M.bG Y t o)) t).s,(gB P (M.fin n cap t (M.bG Y t o)) t).v,0)):=by
 unfold doW tri
 split<;>rfl
end
end Go.Proofs.YtefjhnhdagolhaaGreat
namespace Go.Proofs.YtefjhnhdagolhaaGreat
open Go.RowKit
open M (aI aC aD aP bA cnt marks tagged num YI)
structure LL where
 bL:Nat
 bX:Nat
 tE:TypeId
 bN:Nat
section
variable {σ:Type}
variable {P:M.Plain σ} {tell:σ→List Int} {sz:σ→Nat} {HM:World→Value→σ→Prop} {D:DL} {X:(Nat→Prop)→aP→World→Prop} {A:LL} {SX SD T:Nat→Prop} {lab:Nat→Nat} {ms is:Value} {es1 es2:List (Value×Nat)} {YX YD Y':aP} {w w1:World} {nJ nK nL nM nN nO nP:Nat}
end
attribute [local go_sem ↓] Go.wp_at_zero Go.wp_at_succ
def pk (c n:Int):Int:=if c<0 then (-(c+1)) % n else c % n
theorem gR (c n:Int) (h:0<n):0≤pk c n∧pk c n<n:=by
 unfold pk
 split
 ·exact ⟨Int.emod_nonneg _ (by omega),Int.emod_lt_of_pos _ h⟩
 ·exact ⟨Int.emod_nonneg _ (by omega),Int.emod_lt_of_pos _ h⟩
theorem rQ (c n:Int) (w:World) (hn:0<n) (hn2:n≤1000) (h0 : -9223372036854775808≤c) (h1:c≤9223372036854775807) :
  Calls Tryz.prog 45 #[.int .i64 c,.int .i64 n] w fun e w'=>e = .returned (.int .i64 (pk c n))∧w'=w:=by
 have hn0:¬n=0:=by omega
 have hnm:¬n = -1:=by omega
 by_cases hc:c<0
 ·have e1:pk c n=(-(c+1)).tmod n:=by unfold pk;rw [if_pos hc,Int.tmod_eq_emod_of_nonneg (by omega)]
  have hr:=gR c n hn
  have HE:=aA (show -((c+1).tmod n)=pk c n by rw [e1,Int.neg_tmod])
  have hw1:IntKind.i64.wrap (c+1)=c+1:=dP _ (by omega) (by omega)
  have hw2:IntKind.i64.wrap (-(c+1)) = -(c+1):=dP _ (by omega) (by omega)
  rw [e1] at hr
  have hw3:IntKind.i64.wrap ((-(c+1)).tmod n)=(-(c+1)).tmod n:=dP _ (by omega) (by omega)
  clear e1
  go_enter Tryz.func45,Tryz.ntmps45
  go_wp2
  go_ret
  exact ⟨rW (by exact HE.out),rfl⟩
 ·have e1:pk c n=c.tmod n:=by unfold pk;rw [if_neg hc,Int.tmod_eq_emod_of_nonneg (by omega)]
  have hr:=gR c n hn
  rw [e1] at hr
  have HE:=aA (show c % n=pk c n by unfold pk;rw [if_neg hc])
  have hw3:IntKind.i64.wrap (c.tmod n)=c.tmod n:=dP _ (by omega) (by omega)
  clear e1
  go_enter Tryz.func45,Tryz.ntmps45
  go_wp2
  go_ret
  exact ⟨rW (by exact HE.out),rfl⟩
section
variable {σ:Type} {P:M.Plain σ} {tell:σ→List Int} {sz:σ→Nat} {HM:World→Value→σ→Prop} {D:DL} {X:(Nat→Prop)→aP→World→Prop} {A:LL} {Y:aP} {w:World} {nJ nK nL nM nN nO nP Z K:Nat} {U:Nat→Prop}
end
def tU (x:Int):Prop:=-9223372036854775808≤x∧x≤9223372036854775807
structure wZ where
 k:Int
 t:Int
 n:Int
 c:Int
 a:Int
 b:Int
def wZ.val (x:wZ):Value:=.agg #[.int .i64 x.k,.int .i64 x.t,.int .i64 x.n,.int .i64 x.c,.int .i64 x.a,.int .i64 x.b]
section
variable {σ:Type} {P:M.Plain σ} {tell:σ→List Int} {sz:σ→Nat} {HM:World→Value→σ→Prop} {D:DL} {X:(Nat→Prop)→aP→World→Prop} {A:LL} {Y:aP} {w:World} {nJ nK nL nM nN nO nP Z K:Nat} {U:Nat→Prop}
end
end Go.Proofs.YtefjhnhdagolhaaGreat
namespace Go.Proofs.YtefjhnhdagolhaaGreat
open Go.RowKit
open M (aI aC aD aP bA cnt marks tagged num YI)
theorem wG.new (D:DL):wG D 0 M.Y0:=⟨fun _ _=>Nat.le_refl _,Nat.le_refl _⟩
attribute [local go_sem ↓] Go.wp_at_zero Go.wp_at_succ
def Scr (w:World) (v:Value) (l:List wZ):Prop :=
 ∃ a c,v = .slice a l.length c∧(0<l.length→∃ g off,a=some ⟨g,off,none⟩∧∀ (i:Nat) (x:wZ),l[i]?=some x →
  w.cell? ⟨g,off+i*6,none⟩=some (.int .i64 x.k)∧w.cell? ⟨g,off+i*6+1,none⟩=some (.int .i64 x.t)∧w.cell? ⟨g,off+i*6+2,none⟩=some (.int .i64 x.n)∧w.cell? ⟨g,off+i*6+3,none⟩=some (.int .i64 x.c)∧w.cell? ⟨g,off+i*6+4,none⟩=some (.int .i64 x.a)∧w.cell? ⟨g,off+i*6+5,none⟩=some (.int .i64 x.b))
theorem Scr.below {w w':World} {v:Value} {l:List wZ} (h:Scr w v l) (hb:Below w.heap.size w w'):Scr w' v l:=by
 obtain ⟨a,c,e,h⟩:=h
 refine ⟨a,c,e,fun h0=>?_⟩
 obtain ⟨g,off,e2,h⟩:=h h0
 refine ⟨g,off,e2,fun i x hx=>?_⟩
 obtain ⟨c0,c1,c2,c3,c4,c5⟩:=h i x hx
 exact ⟨cell_later hb c0,cell_later hb c1,cell_later hb c2,cell_later hb c3,cell_later hb c4,cell_later hb c5⟩
section
variable {σ:Type} {P:M.Plain σ} {tell:σ→List Int} {sz:σ→Nat} {HM:World→Value→σ→Prop} {D:DL} {X:(Nat→Prop)→aP→World→Prop} {A:LL} {Y:aP} {w w0:World} {nJ nK nL nM nN nO nP Z K:Nat} {U:Nat→Prop}
end
end Go.Proofs.YtefjhnhdagolhaaGreat
