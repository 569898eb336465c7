import Derived.Test.YtefjhnhdagolhabGreatQ12
import Derived.Test.YtefjhnhdagolhabGreatQ13
import Derived.Deep.DeepCutAuto
set_option maxHeartbeats 800000
namespace Go.Proofs.YtefjhnhdagolhabGreat
open Go.RowKit
open M (aH aC aE aT bJ cnt marks tagged num YI)
abbrev ZK (n:Nat) (x:Int):Prop:=0≤x∧x<n
section
variable {σ:Type}
def YC (P:M.Plain σ) (n cap:Nat) (Y:aT) (x:Int) (o:M.Op):Int×Int×Int:=if ZK n x then (if (Y.th x.toNat).part≠0 then (0,0,4) else ((pM P (M.fin n cap x.toNat (M.aY Y x.toNat o)) x.toNat).s,(pM P (M.fin n cap x.toNat (M.aY Y x.toNat o)) x.toNat).v,0)) else (0,0,3)
def doZ (n cap:Nat) (Y:aT) (x:Int) (o:M.Op):aT:=if ZK n x then doY n cap Y x.toNat o else Y
def tri (a:Int×Int×Int):Value:=.tuple #[.agg #[.int .i64 a.1,.int .i64 a.2.1],.int .i64 a.2.2]
structure zH (X:(Nat→Prop)→aT→World→Prop) (S:Nat→Prop) (w:World) (Y':aT) (w':World):Prop where
 x:X (Grow S w w') Y' w'
 fr:Fr S w w'
end
attribute [local go_sem ↓] Go.wp_at_zero Go.wp_at_succ
section
variable {σ:Type} {L:DL} {P:M.Plain σ} {tell:σ→List Int} {sz:σ→Nat} {HM:World→Value→σ→Prop} {S:Nat→Prop} {Y:aT} {w:World} {K:Nat}
theorem FW {n:Nat} {x:Int} (h:ZK n x):∃ t:Nat,x=t∧t<n∧x.toNat=t:=⟨x.toNat,by have:=h.1;omega,by have:=h.1;have:=h.2;omega,rfl⟩
theorem zT (P:M.Plain σ) (n cap:Nat) (Y:aT) (t:Nat) (o:M.Op):doW P n cap Y t o=tri (if (Y.th t).part≠0 then (0,0,4) else ((pM P (M.fin n cap t (M.aY Y t o)) t).s,(pM P (M.fin n cap t (M.aY Y t o)) t).v,0)):=by
 unfold doW tri
 split<;>rfl
end
end Go.Proofs.YtefjhnhdagolhabGreat
namespace Go.Proofs.YtefjhnhdagolhabGreat
open Go.RowKit
open M (aH aC aE aT bJ cnt marks tagged num YI)
structure LL where
 bL:Nat
 bX:Nat
 tE:TypeId
 bN:Nat
section
variable {σ:Type}
variable {P:M.Plain σ} {tell:σ→List Int} {sz:σ→Nat} {HM:World→Value→σ→Prop} {D:DL} {X:(Nat→Prop)→aT→World→Prop} {A:LL} {SX SD T:Nat→Prop} {lab:Nat→Nat} {ms is:Value} {es1 es2:List (Value×Nat)} {YX YD Y':aT} {w w1:World} {fBe fSt fAn FX FY FZ fBo:Nat}
end
attribute [local go_sem ↓] Go.wp_at_zero Go.wp_at_succ
def pk (c n:Int):Int:=if c<0 then (-(c+1)) % n else c % n
theorem jB (c n:Int) (h:0<n):0≤pk c n∧pk c n<n:=by
 unfold pk
 split
 ·exact ⟨Int.emod_nonneg _ (by omega),Int.emod_lt_of_pos _ h⟩
 ·exact ⟨Int.emod_nonneg _ (by omega),Int.emod_lt_of_pos _ h⟩
theorem wD (c n:Int) (w:World) (hn:0<n) (hn2:n≤1000) (h0 : -9223372036854775808≤c) (h1:c≤9223372036854775807) :
  Calls Tryz.prog 7 #[.int .i64 c,.int .i64 n] w fun e w'=>e = .returned (.int .i64 (pk c n))∧w'=w:=by
 have hn0:¬n=0:=by omega
 have hnm:¬n = -1:=by omega
 by_cases hc:c<0
 ·have e1:pk c n=(-(c+1)).tmod n:=by unfold pk;rw [if_pos hc,Int.tmod_eq_emod_of_nonneg (by omega)]
  have hr:=jB c n hn
  have HE:=aA (show -((c+1).tmod n)=pk c n by rw [e1,Int.neg_tmod])
  have hw1:IntKind.i64.wrap (c+1)=c+1:=dR _ (by omega) (by omega)
  have XL:IntKind.i64.wrap (-(c+1)) = -(c+1):=dR _ (by omega) (by omega)
  rw [e1] at hr
  have hw3:IntKind.i64.wrap ((-(c+1)).tmod n)=(-(c+1)).tmod n:=dR _ (by omega) (by omega)
  clear e1
  go_enter Tryz.func7,Tryz.ntmps7
  go_wp2
  go_ret
  exact ⟨rL (by exact HE.out),rfl⟩
 ·have e1:pk c n=c.tmod n:=by unfold pk;rw [if_neg hc,Int.tmod_eq_emod_of_nonneg (by omega)]
  have hr:=jB c n hn
  rw [e1] at hr
  have HE:=aA (show c % n=pk c n by unfold pk;rw [if_neg hc])
  have hw3:IntKind.i64.wrap (c.tmod n)=c.tmod n:=dR _ (by omega) (by omega)
  clear e1
  go_enter Tryz.func7,Tryz.ntmps7
  go_wp2
  go_ret
  exact ⟨rL (by exact HE.out),rfl⟩
section
variable {σ:Type} {P:M.Plain σ} {tell:σ→List Int} {sz:σ→Nat} {HM:World→Value→σ→Prop} {D:DL} {X:(Nat→Prop)→aT→World→Prop} {A:LL} {Y:aT} {w:World} {fBe fSt fAn FX FY FZ fBo Z K:Nat} {U:Nat→Prop}
end
section
variable {σ:Type} {P:M.Plain σ} {tell:σ→List Int} {sz:σ→Nat} {HM:World→Value→σ→Prop} {D:DL} {X:(Nat→Prop)→aT→World→Prop} {A:LL} {Y:aT} {w:World} {fBe fSt fAn FX FY FZ fBo Z K:Nat} {U:Nat→Prop}
theorem fI {b:Nat}:∀ (vs:List Value) (o:Nat) (W:World) (k:Nat),k≠b→(W.setCells b o vs).heap[k]?=W.heap[k]?
 |[],_,_,_,_=>rfl
 |v::vs,o,W,k,hk=>by
  show ((W.setCell ⟨b,o,none⟩ v).setCells b (o+1) vs).heap[k]?=_
  rw [fI vs (o+1) _ k hk,Below.heap_setCell _ _ _ k hk]
theorem kC {b:Nat}:∀ (vs:List Value) (o:Nat) (W:World),(W.setCells b o vs).heap.size=W.heap.size
 |[],_,_=>rfl
 |v::vs,o,W=>by
  show ((W.setCell ⟨b,o,none⟩ v).setCells b (o+1) vs).heap.size=_
  rw [kC vs (o+1) _]
  simp [World.setCell]
theorem vB {b:Nat}:∀ (vs:List Value) (o:Nat) (W:World),(W.setCells b o vs).os=W.os∧(W.setCells b o vs).tape=W.tape∧(W.setCells b o vs).output=W.output
 |[],_,_=>⟨rfl,rfl,rfl⟩
 |v::vs,o,W=>by
  have:=vB (b:=b) vs (o+1) (W.setCell ⟨b,o,none⟩ v)
  exact this
end
def MZ (x:Int):Prop:=-9223372036854775808≤x∧x≤9223372036854775807
section
variable {σ:Type} {P:M.Plain σ} {tell:σ→List Int} {sz:σ→Nat} {HM:World→Value→σ→Prop} {D:DL} {X:(Nat→Prop)→aT→World→Prop} {A:LL} {Y:aT} {w:World} {fBe fSt fAn FX FY FZ fBo Z K:Nat} {U:Nat→Prop}
end
end Go.Proofs.YtefjhnhdagolhabGreat
