import Derived.Test.YtefjhnhdagolhaaGreatQ11
import Derived.Test.YtefjhnhdagolhaaGreatQ09
import Derived.Deep.LoopGhost
namespace Go.Proofs.YtefjhnhdagolhaaGreat
open Go.RowKit
open M (aI aC aD aP bA cnt marks tagged num YI)
attribute [local go_sem ↓] Go.wp_at_zero Go.wp_at_succ
def wG (L:DL) (K:Nat) (Y:aP):Prop:=(∀ t,t<L.n→(Y.th t).ops.length≤K)∧Y.bs.length≤K
section
variable {σ:Type} {L:DL} {P:M.Plain σ} {tell:σ→List Int} {sz:σ→Nat} {HM:World→Value→σ→Prop} {Au:Nat→World→Prop} {S:Nat→Prop} {Y Y' RR:aP} {w w1 w2:World} {t K:Nat}
def gB (P:M.Plain σ) (Y:aP) (t:Nat):M.TF:=(M.replay P (fun k i=>((Y.th k).ops).getD i ⟨0,0,0⟩) Y.bs).an t
def aDs (P:M.Plain σ) (Y:aP) (t:Nat):Value:=if (Y.th t).part≠0 then .tuple #[.agg #[.int .i64 0,.int .i64 0],.int .i64 4] else if (Y.th t).ended=0 then .tuple #[.agg #[.int .i64 0,.int .i64 0],.int .i64 5] else .tuple #[.agg #[.int .i64 (gB P Y t).s,.int .i64 (gB P Y t).v],.int .i64 0]
end
theorem wG.mono {L:DL} {K K':Nat} {Y:aP} (h:wG L K Y) (hk:K≤K'):wG L K' Y:=⟨fun t ht=>Nat.le_trans (h.1 t ht) hk,Nat.le_trans h.2 hk⟩
theorem wG.step {L:DL} {K:Nat} {Y:aP} (h:wG L K Y) (t:Nat):wG L (K+1) (M.bD L.n L.cap Y t).1 :=
 ⟨fun k hk=>by rw [M.uO];exact Nat.le_succ_of_le (h.1 k hk),Nat.le_trans (M.UT _ _ _ _).1 (Nat.succ_le_succ h.2)⟩
theorem wG.begin {L:DL} {K:Nat} {Y:aP} (h:wG L K Y) (t:Nat) (o:M.Op):wG L (K+1) (M.bG Y t o):=by
 refine ⟨fun k hk=>?_,Nat.le_succ_of_le h.2⟩
 unfold M.bG M.aP.set
 by_cases e:k=t
 ·subst e
  simp only [aC,List.length_append,List.length_singleton]
  exact Nat.succ_le_succ (h.1 k hk)
 ·simp only [aD _ _ e]
  exact Nat.le_succ_of_le (h.1 k hk)
structure tB {σ:Type} (P:M.Plain σ) (L:DL) (t K:Nat) (Y':aP) (g:Nat) (Y:aP):Prop where
 yi:YI P L.n L.cap Y
 fin:M.fin L.n L.cap t Y=Y'
 kC:(Y.th t).kC L.n L.cap≤g
 gl:g≤5000
 lim:wG L (K+(5000-g)) Y
 ops:(Y.th t).ops≠[]
theorem tB.step {σ:Type} {P:M.Plain σ} {L:DL} {t K g:Nat} {Y Y':aP} (h:tB P L t K Y' g Y) (hn:0<L.n) (ht:t<L.n) (hp:(Y.th t).part≠0):0<g∧tB P L t K Y' (g-1) (M.bD L.n L.cap Y t).1:=by
 have h1:=M.rM hn (h.yi.ok.th t ht) hp
 have h2:=h.kC
 have h3:=h.gl
 refine ⟨by omega,h.yi.step hn ht hp,(M.UU hn ht h.yi (by omega) hp).trans h.fin,by omega,by omega,(h.lim.step t).mono (by omega),by rw [M.uO];exact h.ops⟩
theorem tB.end {σ:Type} {P:M.Plain σ} {L:DL} {t K g:Nat} {Y Y':aP} (h:tB P L t K Y' g Y) (hp:(Y.th t).part=0):Y=Y':=(M.UW hp).symm.trans h.fin
theorem tB.begin {σ:Type} {P:M.Plain σ} {L:DL} {t K:Nat} {Y:aP} (hy:YI P L.n L.cap Y) (lG:L.n≤64) (hc:L.cap≤64) (ht:t<L.n) (hp:(Y.th t).part=0) (hK:wG L K Y) (o:M.Op):tB P L t (K+1) (M.fin L.n L.cap t (M.bG Y t o)) 5000 (M.bG Y t o):=by
 refine ⟨hy.begin ht hp o,rfl,?_,Nat.le_refl _,(hK.begin t o).mono (by omega),?_⟩
 ·rw [M.vY];have:=M.BW lG hc;omega
 ·unfold M.bG M.aP.set
  simp [aC]
section
variable {σ:Type} {L:DL} {P:M.Plain σ} {tell:σ→List Int} {sz:σ→Nat} {HM:World→Value→σ→Prop} {Au:Nat→World→Prop} {S:Nat→Prop} {Y:aP} {w:World} {t K:Nat}
def doW (P:M.Plain σ) (n cap:Nat) (Y:aP) (t:Nat) (o:M.Op):Value:=if (Y.th t).part≠0 then .tuple #[.agg #[.int .i64 0,.int .i64 0],.int .i64 4] else .tuple #[.agg #[.int .i64 (gB P (M.fin n cap t (M.bG Y t o)) t).s,.int .i64 (gB P (M.fin n cap t (M.bG Y t o)) t).v],.int .i64 0]
def doY (n cap:Nat) (Y:aP) (t:Nat) (o:M.Op):aP:=if (Y.th t).part≠0 then Y else M.fin n cap t (M.bG Y t o)
end
end Go.Proofs.YtefjhnhdagolhaaGreat
