import Derived.Test.YtefjhnhdagolhabGreatQ11
import Derived.Test.YtefjhnhdagolhabGreatQ09
import Derived.Deep.LoopGhost
namespace Go.Proofs.YtefjhnhdagolhabGreat
open Go.RowKit
open M (aH aC aE aT bJ cnt marks tagged num YI)
attribute [local go_sem ↓] Go.wp_at_zero Go.wp_at_succ
def zS (L:DL) (K:Nat) (Y:aT):Prop:=(∀ t,t<L.n→(Y.th t).ops.length≤K)∧Y.bs.length≤K
section
variable {σ:Type} {L:DL} {P:M.Plain σ} {tell:σ→List Int} {sz:σ→Nat} {HM:World→Value→σ→Prop} {Au:Nat→World→Prop} {S:Nat→Prop} {Y Y' QU:aT} {w w1 w2:World} {t K:Nat}
def pM (P:M.Plain σ) (Y:aT) (t:Nat):M.PY:=(M.replay P (fun k i=>((Y.th k).ops).getD i ⟨0,0,0⟩) Y.bs).an t
end
theorem zS.mono {L:DL} {K K':Nat} {Y:aT} (h:zS L K Y) (hk:K≤K'):zS L K' Y:=⟨fun t ht=>Nat.le_trans (h.1 t ht) hk,Nat.le_trans h.2 hk⟩
theorem zS.step {L:DL} {K:Nat} {Y:aT} (h:zS L K Y) (t:Nat):zS L (K+1) (M.eH L.n L.cap Y t).1 :=
 ⟨fun k hk=>by rw [M.xN];exact Nat.le_succ_of_le (h.1 k hk),Nat.le_trans (M.TU _ _ _ _).1 (Nat.succ_le_succ h.2)⟩
theorem zS.begin {L:DL} {K:Nat} {Y:aT} (h:zS L K Y) (t:Nat) (o:M.Op):zS L (K+1) (M.aY Y t o):=by
 refine ⟨fun k hk=>?_,Nat.le_succ_of_le h.2⟩
 unfold M.aY M.aT.set
 by_cases e:k=t
 ·subst e
  simp only [aC,List.length_append,List.length_singleton]
  exact Nat.succ_le_succ (h.1 k hk)
 ·simp only [aE _ _ e]
  exact Nat.le_succ_of_le (h.1 k hk)
structure sQ {σ:Type} (P:M.Plain σ) (L:DL) (t K:Nat) (Y':aT) (g:Nat) (Y:aT):Prop where
 yi:YI P L.n L.cap Y
 fin:M.fin L.n L.cap t Y=Y'
 mL:(Y.th t).mL L.n L.cap≤g
 gl:g≤5000
 lim:zS L (K+(5000-g)) Y
 ops:(Y.th t).ops≠[]
theorem sQ.step {σ:Type} {P:M.Plain σ} {L:DL} {t K g:Nat} {Y Y':aT} (h:sQ P L t K Y' g Y) (hn:0<L.n) (ht:t<L.n) (hp:(Y.th t).part≠0):0<g∧sQ P L t K Y' (g-1) (M.eH L.n L.cap Y t).1:=by
 have h1:=M.tS hn (h.yi.ok.th t ht) hp
 have h2:=h.mL
 have h3:=h.gl
 refine ⟨by omega,h.yi.step hn ht hp,(M.TV hn ht h.yi (by omega) hp).trans h.fin,by omega,by omega,(h.lim.step t).mono (by omega),by rw [M.xN];exact h.ops⟩
theorem sQ.end {σ:Type} {P:M.Plain σ} {L:DL} {t K g:Nat} {Y Y':aT} (h:sQ P L t K Y' g Y) (hp:(Y.th t).part=0):Y=Y':=(M.TW hp).symm.trans h.fin
theorem sQ.begin {σ:Type} {P:M.Plain σ} {L:DL} {t K:Nat} {Y:aT} (hy:YI P L.n L.cap Y) (tY:L.n≤64) (hc:L.cap≤64) (ht:t<L.n) (hp:(Y.th t).part=0) (hK:zS L K Y) (o:M.Op):sQ P L t (K+1) (M.fin L.n L.cap t (M.aY Y t o)) 5000 (M.aY Y t o):=by
 refine ⟨hy.begin ht hp o,rfl,?_,Nat.le_refl _,(hK.begin t o).mono (by omega),?_⟩
 ·rw [M.BP];have:=M.JZ tY hc;omega
 ·unfold M.aY M.aT.set
  simp [aC]
section
variable {σ:Type} {L:DL} {P:M.Plain σ} {tell:σ→List Int} {sz:σ→Nat} {HM:World→Value→σ→Prop} {Au:Nat→World→Prop} {S:Nat→Prop} {Y:aT} {w:World} {t K:Nat}
def doW (P:M.Plain σ) (n cap:Nat) (Y:aT) (t:Nat) (o:M.Op):Value:=if (Y.th t).part≠0 then .tuple #[.agg #[.int .i64 0,.int .i64 0],.int .i64 4] else .tuple #[.agg #[.int .i64 (pM P (M.fin n cap t (M.aY Y t o)) t).s,.int .i64 (pM P (M.fin n cap t (M.aY Y t o)) t).v],.int .i64 0]
def doY (n cap:Nat) (Y:aT) (t:Nat) (o:M.Op):aT:=if (Y.th t).part≠0 then Y else M.fin n cap t (M.aY Y t o)
end
end Go.Proofs.YtefjhnhdagolhabGreat
