import Derived.Test.YtefjhnhdagolhaaGreatQ47
import Derived.Test.YtefjhnhdagolhaaGreatQ35
import Derived.Test.YtefjhnhdagolhaaGreatQ38
set_option maxHeartbeats 1000000
namespace Go.Proofs.YtefjhnhdagolhaaGreat
open int list tree
open Go.RowKit
open M (aI aC aD cY aS aK aP bA aQ aL aN marks tagged num YI)
def int.pS:Prop:=∀ {σ:Type} {P:M.Plain σ} {tell:σ→List Int} {n cap:Nat} {oT:TypeId} {fA fT:Nat} {w b w'} (_hn:1≤n) (_OG:n≤64) (_hc:cap≤64) (_h:∃ (w1:World) (G:Nat→Prop) (R:SR σ) (ov rv rt:Value),Below w.heap.size w w1∧dK w1 n (cap:Int) oT ov b w'∧(∀ k,G k→w.heap.size≤k∧k<w1.heap.size)∧(∀ I:Nat→Prop,(∀ k,G k→I k)→R.rep I w' P.first [.int .i64 0])∧(∀ L:Lt,L.oT=oT→L.ov=ov→bO R P L fA rv)∧∀ L:Lt,L.oT=oT→L.ov=ov→sY R L tell fT rt),zU P tell n cap w b w'
def list.pS:Prop:=∀ {σ:Type} {P:M.Plain σ} {tell:σ→List Int} {n cap:Nat} {oT:TypeId} {fA fT:Nat} {w b w'} (_hn:1≤n) (_OG:n≤64) (_hc:cap≤64) (_h:∃ (w1:World) (G:Nat→Prop) (R:SR σ) (ov rv rt:Value),Below w.heap.size w w1∧dK w1 n (cap:Int) oT ov b w'∧(∀ k,G k→w.heap.size≤k∧k<w1.heap.size)∧(∀ I:Nat→Prop,(∀ k,G k→I k)→R.rep I w' P.first [.pointer none])∧(∀ L:Lt,L.oT=oT→L.ov=ov→bO R P L fA rv)∧∀ L:Lt,L.oT=oT→L.ov=ov→sY R L tell fT rt),zU P tell n cap w b w'
def tree.pS:Prop:=∀ {σ:Type} {P:M.Plain σ} {tell:σ→List Int} {n cap:Nat} {oT:TypeId} {fA fT:Nat} {w b w'} (_hn:1≤n) (_OG:n≤64) (_hc:cap≤64) (_h:∃ (w1:World) (G:Nat→Prop) (R:SR σ) (ov rv rt:Value),Below w.heap.size w w1∧dK w1 n (cap:Int) oT ov b w'∧(∀ k,G k→w.heap.size≤k∧k<w1.heap.size)∧(∀ I:Nat→Prop,(∀ k,G k→I k)→R.rep I w' P.first [.pointer none])∧(∀ L:Lt,L.oT=oT→L.ov=ov→bO R P L fA rv)∧∀ L:Lt,L.oT=oT→L.ov=ov→sY R L tell fT rt),zU P tell n cap w b w'
def row.pS:Prop:=∀ {σ:Type} {P:M.Plain σ} {tell:σ→List Int} {n cap:Nat} {oT:TypeId} {fA fT:Nat} {w b w'} (_hn:1≤n) (_OG:n≤64) (_hc:cap≤64) (_h:∃ (w1:World) (G:Nat→Prop) (R:SR σ) (ov rv rt:Value),Below w.heap.size w w1∧dK w1 n (cap:Int) oT ov b w'∧(∀ k,G k→w.heap.size≤k∧k<w1.heap.size)∧(∀ I:Nat→Prop,(∀ k,G k→I k)→R.rep I w' P.first [.pointer none,.pointer none])∧(∀ L:Lt,L.oT=oT→L.ov=ov→bO R P L fA rv)∧∀ L:Lt,L.oT=oT→L.ov=ov→sY R L tell fT rt),zU P tell n cap w b w'
open row in
theorem JC:int.pS∧list.pS∧tree.pS∧row.pS:=by
 refine ⟨?_,?_,?_,?_⟩<;>intro σ P tell n cap oT fA fT w b w' hn lG hc h
 all_goals
  obtain ⟨wg,G,R,ov,rv,rt,hbg,⟨bN',hr',hE,hge⟩,hG,hz,hA,hT⟩:=h
  obtain ⟨L,e1,e2,e3,e4,rfl,hB⟩:=Both.new2 (P:=P) hr' hE hn lG hc (fun k hk=>(hG k hk).2) hz
  have z3:=hbg.size
  have z5:=hE.below.1.size
  refine ⟨_,L.bE,_,_,_,_,_,_,_,_,_,fun D d1 d2=>xok (hA L e3 e4) (hT L e3 e4) D (d1.trans e1.symm) (d2.trans e2.symm),⟨_,hB⟩,hr',?_,by omega,Below.next hbg hE.below.1 hbg.size⟩
  rintro k (c|c)
  ·exact ⟨by omega,c.1.2,c.2⟩
  ·have:=hG k c
   exact ⟨by omega,by omega,by omega⟩
theorem int.OQ:pS:=JC.1
theorem list.OQ:pS:=JC.2.1
theorem tree.OQ:pS:=JC.2.2.1
theorem row.OQ:pS:=JC.2.2.2
end Go.Proofs.YtefjhnhdagolhaaGreat
