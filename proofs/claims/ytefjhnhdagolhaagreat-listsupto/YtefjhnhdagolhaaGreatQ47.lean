import Derived.Test.YtefjhnhdagolhaaGreatQ46
import Derived.Test.YtefjhnhdagolhaaGreatQ34
import Derived.Test.YtefjhnhdagolhaaGreatQ45
import Derived.Test.YtefjhnhdagolhaaGreatQ37
namespace Go.Proofs.YtefjhnhdagolhaaGreat.row
open Go.RowKit
open M (aI aC aD dA aS cA aR aT aO aG aJ marks tagged num YI)
section
variable {σ:Type} {R:SR σ} {P:M.Plain σ} {L:Lt}
theorem Goes.yO {S:Nat→Prop} {w w':World} {Y':aR} (hS:∀ k,L.own k→S k) (h:Goes R P L S w Y' w'):qB (fun S Y w=>∃ E,Both R P L S E Y w) S w Y' w' :=
 ⟨h.ex,⟨h.fr.os,h.fr.tape,h.fr.output,h.fr.size,fun k hk hn=>h.fr.block k hk (fun c=>hn (hS k c))⟩⟩
theorem EE (P:M.Plain σ) (Y:aR):(eK P Y Y.order.length).st=rT P Y:=by rw [gA,tB];rfl
theorem xok {tell:σ→List Int} {fA:Nat} {rv:Value} (hA:eV R P L fA rv) {fT:Nat} {rt:Value} (hT:DX R L tell fT rt) (D:DL) (uH:D.n=L.n) (yL:D.cap=L.cap) :
  qC P tell D 191 L.bE (fun S Y w=>∃ E,Both R P L S E Y w) 287 292 286 289 290 291 288 where
 mBe _:=by kernel_rfl
 mSt _:=by kernel_rfl
 mAn _:=by kernel_rfl
 mDo _:=by kernel_rfl
 mOr _:=by kernel_rfl
 mTe _:=by kernel_rfl
 mBo _:=by kernel_rfl
 cBe _ _ _:=by kernel_rfl
 cSt _ _:=by kernel_rfl
 cAn _ _:=by kernel_rfl
 cDo _ _ _:=by kernel_rfl
 cOr _:=by kernel_rfl
 cTe _:=by kernel_rfl
 cBo _:=by kernel_rfl
 lt S Y w h:=by obtain ⟨E,h⟩:=h;exact h.re.lt
 stay S S' Y w w' h hk hS hlt:=by obtain ⟨E,h⟩:=h;exact ⟨E,h.stay hk hS hlt⟩
 be S Y w x o h:=by
  obtain ⟨E,h⟩:=h
  rw [uH]
  unfold beE NI
  by_cases hx:AB L.n x
  ·rw [if_pos hx,if_pos hx]
   obtain ⟨t,rfl,ht,e⟩:=jC hx
   rw [e]
   refine ((iW h o).2 t ht).mono ?_
   rintro e w' ⟨rfl,hg⟩
   exact ⟨rfl,hg.yO h.re.ow⟩
  ·rw [if_neg hx,if_neg hx]
   refine ((iW h o).1 x hx).mono ?_
   rintro e w' ⟨rfl,hg⟩
   exact ⟨rfl,hg.yO h.re.ow⟩
 st S Y w x h hK:=by
  obtain ⟨E,h⟩:=h
  have hN:=hK.2
  have hF:Y.bs.flatten.length≤100000000000:=Nat.le_trans (h.yi.all h.re.ok.n64 (B:=1000000000) (fun t ht=>hK.1 t (by omega))) (by omega)
  rw [uH,yL]
  unfold stA stE NJ
  by_cases hx:AB L.n x
  ·rw [if_pos hx,if_pos hx,if_pos hx]
   obtain ⟨t,rfl,ht,e⟩:=jC hx
   rw [e]
   by_cases hp:(Y.th t).part=0
   ·rw [if_pos hp,if_pos hp,if_pos hp]
    refine ((rM hA h hN hF).2.1 t ht hp).mono ?_
    rintro e w' ⟨rfl,hg⟩
    exact ⟨rfl,hg.yO h.re.ow⟩
   ·rw [if_neg hp,if_neg hp,if_neg hp]
    refine ((rM hA h hN hF).2.2 t ht hp).mono ?_
    rintro e w' ⟨rfl,hg⟩
    exact ⟨rfl,hg.yO h.re.ow⟩
  ·rw [if_neg hx,if_neg hx,if_neg hx]
   refine ((rM hA h hN hF).1 x hx).mono ?_
   rintro e w' ⟨rfl,hg⟩
   exact ⟨rfl,hg.yO h.re.ow⟩
 an S Y w x h:=by
  obtain ⟨E,h⟩:=h
  rw [uH]
  unfold ZR
  by_cases hx:AB L.n x
  ·rw [if_pos hx]
   obtain ⟨t,rfl,ht,e⟩:=jC hx
   rw [e,←yM]
   exact (kP h).2 t ht
  ·rw [if_neg hx];exact (kP h).1 x hx
 dd S Y w x o K h hK qP:=by
  obtain ⟨E,h⟩:=h
  rw [uH,yL]
  unfold XT UL
  by_cases hx:AB L.n x
  ·rw [if_pos hx,if_pos hx]
   obtain ⟨t,rfl,ht,e⟩:=jC hx
   rw [e,←EB]
   refine ((UK hA h D uH yL hK qP o).2 t ht).mono ?_
   rintro e w' ⟨rfl,hg⟩
   exact ⟨rfl,hg.yO h.re.ow⟩
  ·rw [if_neg hx,if_neg hx]
   refine ((UK hA h D uH yL hK qP o).1 x hx).mono ?_
   rintro e w' ⟨rfl,hg⟩
   exact ⟨rfl,hg.yO h.re.ow⟩
 or S Y w h hK:=by
  obtain ⟨E,h⟩:=h
  have:=h.yi.all h.re.ok.n64 (B:=1000000000) (fun t ht=>hK.1 t (by omega))
  exact DV h hK.2 (by omega)
 te S Y w h hK:=by
  obtain ⟨E,h⟩:=h
  rw [EE]
  exact DY hT hA.z h hK.2 (Nat.le_trans (h.yi.all h.re.ok.n64 (B:=1000000000) (fun t ht=>hK.1 t (by omega))) (by omega))
 bo S Y w h:=by
  obtain ⟨E,h⟩:=h
  rw [uH,yL]
  exact DZ h
end
end Go.Proofs.YtefjhnhdagolhaaGreat.row
namespace Go.Proofs.YtefjhnhdagolhaaGreat.row
open Go.RowKit
open M (aI aC aD dA aS cA aR aT aO aG aJ marks tagged num YI)
section
variable {σ:Type} {P:M.Plain σ} {tell:σ→List Int} {sz:σ→Nat} {HM:World→Value→σ→Prop}
theorem yQ {kind:Int} {n cap:Nat} {st co:Int} {nx ou:List Int} {vn vo:Value} {Mk:World→Nat→World→Prop} {oT:TypeId} {fA fT:Nat}
  (hMk:∀ w b w',Mk w b w'→∃ (w1:World) (G:Nat→Prop) (R:SR σ) (ov rv rt:Value),Below w.heap.size w w1∧gI w1 n (cap:Int) oT ov b w'∧(∀ k,G k→w.heap.size≤k∧k<w1.heap.size)∧(∀ I:Nat→Prop,(∀ k,G k→I k)→R.rep I w' P.first [.pointer none,.pointer none])∧(∀ L:Lt,L.oT=oT→L.ov=ov→eV R P L fA rv)∧∀ L:Lt,L.oT=oT→L.ov=ov→DX R L tell fT rt)
  (hD:∀ D:DL,D.kind=kind→D.st=st→D.co=co→D.nx=nx→D.ou=ou→((kind≠5∧D.vn=vn∧D.vo=vo)∨(kind=5∧∃ g1 g2,D.vn = .slice (some ⟨g1,0,none⟩) nx.length nx.length∧D.vo = .slice (some ⟨g2,0,none⟩) ou.length ou.length))→DS P tell sz HM iX D) (hF:∀ D:DL,D.n≤64→mI P tell D) (hn:1≤n) (rN:n≤64) (hc:cap≤64):mJ kind n (cap:Int) st co nx ou vn vo Mk:=by
 intro w e w' hM
 obtain ⟨base,bX,bY,tE,bN,w01,w1,w03,w4,wr,rfl,CW,aBC,hMd,hz1,hbase,-,hK,hz4,dU,hrL,hb',XA⟩:=hM
 obtain ⟨wg,G,R,ov,rv,rt,hbg,⟨bN',hr',hE,hge⟩,hG,hz,hA,hT⟩:=hMk _ _ _ hMd
 obtain ⟨L,e1,e2,e3,e4,rfl,hB⟩:=Both.new2 (P:=P) hr' hE hn rN hc (fun k hk=>(hG k hk).2) hz
 obtain ⟨-,-,-,-,-,-,aP⟩:=CW.reads hn
 obtain ⟨D,SD,rfl,d2,d3,d4,d5,d6,d7,d8,dv,hSD,hDW⟩:=DW.new P CW hn rN hc
 have xo:=xok (hA L e3 e4) (hT L e3 e4) D (d2.trans e1.symm) (d3.trans e2.symm)
 have ds:DS P tell sz HM iX D:=hD D d4 d5 d6 d7 d8 dv
 have z1:=aBC.size
 have z2:=aP.size
 have z3:=hbg.size
 have z5:=hE.below.1.size
 have hS:∀ k,((wg.heap.size≤k∧k<w4.heap.size)∧k≠bX)∨G k→w03.heap.size≤k∧k<w4.heap.size∧k≠bX:=by
  rintro k (c|c)
  ·exact ⟨by omega,c.1.2,c.2⟩
  ·have:=hG k c
   exact ⟨by omega,by omega,by omega⟩
 have hX:=hB.stay (w1:=wr) (S':=fun k=>((wg.heap.size≤k∧k<w4.heap.size)∧k≠bX)∨G k) (fun k hk=>hK k (by have:=hS k hk;omega) (hS k hk).2.1) (fun _ q=>q) (fun k hk=>by have:=hS k hk;omega)
 have KE:base≤bX:=by omega
 have law:=qQ.new (A:=⟨wr.heap.size,bX,191,L.bE⟩) (B:=w.heap.size) xo hDW (fun k hk=>by have:=hSD k hk;omega) ⟨_,hX⟩ (fun k hk=>by have:=hS k hk;exact ⟨by omega,by omega,this.2.2⟩) (by show _≤bX;omega) (by omega) dU hb' (hK.row hr' KE) rfl hrL
 exact ⟨_,_,rfl,aD5 (A:=⟨wr.heap.size,bX,191,L.bE⟩) xo ds (hF D (by omega)) w,_,_,law,fJ.new D,fun q hq=>hq.1,Below.next XA hb' XA.size⟩
end
end Go.Proofs.YtefjhnhdagolhaaGreat.row
