import Derived.Test.YtefjhnhdagolhaaGreatQ31
import Derived.Test.YtefjhnhdagolhaaGreatQ20
namespace Go.Proofs.YtefjhnhdagolhaaGreat
open Go.RowKit
open M (aI aC aD aR aT cnt marks tagged num YI)
abbrev AB (n:Nat) (x:Int):Prop:=0≤x∧x<n
def XS (n cap:Nat):Int:=4+2*((cap:Int)+3+2*(((n:Int)+15) / 16+2*(n:Int)+1)+((n:Int)+15) / 16+3*(n:Int))+3
def beE (n:Nat) (Y:aR) (x:Int):Int:=if AB n x then (if (Y.th x.toNat).part=0 then 0 else 4) else 3
def NI (n:Nat) (Y:aR) (x:Int) (o:M.Op):aR:=if AB n x then (if (Y.th x.toNat).part=0 then M.cQ Y x.toNat o else Y) else Y
def stA (n cap:Nat) (Y:aR) (x:Int):Int:=if AB n x then (if (Y.th x.toNat).part=0 then 0 else zW (M.cP n cap Y x.toNat).2) else 0
def stE (n:Nat) (Y:aR) (x:Int):Int:=if AB n x then (if (Y.th x.toNat).part=0 then 5 else 0) else 3
def NJ (n cap:Nat) (Y:aR) (x:Int):aR:=if AB n x then (if (Y.th x.toNat).part=0 then Y else (M.cP n cap Y x.toNat).1) else Y
section
variable {σ:Type}
def ZR (P:M.Plain σ) (n:Nat) (Y:aR) (x:Int):Int×Int×Int:=if AB n x then (if (Y.th x.toNat).part≠0 then (0,0,4) else if (Y.th x.toNat).ended=0 then (0,0,5) else ((gN P Y x.toNat).s,(gN P Y x.toNat).v,0)) else (0,0,3)
def XT (P:M.Plain σ) (n cap:Nat) (Y:aR) (x:Int) (o:M.Op):Int×Int×Int:=if AB n x then (if (Y.th x.toNat).part≠0 then (0,0,4) else ((gN P (M.fin n cap x.toNat (M.cQ Y x.toNat o)) x.toNat).s,(gN P (M.fin n cap x.toNat (M.cQ Y x.toNat o)) x.toNat).v,0)) else (0,0,3)
def UL (n cap:Nat) (Y:aR) (x:Int) (o:M.Op):aR:=if AB n x then ZJ n cap Y x.toNat o else Y
def QT (a:Int×Int×Int):Value:=.tuple #[.agg #[.int .i64 a.1,.int .i64 a.2.1],.int .i64 a.2.2]
structure qB (X:(Nat→Prop)→aR→World→Prop) (S:Nat→Prop) (w:World) (Y':aR) (w':World):Prop where
 x:X (Grow S w w') Y' w'
 fr:Fr S w w'
structure qC (P:M.Plain σ) (tell:σ→List Int) (D:DL) (tE:TypeId) (bN:Nat) (X:(Nat→Prop)→aR→World→Prop) (kU kV kW kX kY kZ lA:Nat):Prop where
 mBe:∀ W,(method 553 tE (.pointer (some ⟨bN,0,none⟩)) "Begin").run Tryz.prog W = .ok (kU,.pointer (some ⟨bN,0,none⟩)) W
 mSt:∀ W,(method 553 tE (.pointer (some ⟨bN,0,none⟩)) "Step").run Tryz.prog W = .ok (kV,.pointer (some ⟨bN,0,none⟩)) W
 mAn:∀ W,(method 553 tE (.pointer (some ⟨bN,0,none⟩)) "Answer").run Tryz.prog W = .ok (kW,.pointer (some ⟨bN,0,none⟩)) W
 mDo:∀ W,(method 553 tE (.pointer (some ⟨bN,0,none⟩)) "Do").run Tryz.prog W = .ok (kX,.pointer (some ⟨bN,0,none⟩)) W
 mOr:∀ W,(method 553 tE (.pointer (some ⟨bN,0,none⟩)) "Order").run Tryz.prog W = .ok (kY,.pointer (some ⟨bN,0,none⟩)) W
 mTe:∀ W,(method 553 tE (.pointer (some ⟨bN,0,none⟩)) "State").run Tryz.prog W = .ok (kZ,.pointer (some ⟨bN,0,none⟩)) W
 mBo:∀ W,(method 553 tE (.pointer (some ⟨bN,0,none⟩)) "Bound").run Tryz.prog W = .ok (lA,.pointer (some ⟨bN,0,none⟩)) W
 cBe:∀ (a b:Value) (W:World),(callFunc kU #[.pointer (some ⟨bN,0,none⟩),a,b]).run Tryz.prog W = .ok (.enter kU #[.pointer (some ⟨bN,0,none⟩),a,b]) W
 cSt:∀ (a:Value) (W:World),(callFunc kV #[.pointer (some ⟨bN,0,none⟩),a]).run Tryz.prog W = .ok (.enter kV #[.pointer (some ⟨bN,0,none⟩),a]) W
 cAn:∀ (a:Value) (W:World),(callFunc kW #[.pointer (some ⟨bN,0,none⟩),a]).run Tryz.prog W = .ok (.enter kW #[.pointer (some ⟨bN,0,none⟩),a]) W
 cDo:∀ (a b:Value) (W:World),(callFunc kX #[.pointer (some ⟨bN,0,none⟩),a,b]).run Tryz.prog W = .ok (.enter kX #[.pointer (some ⟨bN,0,none⟩),a,b]) W
 cOr:∀ W,(callFunc kY #[.pointer (some ⟨bN,0,none⟩)]).run Tryz.prog W = .ok (.enter kY #[.pointer (some ⟨bN,0,none⟩)]) W
 cTe:∀ W,(callFunc kZ #[.pointer (some ⟨bN,0,none⟩)]).run Tryz.prog W = .ok (.enter kZ #[.pointer (some ⟨bN,0,none⟩)]) W
 cBo:∀ W,(callFunc lA #[.pointer (some ⟨bN,0,none⟩)]).run Tryz.prog W = .ok (.enter lA #[.pointer (some ⟨bN,0,none⟩)]) W
 lt:∀ S Y w,X S Y w→∀ k,S k→k<w.heap.size
 stay:∀ S S' Y w w',X S Y w→(∀ k,S k→w'.heap[k]?=w.heap[k]?)→(∀ k,S k→S' k)→(∀ k,S' k→k<w'.heap.size)→X S' Y w'
 be:∀ S Y w x (o:M.Op),X S Y w→Calls Tryz.prog kU #[.pointer (some ⟨bN,0,none⟩),.int .i64 x,.agg #[.int .i64 o.c,.int .i64 o.a,.int .i64 o.b]] w fun e w'=>e = .returned (.int .i64 (beE D.n Y x))∧qB X S w (NI D.n Y x o) w'
 st:∀ S Y w x,X S Y w→fJ D 1000000000 Y→Calls Tryz.prog kV #[.pointer (some ⟨bN,0,none⟩),.int .i64 x] w fun e w'=>e = .returned (.tuple #[.int .i64 (stA D.n D.cap Y x),.int .i64 (stE D.n Y x)])∧qB X S w (NJ D.n D.cap Y x) w'
 an:∀ S Y w x,X S Y w→Calls Tryz.prog kW #[.pointer (some ⟨bN,0,none⟩),.int .i64 x] w fun e w'=>e = .returned (QT (ZR P D.n Y x))∧Below w.heap.size w w'
 dd:∀ S Y w x (o:M.Op) K,X S Y w→fJ D K Y→K+6000≤1000000000→Calls Tryz.prog kX #[.pointer (some ⟨bN,0,none⟩),.int .i64 x,.agg #[.int .i64 o.c,.int .i64 o.a,.int .i64 o.b]] w fun e w'=>e = .returned (QT (XT P D.n D.cap Y x o))∧qB X S w (UL D.n D.cap Y x o) w'
 or:∀ S Y w,X S Y w→fJ D 1000000000 Y→Calls Tryz.prog kY #[.pointer (some ⟨bN,0,none⟩)] w fun e w'=>∃ v,e = .returned v∧w'.ownsRow w.heap.size 81 3 v Y.order.length (cU Y.order)∧Below w.heap.size w w'
 te:∀ S Y w,X S Y w→fJ D 1000000000 Y→Calls Tryz.prog kZ #[.pointer (some ⟨bN,0,none⟩)] w fun e w'=>∃ v,e = .returned v∧w'.ownsRow w.heap.size 3 1 v (tell (eK P Y Y.order.length).st).length (ints (tell (eK P Y Y.order.length).st))∧Below w.heap.size w w'
 bo:∀ S Y w,X S Y w→Calls Tryz.prog lA #[.pointer (some ⟨bN,0,none⟩)] w fun e w'=>e = .returned (.int .i64 (XS D.n D.cap))∧Below w.heap.size w w'
end
end Go.Proofs.YtefjhnhdagolhaaGreat
namespace Go.Proofs.YtefjhnhdagolhaaGreat
open Go.RowKit
open M (aI aC aD aR aT cnt marks tagged num YI)
attribute [local go_sem ↓] Go.wp_at_zero Go.wp_at_succ
abbrev iX:Nat→World→Prop:=fun _ _=>True
section
variable {σ:Type} {L:DL} {P:M.Plain σ} {tell:σ→List Int} {sz:σ→Nat} {HM:World→Value→σ→Prop} {S:Nat→Prop} {Y:aR} {w:World} {K:Nat}
theorem jC {n:Nat} {x:Int} (h:AB n x):∃ t:Nat,x=t∧t<n∧x.toNat=t:=⟨x.toNat,by have:=h.1;omega,by have:=h.1;have:=h.2;omega,rfl⟩
theorem XU (ds:DS P tell sz HM iX L) (h:DW P iX L S Y w) (hK:fJ L 1000000000 Y) (x:Int) (o:M.Op) :
  Calls Tryz.prog 43 #[.pointer (some ⟨L.b,0,none⟩),.int .i64 x,.agg #[.int .i64 o.c,.int .i64 o.a,.int .i64 o.b]] w fun e w'=>e = .returned (.int .i64 (beE L.n Y x))∧lM P iX L S w (NI L.n Y x o) w':=by
 unfold beE NI
 by_cases hx:AB L.n x
 ·rw [if_pos hx,if_pos hx]
  obtain ⟨t,rfl,ht,e⟩:=jC hx
  rw [e]
  by_cases hp:(Y.th t).part=0
  ·rw [if_pos hp,if_pos hp];exact (vV ds h hK o).2.2 t ht hp
  ·rw [if_neg hp,if_neg hp];exact (vV ds h hK o).2.1 t ht hp
 ·rw [if_neg hx,if_neg hx];exact (vV ds h hK o).1 x hx
theorem aBt (ds:DS P tell sz HM iX L) (h:DW P iX L S Y w) (hK:fJ L 1000000000 Y) (x:Int) :
  Calls Tryz.prog 53 #[.pointer (some ⟨L.b,0,none⟩),.int .i64 x] w fun e w'=>e = .returned (.tuple #[.int .i64 (stA L.n L.cap Y x),.int .i64 (stE L.n Y x)])∧lM P iX L S w (NJ L.n L.cap Y x) w':=by
 unfold stA stE NJ
 by_cases hx:AB L.n x
 ·rw [if_pos hx,if_pos hx,if_pos hx]
  obtain ⟨t,rfl,ht,e⟩:=jC hx
  rw [e]
  by_cases hp:(Y.th t).part=0
  ·rw [if_pos hp,if_pos hp,if_pos hp];exact (DT ds h hK).2.1 t ht hp
  ·rw [if_neg hp,if_neg hp,if_neg hp];exact (DT ds h hK).2.2 t ht hp
 ·rw [if_neg hx,if_neg hx,if_neg hx];exact (DT ds h hK).1 x hx
theorem yM (P:M.Plain σ) (Y:aR) (t:Nat):PO P Y t=QT (if (Y.th t).part≠0 then (0,0,4) else if (Y.th t).ended=0 then (0,0,5) else ((gN P Y t).s,(gN P Y t).v,0)):=by
 unfold PO QT
 split
 ·rfl
 ·split<;>rfl
theorem UM (ds:DS P tell sz HM iX L) (h:DW P iX L S Y w) (hK:fJ L 1000000000 Y) (x:Int) :
  Calls Tryz.prog 54 #[.pointer (some ⟨L.b,0,none⟩),.int .i64 x] w fun e w'=>e = .returned (QT (ZR P L.n Y x))∧Below w.heap.size w w':=by
 unfold ZR
 by_cases hx:AB L.n x
 ·rw [if_pos hx]
  obtain ⟨t,rfl,ht,e⟩:=jC hx
  rw [e,←yM]
  exact (yI ds h hK).2 t ht
 ·rw [if_neg hx];exact (yI ds h hK).1 x hx
theorem EB (P:M.Plain σ) (n cap:Nat) (Y:aR) (t:Nat) (o:M.Op):ZI P n cap Y t o=QT (if (Y.th t).part≠0 then (0,0,4) else ((gN P (M.fin n cap t (M.cQ Y t o)) t).s,(gN P (M.fin n cap t (M.cQ Y t o)) t).v,0)):=by
 unfold ZI QT
 split<;>rfl
theorem aG5 (ds:DS P tell sz HM iX L) (h:DW P iX L S Y w) (hK:fJ L K Y) (qP:K+6000≤1000000000) (x:Int) (o:M.Op) :
  Calls Tryz.prog 47 #[.pointer (some ⟨L.b,0,none⟩),.int .i64 x,.agg #[.int .i64 o.c,.int .i64 o.a,.int .i64 o.b]] w fun e w'=>e = .returned (QT (XT P L.n L.cap Y x o))∧lM P iX L S w (UL L.n L.cap Y x o) w':=by
 unfold XT UL
 by_cases hx:AB L.n x
 ·rw [if_pos hx,if_pos hx]
  obtain ⟨t,rfl,ht,e⟩:=jC hx
  rw [e,←EB]
  exact (aDz ds h hK qP o).2 t ht
 ·rw [if_neg hx,if_neg hx];exact (aDz ds h hK qP o).1 x hx
set_option maxHeartbeats 800000 in
theorem XV (h:DW P iX L S Y w) :
  Calls Tryz.prog 84 #[.pointer (some ⟨L.b,0,none⟩)] w fun e w'=>e = .returned (.int .i64 (XS L.n L.cap))∧Below w.heap.size w w':=by
 obtain ⟨lD,rS,xQ⟩:=h.n
 obtain ⟨bC,vo,vp,vb,bv,q⟩:=h.doc
 have c1:w.cell? ⟨L.b,1,none⟩=some (.int .i64 (L.n:Int)):=q.cS rfl
 have c2:w.cell? ⟨L.b,2,none⟩=some (.int .i64 (L.cap:Int)):=q.cS rfl
 have HC:=aA c1
 have HT:=aA (show (M.tw L.n:Int)=((L.n:Int)+15) / 16 by unfold M.tw;omega)
 have MJ:M.tw L.n≤4:=by unfold M.tw;omega
 have HP:=aA (FX w c1 rS)
 have HW:=aA (sW w c1 rS)
 have vI:(M.aO L.n+1:Nat)=M.tw L.n+2*L.n+1:=rfl
 rw [vI] at HP
 clear h q vI
 unfold XS
 rw [←HT.out]
 generalize M.tw L.n=a at *
 go_enter Tryz.func84,Tryz.ntmps84
 go_wp2_with fail
 refine HW.out.mono ?_
 rintro e w1 ⟨rfl,rfl⟩
 go_wp2_with fail
 refine HP.out.mono ?_
 rintro e w1 ⟨rfl,k,rfl⟩
 go_wp2_with fail
 go_quiet (fail)
 go_wp2
 go_ret
 exact ⟨lF (by push_cast;rfl),Below.drewN (Below.drewN (Below.refl _ _) _) _⟩
end
end Go.Proofs.YtefjhnhdagolhaaGreat
namespace Go.Proofs.YtefjhnhdagolhaaGreat
open Go.RowKit
def laid (es:List (Value×Nat)):List Value:=es.flatMap fun e=>[e.1,.int .i64 (e.2:Int)]
theorem GQ (a b:List (Value×Nat)):laid (a++b)=laid a++laid b:=by simp [laid]
def full (mk:Nat→Value) (m:Nat):List Value:=(List.range m).map mk
theorem GR (mk:Nat→Value) {m p:Nat} (h:p<m):(full mk m)[p]?=some (mk p):=by simp [full,List.getElem?_range h]
theorem Reads.block {mk:Nat→Value} {sz i:Nat} {s:Value} {W W':World} (h:Reads mk sz i s W) (hz:W.heap.size≤W'.heap.size) (hb:∀ g,s.ownBlock=some g→W'.heap[g]?=W.heap[g]?):Reads mk sz i s W':=by
 rcases h with h|⟨g,j,c,rfl,h1,h2,h3,h4⟩
 ·exact .inl h
 ·exact .inr ⟨g,j,c,rfl,h1,h2,by omega,fun p hp=>bM (h4 p hp) (hb g rfl)⟩
theorem Reads.le {mk:Nat→Value} {sz i j:Nat} {s:Value} {W:World} (h:Reads mk sz i s W) (hi:i≤j):Reads mk sz j s W:=by
 rcases h with h|⟨g,j',c,rfl,h1,h2⟩
 ·exact .inl h
 ·exact .inr ⟨g,j',c,rfl,by omega,h2⟩
theorem LJ {mk:Nat→Value} {sz n:Nat} {l:Value} {W:World} {tL:TypeId} {base:Nat} (h:W.ownsRow base tL sz l n (full mk (n*sz))):Reads mk sz n l W:=by
 rcases h.2 with ⟨rfl,-⟩|⟨g,cap,cur,rfl,-,-,h5,-⟩
 ·exact .inl rfl
 ·refine .inr ⟨g,n,cap,rfl,Nat.le_refl _,h5,(h.lt g rfl).2,fun p hp=>?_⟩
  have:=h.cells (g:=g) rfl p _ (GR mk hp)
  rwa [eM,Nat.zero_add] at this
structure mH (V:World) (bL:Nat) (tO tL:TypeId) (sz:Nat) (mk:Nat→Value) (kk:Nat) (cs:Value→List Value) (v0 l0:Value) (eG:List (Value×Nat)) (i n:Nat) (v l:Value) (ss:List Value) (W:World):Prop where
 len:ss.length=i
 row:Row W bL 90 (cs v)
 own:W.ownsRow 0 tO 2 v (eG.length+i) (laid (eG++ss.map fun s=>(s,kk)))
 lis:W.ownsRow 0 tL sz l n (full mk (n*sz))
 vN:∀ s∈ss,Reads mk sz n s W∧∀ g,s.ownBlock=some g→(l0.ownBlock=some g∨V.heap.size≤g)∧v.ownBlock≠some g
 vb:∀ g,v.ownBlock=some g→v0.ownBlock=some g∨V.heap.size≤g
 lb:∀ g,l.ownBlock=some g→(l0.ownBlock=some g∨V.heap.size≤g)∧v.ownBlock≠some g
 bl:bL<V.heap.size∧l0.ownBlock≠some bL∧v0.ownBlock≠some bL
 fr:Fr (fun k=>k=bL∨v0.ownBlock=some k∨l0.ownBlock=some k) V W
section
variable {V:World} {bL:Nat} {tO tL:TypeId} {sz:Nat} {mk:Nat→Value} {kk:Nat} {cs:Value→List Value} {v0 l0:Value} {eG:List (Value×Nat)} {i n:Nat} {v l:Value} {ss:List Value} {W W':World}
theorem mH.vne (h:mH V bL tO tL sz mk kk cs v0 l0 eG i n v l ss W):v.ownBlock≠some bL:=fun e=>by
 rcases h.vb bL e with q|q
 ·exact h.bl.2.2 q
 ·have:=h.bl.1;omega
theorem mH.lne (h:mH V bL tO tL sz mk kk cs v0 l0 eG i n v l ss W):l.ownBlock≠some bL:=fun e=>by
 rcases (h.lb bL e).1 with q|q
 ·exact h.bl.2.1 q
 ·have:=h.bl.1;omega
theorem mH.next (h:mH V bL tO tL sz mk kk cs v0 l0 eG i n v l ss W) (hb:Below W.heap.size W W'):mH V bL tO tL sz mk kk cs v0 l0 eG i n v l ss W' where
 len:=h.len
 row:=h.row.old hb
 own:=fI h.own hb
 lis:=fI h.lis hb
 vN s hs:=⟨(h.vN s hs).1.grown (oK hb) (by simp),(h.vN s hs).2⟩
 vb:=h.vb
 lb:=h.lb
 bl:=h.bl
 fr:=h.fr.trans (Fr.cV hb)
theorem mH.more (h:mH V bL tO tL sz mk kk cs v0 l0 eG i n v l ss W) {g cap:Nat} {nw:List Value} (hnw:full mk (n*sz)++nw=full mk ((n+1)*sz)) (hown:W'.ownsRow 0 tL sz (.slice (some ⟨g,0,none⟩) (n+1) cap) (n+1) (full mk (n*sz)++nw)) (cG:W.grownBy W' l.ownBlock)
  (hk:l.ownBlock=some g∨(g=W.heap.size∧∀ q,q<W.heap.size→W'.heap[q]?=W.heap[q]?)):mH V bL tO tL sz mk kk cs v0 l0 eG i (n+1) v (.slice (some ⟨g,0,none⟩) (n+1) cap) ss W':=by
 rw [hnw] at hown
 have hz:=h.fr.size
 have hvl:=h.own.lt
 have hnb:∀ k,k≠bL∨True→some k≠l.ownBlock→k<W.heap.size→W'.heap[k]?=W.heap[k]?:=fun k _ hne hk=>cG.block k hk hne
 refine ⟨h.len,h.row.of_block (cG.block _ h.row.lt (fun e=>h.lne e.symm)),bJ h.own fun k e=>cG.block k (hvl k e).2 (fun q=>(h.lb k q.symm).2 e),hown,fun s hs=>⟨?_,(h.vN s hs).2⟩,h.vb,fun k e=>?_,h.bl,?_⟩
 ·exact (h.vN s hs).1.append cG hown (fun p hp=>GR mk hp) (hk.imp id And.right)
 ·have e:g=k:=by simpa [Value.ownBlock] using e
  subst e
  rcases hk with q|⟨rfl,-⟩
  ·exact h.lb g q
  ·exact ⟨.inr hz,fun c=>by have:=(hvl _ c).2;omega⟩
 ·refine ⟨cG.os.trans h.fr.os,cG.tape.trans h.fr.tape,cG.output.trans h.fr.output,Nat.le_trans hz cG.size,fun k hk ho=>?_⟩
  rw [cG.block k (by omega) (fun e=>by
   rcases (h.lb k e.symm).1 with q|q
   ·exact ho (.inr (.inr q))
   ·omega)]
  exact h.fr.block k hk ho
theorem mH.put (h:mH V bL tO tL sz mk kk cs v0 l0 eG i n v l ss W) {f:Nat} (hcs:∀ v v',(cs v).set f v'=cs v') {g cap:Nat} (hown:W'.ownsRow 0 tO 2 (.slice (some ⟨g,0,none⟩) (eG.length+i+1) cap) (eG.length+i+1) (laid (eG++ss.map fun s=>(s,kk))++[l,.int .i64 (kk:Int)])) (cG:W.grownBy W' v.ownBlock)
  (hk:v.ownBlock=some g∨g=W.heap.size):mH V bL tO tL sz mk kk cs v0 l0 eG (i+1) n (.slice (some ⟨g,0,none⟩) (eG.length+i+1) cap) l (ss++[l]) (W'.setCell ⟨bL,f,none⟩ (.slice (some ⟨g,0,none⟩) (eG.length+i+1) cap)):=by
 have hz:=h.fr.size
 have hvl:=h.own.lt
 have XR:=h.lis.lt
 have FM:=h.row.lt
 have FB:g<W'.heap.size:=(hown.lt g rfl).2
 have uY:g≠bL:=by
  rcases hk with q|q
  ·exact fun e=>h.vne (e▸q)
  ·omega
 have old:∀ k,k<W.heap.size→k≠bL→v.ownBlock≠some k→(W'.setCell ⟨bL,f,none⟩ (.slice (some ⟨g,0,none⟩) (eG.length+i+1) cap)).heap[k]?=W.heap[k]?:=fun k hk h1 h2=>by
  rw [Below.heap_setCell _ _ _ k h1]
  exact cG.block k hk (fun e=>h2 e.symm)
 have hlv:∀ k,l.ownBlock=some k→k≠g:=fun k e q=>by
  subst q
  rcases hk with q|q
  ·exact (h.lb k e).2 q
  ·have:=(XR k e).2;omega
 have hrd:∀ s∈ss,∀ k,s.ownBlock=some k→k<W.heap.size:=fun s hs k e=>by
  rcases (h.vN s hs).1 with q|⟨g',j,c,q,-,-,q3,-⟩
  ·subst q;simp [Value.ownBlock] at e
  ·subst q
   have:g'=k:=by simpa [Value.ownBlock] using e
   omega
 refine ⟨by simp [h.len],?_,?_,?_,?_,?_,?_,h.bl,?_⟩
 ·have:=(h.row.of_block (cG.block _ FM (fun e=>h.vne e.symm))).set f (.slice (some ⟨g,0,none⟩) (eG.length+i+1) cap)
  rw [hcs] at this
  exact this
 ·have e:laid (eG++(ss++[l]).map fun s=>(s,kk))=laid (eG++ss.map fun s=>(s,kk))++[l,.int .i64 (kk:Int)]:=by
   rw [List.map_append,←List.append_assoc,GQ]
   simp [laid]
  rw [e]
  exact bJ hown fun k e=>by
   have e:g=k:=by simpa [Value.ownBlock] using e
   subst e
   exact Below.heap_setCell _ _ _ g uY
 ·exact bJ h.lis fun k e=>old k (XR k e).2 (fun q=>h.lne (q▸e)) (fun q=>(h.lb k e).2 q)
 ·intro s hs
  rcases List.mem_append.1 hs with hs|hs
  ·refine ⟨(h.vN s hs).1.block (by simp [World.setCell];exact cG.size) (fun k e=>old k (hrd s hs k e) ?_ (fun q=>((h.vN s hs).2 k e).2 q)),fun k e=>⟨((h.vN s hs).2 k e).1,?_⟩⟩
   ·intro q
    subst q
    rcases ((h.vN s hs).2 k e).1 with c|c
    ·exact h.bl.2.1 c
    ·have:=h.bl.1;omega
   ·intro c
    have c:g=k:=by simpa [Value.ownBlock] using c
    subst c
    rcases hk with q|q
    ·exact ((h.vN s hs).2 g e).2 q
    ·have:=hrd s hs g e;omega
  ·rw [List.mem_singleton.1 hs]
   refine ⟨(LJ h.lis).block (by simp [World.setCell];exact cG.size) (fun k e=>old k (XR k e).2 (fun q=>h.lne (q▸e)) (fun q=>(h.lb k e).2 q)),fun k e=>⟨(h.lb k e).1,fun c=>?_⟩⟩
   have c:g=k:=by simpa [Value.ownBlock] using c
   exact hlv k e c.symm
 ·intro k e
  have e:g=k:=by simpa [Value.ownBlock] using e
  subst e
  rcases hk with q|q
  ·exact h.vb g q
  ·exact .inr (by omega)
 ·intro k e
  refine ⟨(h.lb k e).1,fun c=>?_⟩
  have c:g=k:=by simpa [Value.ownBlock] using c
  exact hlv k e c.symm
 ·refine ⟨cG.os.trans h.fr.os,cG.tape.trans h.fr.tape,cG.output.trans h.fr.output,by simp [World.setCell];exact Nat.le_trans hz cG.size,fun k hk ho=>?_⟩
  rw [old k (by omega) (fun e=>ho (.inl e)) (fun e=>by
   rcases h.vb k e with q|q
   ·exact ho (.inr (.inl q))
   ·omega)]
  exact h.fr.block k hk ho
end
end Go.Proofs.YtefjhnhdagolhaaGreat
namespace Go.Proofs.YtefjhnhdagolhaaGreat
open Go.RowKit
attribute [local go_sem ↓] Go.wp_at_zero Go.wp_at_succ
theorem PR (k n:Nat):full (cW k) (n*3)++[.int .i64 (-1-(k:Int)),.int .i64 (-1),.int .i64 (-1)]=full (cW k) ((n+1)*3):=by
 unfold full
 rw [show (n+1)*3=n*3+1+1+1 by omega,List.range_succ,List.range_succ,List.range_succ]
 simp only [List.map_append,List.map_cons,List.map_nil,List.append_assoc,List.cons_append,List.nil_append,cW]
 congr 1
 rw [if_pos (by omega),if_neg (by omega),if_neg (by omega)]
theorem UN (k n:Nat):full (iC k) (n*1)++[.int .i64 (-1-(k:Int))]=full (iC k) ((n+1)*1):=by
 unfold full
 rw [Nat.mul_one,Nat.mul_one,List.range_succ]
 simp [iC]
def filled (mk:Nat→Value) (j:Nat) (xs:List Value):List Value:=full mk j++xs.drop j
theorem lN {mk:Nat→Value} {j:Nat} {xs:List Value} (h:j<xs.length):(filled mk j xs).set j (mk j)=filled mk (j+1) xs:=by
 unfold filled full
 rw [List.set_append_right _ _ (by simp),List.length_map,List.length_range,Nat.sub_self,List.drop_eq_getElem_cons h,List.set_cons_zero,List.range_succ,List.map_append]
 simp
theorem uZ (mk:Nat→Value) (xs:List Value):filled mk 0 xs=xs:=by simp [filled,full]
theorem yN {mk:Nat→Value} {xs:List Value} {j:Nat} (h:xs.length=j):filled mk j xs=full mk j:=by
 unfold filled
 rw [List.drop_eq_nil_of_le (by omega),List.append_nil]
def NK (V:World) (bL:Nat) (x y is v0 l0:Value) (eG:List (Value×Nat)) (i n:Nat) (l:Value) (W:World):Prop:=∃ v ss,mH V bL 99 81 3 (cW eG.length) eG.length (fun v=>[x,y,v,is]) v0 l0 eG i n v l ss W
set_option maxRecDepth 20000 in
set_option maxHeartbeats 4000000 in
theorem EC (bL:Nat) (x y is v0 l0:Value) (eG:List (Value×Nat)) (V:World) (hR:Row V bL 90 [x,y,v0,is]) (hv:V.ownsRow 0 99 2 v0 eG.length (laid eG)) (hes:eG.length≤1000000000000) (n:Nat) (xs:List Value) (hO:V.ownsRow 0 81 3 l0 n xs) (hn:n≤1000000000000)
  (h1:l0.ownBlock≠some bL) (h2:v0.ownBlock≠some bL) (h3:∀ g,l0.ownBlock=some g→v0.ownBlock≠some g) :
  Calls Tryz.prog 82 #[.pointer (some ⟨bL,0,none⟩),l0] V fun e w'=>e = .returned (.tuple #[])∧∃ l,NK V bL x y is v0 l0 eG 4 (n+3) l w':=by
 obtain ⟨ti,qX,qE⟩:=Option.map_eq_some_iff.1 OM
 simp only [Prod.mk.injEq] at qE
 obtain ⟨iP,iQ,iR⟩:=qE
 have uT:=aA qX
 have IU:=aA iP
 have sM:=aA iQ
 have qY:=aA iR
 obtain ⟨mi,xK,xL⟩:=Option.map_eq_some_iff.1 OO
 simp only [Prod.mk.injEq] at xL
 obtain ⟨kL,kM,kN⟩:=xL
 have KC:=aA xK
 have FA:=aA kL
 have FQ:=aA kM
 have FR:=aA kN
 obtain ⟨⟨va,vc,rfl⟩,-⟩:=bG hv
 have c2:V.cell? ⟨bL,2,none⟩=some (.slice va eG.length vc):=hR.cell_of rfl
 have FM:=hR.lt
 have sB:∃ a c,l0 = .slice a n c∧(0<n→∃ g,a=some ⟨g,0,none⟩):=by
  rcases hO.2 with ⟨rfl,rfl⟩|⟨g,cap,cur,rfl,-⟩
  ·exact ⟨none,0,rfl,fun h=>absurd h (by decide)⟩
  ·exact ⟨_,cap,rfl,fun _=>⟨g,rfl⟩⟩
 obtain ⟨la,lc,rfl,hla⟩:=sB
 have hxl:xs.length=n*3:=hO.1
 have DE:=aA hla
 have KF:=aA (And.intro hR hv)
 have PS:=aA (And.intro h1 (And.intro h2 h3))
 have HS:=aA (show Fr (fun k=>(Value.slice la n lc).ownBlock=some k) V V∧V.ownsRow 0 81 3 (.slice la n lc) n (filled (cW eG.length) (0*3) xs) from ⟨Fr.refl _ _,by rw [Nat.zero_mul,uZ];exact hO⟩)
 clear qX iP iQ iR hR xK kL kM kN hv hO hla h1 h2 h3
 go_enter Tryz.func82,Tryz.ntmps82
 go_wp2
 go_loopw [5] (fun i w'=>∃ j:Nat,j≤n∧i = .int .i64 (j:Int)∧Fr (fun k=>(Value.slice la n lc).ownBlock=some k) V w'∧w'.ownsRow 0 81 3 (.slice la n lc) n (filled (cW eG.length) (j*3) xs)) (fun i _=>n-(intOf i).toNat)
 case atStart=>exact ⟨0,Nat.zero_le _,rfl,HS.out⟩
 case round =>
  obtain ⟨j,hj,rfl,hF,hO⟩:=hrel
  by_cases hlt:j<n
  ·obtain ⟨g,rfl⟩:=DE.out (by omega)
   have hlt':(j:Int)<(n:Int):=by omega
   have hj0:(0:Int)≤(j:Int):=by omega
   have HX:=aA (And.intro hF hO)
   clear hF hO
   go_wp2_with fail
   refine (rD (eG.length:Int) _ (by omega) (by omega)).mono ?_
   rintro e w2 ⟨rfl,aP⟩
   have zY:=fI HX.out.2 aP
   have hcell:∀ p,p<n*3→∃ u,w2.cell? ⟨g,p,none⟩=some u:=fun p hp=>by
    rw [zY.cellAt p hp,List.getElem?_eq_getElem (by rw [zY.1];exact hp)]
    exact ⟨_,rfl⟩
   obtain ⟨u0,k0⟩:=hcell (j*3) (by omega)
   obtain ⟨u1,k1⟩:=hcell (j*3+1) (by omega)
   obtain ⟨u2,k2⟩:=hcell (j*3+2) (by omega)
   have f0:=zY.frozenAt (j*3)
   have f1:=zY.frozenAt (j*3+1)
   have f2:=zY.frozenAt (j*3+2)
   have JY:=aA zY
   have HF2:=aA (HX.out.1.trans (Fr.cV aP))
   clear aP zY hcell
   go_wp2_with fail
   go_roundw
   case rel =>
    refine ⟨j+1,by omega,by go_num,((HF2.out.here rfl _ _).here rfl _ _).here rfl _ _,?_⟩
    have:=(((JY.out.stored (j*3) (cW eG.length (j*3))).1.stored (j*3+1) (cW eG.length (j*3+1))).1.stored (j*3+2) (cW eG.length (j*3+2))).1
    rw [lN (by omega),lN (by omega),lN (by omega)] at this
    rw [show (j+1)*3=j*3+1+1+1 by omega]
    have e0:cW eG.length (j*3) = .int .i64 (-1-(eG.length:Int)):=by unfold cW;rw [if_pos (by omega)]
    have e1:cW eG.length (j*3+1) = .int .i64 (-1):=by unfold cW;rw [if_neg (by omega)]
    have e2:cW eG.length (j*3+2) = .int .i64 (-1):=by unfold cW;rw [if_neg (by omega)]
    rw [e0,e1,e2] at this
    exact this
   case measure=>simp [intOf];omega
  ·have hlt':¬(j:Int)<(n:Int):=by omega
   have hjn:j=n:=by omega
   subst hjn
   rw [yN hxl] at hO
   have hrow:Row wr bL 90 [x,y,.slice va eG.length vc,is]:=KF.out.1.of_block (hF.block bL FM PS.out.1)
   have hvl:=KF.out.2.lt
   have hL:mH V bL 99 81 3 (cW eG.length) eG.length (fun v=>[x,y,v,is]) (.slice va eG.length vc) (.slice la j lc) eG 0 j (.slice va eG.length vc) (.slice la j lc) [] wr :=
    ⟨rfl,hrow,by simpa using bJ KF.out.2 (fun k e=>hF.block k (hvl k e).2 (fun q=>PS.out.2.2 k q e)),hO,fun s hs=>absurd hs List.not_mem_nil,fun g e=>.inl e,fun g e=>⟨.inl e,fun q=>PS.out.2.2 g e q⟩,⟨FM,PS.out.1,PS.out.2.1⟩,⟨hF.os,hF.tape,hF.output,hF.size,fun k hk ho=>hF.block k hk (fun c=>ho (.inr (.inr c)))⟩⟩
   have d2:wr.cell? ⟨bL,2,none⟩=some (.slice va eG.length vc):=hrow.cell_of rfl
   have HL:=aA hL
   clear hF hO hrow hL hvl
   go_wp2_with (at_builtin;refine bH _ rfl (.tmp 27) (.tmp 31) 87 rfl 0 99 ti (.agg #[.slice none 0 0,.int .i64 0]) 2 32 Tryz.underlying87 uT.out IU.out sM.out qY.out rfl (by decide) _ (eG.length+0) _ rfl (HL.out.next (aB _ _)).own ⟨wr.heap.size,0,none⟩ 1 1 [.slice la j lc,.int .i64 (eG.length:Int)] rfl rfl (World.news_of_block (Row.new _ _ _)) (by simp [Value.oneCell']) (by decide) (by unfold maxLen;omega) (by omega) (Nat.zero_le _) ?_)
   intro gm cm w1 hown cG JX hk
   have hL1:=(HL.out.next (aB wr _)).put (f:=2) (g:=gm) (cap:=cm) (fun _ _=>rfl) (by simpa using hown) cG (hk.imp id (fun q=>by simpa using q.1))
   have lC:Row w1 bL 90 [x,y,.slice va eG.length vc,is]:=(HL.out.next (aB wr _)).row.of_block (cG.block _ (HL.out.next (aB wr _)).row.lt (fun e=>PS.out.2.1 e.symm))
   have d2':w1.cell? ⟨bL,2,none⟩=some (.slice va eG.length vc):=lC.cell_of rfl
   have f2:=lC.frozen 2
   have HL1:=aA (show NK V bL x y is (.slice va eG.length vc) (.slice la j lc) eG 1 j (.slice la j lc) (w1.setCell ⟨bL,2,none⟩ (.slice (some ⟨gm,0,none⟩) (eG.length+1) cm)) from ⟨_,_,hL1⟩)
   clear hown cG JX hk hL1 lC d2 c2
   go_wp2
   go_loopw [1,6] (fun l i w'=>∃ k:Nat,k≤3∧i = .int .i64 (k:Int)∧NK V bL x y is (.slice va eG.length vc) (.slice la j lc) eG (k+1) (j+k) l w') (fun _ i _=>3-(intOf i).toNat)
   case atStart=>exact ⟨0,by decide,rfl,HL1.out⟩
   case round =>
    obtain ⟨k,hk,rfl,v,ss,hY⟩:=hrel
    have HY:=aA hY
    clear hY
    by_cases JX:k<3
    ·have xF:(k:Int)<3:=by omega
     go_wp2_with fail
     refine (rD (eG.length:Int) _ (by omega) (by omega)).mono ?_
     rintro e w2 ⟨rfl,aP⟩
     have HY2:=aA (HY.out.next aP)
     clear aP
     go_wp2_with (at_builtin;refine bH _ rfl (.tmp 39) (.tmp 42) 43 rfl 0 81 mi (.agg #[.int .i64 0,.int .i64 0,.int .i64 0]) 3 24 Tryz.underlying43 KC.out FA.out FQ.out FR.out rfl (by decide) _ (j+k) _ rfl (HY2.out.next (aB _ _)).lis ⟨w2.heap.size,0,none⟩ 1 1 [.int .i64 (-1-(eG.length:Int)),.int .i64 (-1),.int .i64 (-1)] rfl rfl (World.news_of_block (Row.new _ _ _)) (by simp [Value.oneCell']) (by decide) (by unfold maxLen;omega) (by omega) (Nat.zero_le _) ?_)
     intro g3 c3 w3 hown cG oW pZ
     have XW:=(HY2.out.next (aB w2 _)).more (PR _ _) hown cG (pZ.imp id (fun q=>⟨by simpa using q.1,by simpa using q.2⟩))
     obtain ⟨⟨va3,vc3,rfl⟩,-⟩:=bG XW.own
     have r2:w3.cell? ⟨bL,2,none⟩=some (.slice va3 (eG.length+(k+1)) vc3):=XW.row.cell_of rfl
     have UO:=aA XW
     clear hown cG oW pZ XW
     go_wp2_with (at_builtin;refine bH _ rfl (.tmp 48) (.tmp 52) 87 rfl 0 99 ti (.agg #[.slice none 0 0,.int .i64 0]) 2 32 Tryz.underlying87 uT.out IU.out sM.out qY.out rfl (by decide) _ (eG.length+(k+1)) _ rfl (UO.out.next (aB _ _)).own ⟨w3.heap.size,0,none⟩ 1 1 [.slice (some ⟨g3,0,none⟩) (j+k+1) c3,.int .i64 (eG.length:Int)] rfl rfl (World.news_of_block (Row.new _ _ _)) (by simp [Value.oneCell']) (by decide) (by unfold maxLen;omega) (by omega) (Nat.zero_le _) ?_)
     intro g4 c4 w4 hown cG PG hk4
     have hY4:=(UO.out.next (aB w3 _)).put (f:=2) (g:=g4) (cap:=c4) (fun _ _=>rfl) (by first|exact hown|simpa [Nat.add_assoc] using hown) cG (hk4.imp id (fun q=>by simpa using q.1))
     have tG:Row w4 bL 90 [x,y,.slice va3 (eG.length+(k+1)) vc3,is]:=(UO.out.next (aB w3 _)).row.of_block (cG.block _ (UO.out.next (aB w3 _)).row.lt (fun e=>UO.out.vne e.symm))
     have s2:w4.cell? ⟨bL,2,none⟩=some (.slice va3 (eG.length+(k+1)) vc3):=tG.cell_of rfl
     have f4:=tG.frozen 2
     have HY4:=aA (show NK V bL x y is (.slice va eG.length vc) (.slice la j lc) eG (k+1+1) (j+(k+1)) (.slice (some ⟨g3,0,none⟩) (j+k+1) c3) _ from ⟨_,_,hY4⟩)
     clear hown cG PG hk4 hY4 tG r2
     go_wp2
     go_roundw
     case rel=>exact ⟨k+1,by omega,by go_num,HY4.out⟩
     case measure=>simp [intOf];omega
    ·have xF:¬(k:Int)<3:=by omega
     have pZ:k=3:=by omega
     subst pZ
     go_wp2
     exact bodyPost_end (v:=.tuple #[]) (by simp [results,Tryz.results82,go_sem]) rfl ⟨rfl,_,_,_,HY.out⟩
end Go.Proofs.YtefjhnhdagolhaaGreat
namespace Go.Proofs.YtefjhnhdagolhaaGreat
open Go.RowKit
attribute [local go_sem ↓] Go.wp_at_zero Go.wp_at_succ
def NL (V:World) (bL:Nat) (x y ms v0 l0:Value) (eG:List (Value×Nat)) (i n:Nat) (l:Value) (W:World):Prop:=∃ v ss,mH V bL 102 3 1 (iC eG.length) eG.length (fun v=>[x,y,ms,v]) v0 l0 eG i n v l ss W
set_option maxRecDepth 20000 in
set_option maxHeartbeats 4000000 in
theorem GU (bL:Nat) (x y ms v0 l0:Value) (eG:List (Value×Nat)) (V:World) (hR:Row V bL 90 [x,y,ms,v0]) (hv:V.ownsRow 0 102 2 v0 eG.length (laid eG)) (hes:eG.length≤1000000000000) (n:Nat) (xs:List Value) (hO:V.ownsRow 0 3 1 l0 n xs) (hn:n≤1000000000000)
  (h1:l0.ownBlock≠some bL) (h2:v0.ownBlock≠some bL) (h3:∀ g,l0.ownBlock=some g→v0.ownBlock≠some g) :
  Calls Tryz.prog 83 #[.pointer (some ⟨bL,0,none⟩),l0] V fun e w'=>e = .returned (.tuple #[])∧∃ l,NL V bL x y ms v0 l0 eG 4 (n+3) l w':=by
 obtain ⟨ti,qX,qE⟩:=Option.map_eq_some_iff.1 OP
 simp only [Prod.mk.injEq] at qE
 obtain ⟨iP,iQ,iR⟩:=qE
 have uT:=aA qX
 have IU:=aA iP
 have sM:=aA iQ
 have qY:=aA iR
 obtain ⟨mi,xK,xL⟩:=Option.map_eq_some_iff.1 vS
 simp only [Prod.mk.injEq] at xL
 obtain ⟨kL,kM,kN⟩:=xL
 have KC:=aA xK
 have FA:=aA kL
 have FQ:=aA kM
 have FR:=aA kN
 obtain ⟨⟨va,vc,rfl⟩,-⟩:=bG hv
 have c2:V.cell? ⟨bL,3,none⟩=some (.slice va eG.length vc):=hR.cell_of rfl
 have FM:=hR.lt
 have sB:∃ a c,l0 = .slice a n c∧(0<n→∃ g,a=some ⟨g,0,none⟩):=by
  rcases hO.2 with ⟨rfl,rfl⟩|⟨g,cap,cur,rfl,-⟩
  ·exact ⟨none,0,rfl,fun h=>absurd h (by decide)⟩
  ·exact ⟨_,cap,rfl,fun _=>⟨g,rfl⟩⟩
 obtain ⟨la,lc,rfl,hla⟩:=sB
 have hxl:xs.length=n*1:=hO.1
 have DE:=aA hla
 have KF:=aA (And.intro hR hv)
 have PS:=aA (And.intro h1 (And.intro h2 h3))
 have HS:=aA (show Fr (fun k=>(Value.slice la n lc).ownBlock=some k) V V∧V.ownsRow 0 3 1 (.slice la n lc) n (filled (iC eG.length) (0*1) xs) from ⟨Fr.refl _ _,by rw [Nat.zero_mul,uZ];exact hO⟩)
 clear qX iP iQ iR hR xK kL kM kN hv hO hla h1 h2 h3
 go_enter Tryz.func83,Tryz.ntmps83
 go_wp2
 go_loopw [5] (fun i w'=>∃ j:Nat,j≤n∧i = .int .i64 (j:Int)∧Fr (fun k=>(Value.slice la n lc).ownBlock=some k) V w'∧w'.ownsRow 0 3 1 (.slice la n lc) n (filled (iC eG.length) (j*1) xs)) (fun i _=>n-(intOf i).toNat)
 case atStart=>exact ⟨0,Nat.zero_le _,rfl,HS.out⟩
 case round =>
  obtain ⟨j,hj,rfl,hF,hO⟩:=hrel
  by_cases hlt:j<n
  ·obtain ⟨g,rfl⟩:=DE.out (by omega)
   have hlt':(j:Int)<(n:Int):=by omega
   have hj0:(0:Int)≤(j:Int):=by omega
   have HX:=aA (And.intro hF hO)
   clear hF hO
   have zY:=HX.out.2
   obtain ⟨u0,k0⟩:∃ u,wr.cell? ⟨g,j,none⟩=some u:=by
    rw [zY.cellAt j (by omega),List.getElem?_eq_getElem (by rw [zY.1];omega)]
    exact ⟨_,rfl⟩
   have f0:=zY.frozenAt j
   clear zY
   go_wp2_with fail
   go_roundw
   case rel =>
    refine ⟨j+1,by omega,by go_num,HX.out.1.here rfl _ _,?_⟩
    have:=(HX.out.2.stored j (iC eG.length j)).1
    rw [Nat.mul_one,lN (by omega)] at this
    rw [Nat.mul_one]
    exact this
   case measure=>simp [intOf];omega
  ·have hlt':¬(j:Int)<(n:Int):=by omega
   have hjn:j=n:=by omega
   subst hjn
   rw [yN hxl] at hO
   have hrow:Row wr bL 90 [x,y,ms,.slice va eG.length vc]:=KF.out.1.of_block (hF.block bL FM PS.out.1)
   have hvl:=KF.out.2.lt
   have hL:mH V bL 102 3 1 (iC eG.length) eG.length (fun v=>[x,y,ms,v]) (.slice va eG.length vc) (.slice la j lc) eG 0 j (.slice va eG.length vc) (.slice la j lc) [] wr :=
    ⟨rfl,hrow,by simpa using bJ KF.out.2 (fun k e=>hF.block k (hvl k e).2 (fun q=>PS.out.2.2 k q e)),hO,fun s hs=>absurd hs List.not_mem_nil,fun g e=>.inl e,fun g e=>⟨.inl e,fun q=>PS.out.2.2 g e q⟩,⟨FM,PS.out.1,PS.out.2.1⟩,⟨hF.os,hF.tape,hF.output,hF.size,fun k hk ho=>hF.block k hk (fun c=>ho (.inr (.inr c)))⟩⟩
   have d2:wr.cell? ⟨bL,3,none⟩=some (.slice va eG.length vc):=hrow.cell_of rfl
   have HL:=aA hL
   clear hF hO hrow hL hvl
   go_wp2_with (at_builtin;refine bH _ rfl (.tmp 27) (.tmp 31) 88 rfl 0 102 ti (.agg #[.slice none 0 0,.int .i64 0]) 2 32 Tryz.underlying88 uT.out IU.out sM.out qY.out rfl (by decide) _ (eG.length+0) _ rfl (HL.out.next (aB _ _)).own ⟨wr.heap.size,0,none⟩ 1 1 [.slice la j lc,.int .i64 (eG.length:Int)] rfl rfl (World.news_of_block (Row.new _ _ _)) (by simp [Value.oneCell']) (by decide) (by unfold maxLen;omega) (by omega) (Nat.zero_le _) ?_)
   intro gm cm w1 hown cG JX hk
   have hL1:=(HL.out.next (aB wr _)).put (f:=3) (g:=gm) (cap:=cm) (fun _ _=>rfl) (by simpa using hown) cG (hk.imp id (fun q=>by simpa using q.1))
   have lC:Row w1 bL 90 [x,y,ms,.slice va eG.length vc]:=(HL.out.next (aB wr _)).row.of_block (cG.block _ (HL.out.next (aB wr _)).row.lt (fun e=>PS.out.2.1 e.symm))
   have d2':w1.cell? ⟨bL,3,none⟩=some (.slice va eG.length vc):=lC.cell_of rfl
   have f2:=lC.frozen 3
   have HL1:=aA (show NL V bL x y ms (.slice va eG.length vc) (.slice la j lc) eG 1 j (.slice la j lc) (w1.setCell ⟨bL,3,none⟩ (.slice (some ⟨gm,0,none⟩) (eG.length+1) cm)) from ⟨_,_,hL1⟩)
   clear hown cG JX hk hL1 lC d2 c2
   go_wp2
   go_loopw [1,6] (fun l i w'=>∃ k:Nat,k≤3∧i = .int .i64 (k:Int)∧NL V bL x y ms (.slice va eG.length vc) (.slice la j lc) eG (k+1) (j+k) l w') (fun _ i _=>3-(intOf i).toNat)
   case atStart=>exact ⟨0,by decide,rfl,HL1.out⟩
   case round =>
    obtain ⟨k,hk,rfl,v,ss,hY⟩:=hrel
    have HY:=aA hY
    clear hY
    by_cases JX:k<3
    ·have xF:(k:Int)<3:=by omega
     have HY2:=HY
     have zS:=HY.out.fr.size
     go_wp2_with (at_builtin;refine bH _ rfl (.tmp 39) (.tmp 42) 22 rfl 0 3 mi (.int .i64 0) 1 8 Tryz.underlying22 KC.out FA.out FQ.out FR.out rfl (by decide) _ (j+k) _ rfl (HY2.out.next (aB _ _)).lis ⟨wr.heap.size,0,none⟩ 1 1 [.int .i64 (-1-(eG.length:Int))] rfl rfl (World.news_of_block (Row.new _ _ _)) (by simp [Value.oneCell']) (by decide) (by unfold maxLen;omega) (by omega) (Nat.zero_le _) ?_)
     intro g3 c3 w3 hown cG oW pZ
     have XW:=(HY2.out.next (aB wr _)).more (g:=g3) (cap:=c3) (UN _ _) (by rw [Nat.mul_one];exact hown) cG (pZ.imp id (fun q=>⟨by simpa using q.1,by simpa using q.2⟩))
     obtain ⟨⟨va3,vc3,rfl⟩,-⟩:=bG XW.own
     have r2:w3.cell? ⟨bL,3,none⟩=some (.slice va3 (eG.length+(k+1)) vc3):=XW.row.cell_of rfl
     have UO:=aA XW
     clear hown cG oW pZ XW
     go_wp2_with (at_builtin;refine bH _ rfl (.tmp 48) (.tmp 52) 88 rfl 0 102 ti (.agg #[.slice none 0 0,.int .i64 0]) 2 32 Tryz.underlying88 uT.out IU.out sM.out qY.out rfl (by decide) _ (eG.length+(k+1)) _ rfl (UO.out.next (aB _ _)).own ⟨w3.heap.size,0,none⟩ 1 1 [.slice (some ⟨g3,0,none⟩) (j+k+1) c3,.int .i64 (eG.length:Int)] rfl rfl (World.news_of_block (Row.new _ _ _)) (by simp [Value.oneCell']) (by decide) (by unfold maxLen;omega) (by omega) (Nat.zero_le _) ?_)
     intro g4 c4 w4 hown cG PG hk4
     have hY4:=(UO.out.next (aB w3 _)).put (f:=3) (g:=g4) (cap:=c4) (fun _ _=>rfl) (by first|exact hown|simpa [Nat.add_assoc] using hown) cG (hk4.imp id (fun q=>by simpa using q.1))
     have tG:Row w4 bL 90 [x,y,ms,.slice va3 (eG.length+(k+1)) vc3]:=(UO.out.next (aB w3 _)).row.of_block (cG.block _ (UO.out.next (aB w3 _)).row.lt (fun e=>UO.out.vne e.symm))
     have s2:w4.cell? ⟨bL,3,none⟩=some (.slice va3 (eG.length+(k+1)) vc3):=tG.cell_of rfl
     have f4:=tG.frozen 3
     have HY4:=aA (show NL V bL x y ms (.slice va eG.length vc) (.slice la j lc) eG (k+1+1) (j+(k+1)) (.slice (some ⟨g3,0,none⟩) (j+k+1) c3) _ from ⟨_,_,hY4⟩)
     clear hown cG PG hk4 hY4 tG r2
     go_wp2
     go_roundw
     case rel=>exact ⟨k+1,by omega,by go_num,HY4.out⟩
     case measure=>simp [intOf];omega
    ·have xF:¬(k:Int)<3:=by omega
     have pZ:k=3:=by omega
     subst pZ
     go_wp2
     exact bodyPost_end (v:=.tuple #[]) (by simp [results,Tryz.results83,go_sem]) rfl ⟨rfl,_,_,_,HY.out⟩
end Go.Proofs.YtefjhnhdagolhaaGreat
