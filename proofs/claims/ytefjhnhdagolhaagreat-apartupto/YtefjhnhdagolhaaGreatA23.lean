import Derived.Test.YtefjhnhdagolhaaGreatA21
import Derived.Test.YtefjhnhdagolhaaGreatA22
set_option maxHeartbeats 4000000
set_option maxRecDepth 20000
namespace Go.Proofs.YtefjhnhdagolhaaGreat
open Tryz
open Go.RowKit
open M (aM aC aD aR bJ cnt marks tagged num YI)
abbrev YK (n:Nat) (x:Int):Prop:=0≤x∧x<n
def aCE (n cap:Nat):Int:=4+2*((cap:Int)+3+2*(((n:Int)+15) / 16+2*(n:Int)+1)+((n:Int)+15) / 16+3*(n:Int))+3
def beE (n:Nat) (Y:aR) (x:Int):Int:=if YK n x then (if (Y.th x.toNat).part=0 then 0 else 4) else 3
def su (n:Nat) (Y:aR) (x:Int) (o:M.Op):aR:=if YK n x then (if (Y.th x.toNat).part=0 then M.eE Y x.toNat o else Y) else Y
def stA (n cap:Nat) (Y:aR) (x:Int):Int:=if YK n x then (if (Y.th x.toNat).part=0 then 0 else QK (M.dZ n cap Y x.toNat).2) else 0
def stE (n:Nat) (Y:aR) (x:Int):Int:=if YK n x then (if (Y.th x.toNat).part=0 then 5 else 0) else 3
def yc (n cap:Nat) (Y:aR) (x:Int):aR:=if YK n x then (if (Y.th x.toNat).part=0 then Y else (M.dZ n cap Y x.toNat).1) else Y
section
variable {σ:Type}
def anT (P:M.Plain σ) (n:Nat) (Y:aR) (x:Int):Int×Int×Int:=if YK n x then (if (Y.th x.toNat).part≠0 then (0,0,4) else if (Y.th x.toNat).ended=0 then (0,0,5) else ((pS P Y x.toNat).s,(pS P Y x.toNat).v,0)) else (0,0,3)
def doT (P:M.Plain σ) (n cap:Nat) (Y:aR) (x:Int) (o:M.Op):Int×Int×Int:=if YK n x then (if (Y.th x.toNat).part≠0 then (0,0,4) else ((pS P (M.fin n cap x.toNat (M.eE Y x.toNat o)) x.toNat).s,(pS P (M.fin n cap x.toNat (M.eE Y x.toNat o)) x.toNat).v,0)) else (0,0,3)
def doZ (n cap:Nat) (Y:aR) (x:Int) (o:M.Op):aR:=if YK n x then doY n cap Y x.toNat o else Y
def za (a:Int×Int×Int):Value:=.tuple #[.agg #[.int .i64 a.1,.int .i64 a.2.1],.int .i64 a.2.2]
structure DJ (X:(Nat→Prop)→aR→World→Prop) (S:Nat→Prop) (w:World) (Y':aR) (w':World):Prop where
 x:X (Grow S w w') Y' w'
 fr:Fr S w w'
structure BZ (P:M.Plain σ) (tell:σ→List Int) (D:DL) (tE:TypeId) (bN:Nat) (X:(Nat→Prop)→aR→World→Prop) (sJ sN sI sL sM sO sK:Nat):Prop where
 mBe:∀ W,(method 553 tE (.pointer (some ⟨bN,0,none⟩)) "Begin").run prog W = .ok (sJ,.pointer (some ⟨bN,0,none⟩)) W
 mSt:∀ W,(method 553 tE (.pointer (some ⟨bN,0,none⟩)) "Step").run prog W = .ok (sN,.pointer (some ⟨bN,0,none⟩)) W
 mAn:∀ W,(method 553 tE (.pointer (some ⟨bN,0,none⟩)) "Answer").run prog W = .ok (sI,.pointer (some ⟨bN,0,none⟩)) W
 mDo:∀ W,(method 553 tE (.pointer (some ⟨bN,0,none⟩)) "Do").run prog W = .ok (sL,.pointer (some ⟨bN,0,none⟩)) W
 mOr:∀ W,(method 553 tE (.pointer (some ⟨bN,0,none⟩)) "Order").run prog W = .ok (sM,.pointer (some ⟨bN,0,none⟩)) W
 mTe:∀ W,(method 553 tE (.pointer (some ⟨bN,0,none⟩)) "State").run prog W = .ok (sO,.pointer (some ⟨bN,0,none⟩)) W
 mBo:∀ W,(method 553 tE (.pointer (some ⟨bN,0,none⟩)) "Bound").run prog W = .ok (sK,.pointer (some ⟨bN,0,none⟩)) W
 cBe:∀ (a b:Value) (W:World),(callFunc sJ #[.pointer (some ⟨bN,0,none⟩),a,b]).run prog W = .ok (.enter sJ #[.pointer (some ⟨bN,0,none⟩),a,b]) W
 cSt:∀ (a:Value) (W:World),(callFunc sN #[.pointer (some ⟨bN,0,none⟩),a]).run prog W = .ok (.enter sN #[.pointer (some ⟨bN,0,none⟩),a]) W
 cAn:∀ (a:Value) (W:World),(callFunc sI #[.pointer (some ⟨bN,0,none⟩),a]).run prog W = .ok (.enter sI #[.pointer (some ⟨bN,0,none⟩),a]) W
 cDo:∀ (a b:Value) (W:World),(callFunc sL #[.pointer (some ⟨bN,0,none⟩),a,b]).run prog W = .ok (.enter sL #[.pointer (some ⟨bN,0,none⟩),a,b]) W
 cOr:∀ W,(callFunc sM #[.pointer (some ⟨bN,0,none⟩)]).run prog W = .ok (.enter sM #[.pointer (some ⟨bN,0,none⟩)]) W
 cTe:∀ W,(callFunc sO #[.pointer (some ⟨bN,0,none⟩)]).run prog W = .ok (.enter sO #[.pointer (some ⟨bN,0,none⟩)]) W
 cBo:∀ W,(callFunc sK #[.pointer (some ⟨bN,0,none⟩)]).run prog W = .ok (.enter sK #[.pointer (some ⟨bN,0,none⟩)]) W
 lt:∀ S Y w,X S Y w→∀ k,S k→k<w.heap.size
 stay:∀ S S' Y w w',X S Y w→(∀ k,S k→w'.heap[k]?=w.heap[k]?)→(∀ k,S k→S' k)→(∀ k,S' k→k<w'.heap.size)→X S' Y w'
 be:∀ S Y w x (o:M.Op),X S Y w→Calls prog sJ #[.pointer (some ⟨bN,0,none⟩),.int .i64 x,.agg #[.int .i64 o.c,.int .i64 o.a,.int .i64 o.b]] w fun e w'=>e = .returned (.int .i64 (beE D.n Y x))∧DJ X S w (su D.n Y x o) w'
 st:∀ S Y w x,X S Y w→jM D 1000000000 Y→Calls prog sN #[.pointer (some ⟨bN,0,none⟩),.int .i64 x] w fun e w'=>e = .returned (.tuple #[.int .i64 (stA D.n D.cap Y x),.int .i64 (stE D.n Y x)])∧DJ X S w (yc D.n D.cap Y x) w'
 an:∀ S Y w x,X S Y w→Calls prog sI #[.pointer (some ⟨bN,0,none⟩),.int .i64 x] w fun e w'=>e = .returned (za (anT P D.n Y x))∧Below w.heap.size w w'
 dd:∀ S Y w x (o:M.Op) K,X S Y w→jM D K Y→K+6000≤1000000000→Calls prog sL #[.pointer (some ⟨bN,0,none⟩),.int .i64 x,.agg #[.int .i64 o.c,.int .i64 o.a,.int .i64 o.b]] w fun e w'=>e = .returned (za (doT P D.n D.cap Y x o))∧DJ X S w (doZ D.n D.cap Y x o) w'
 or:∀ S Y w,X S Y w→jM D 1000000000 Y→Calls prog sM #[.pointer (some ⟨bN,0,none⟩)] w fun e w'=>∃ v,e = .returned v∧w'.ownsRow w.heap.size 81 3 v Y.order.length (eB Y.order)∧Below w.heap.size w w'
 te:∀ S Y w,X S Y w→jM D 1000000000 Y→Calls prog sO #[.pointer (some ⟨bN,0,none⟩)] w fun e w'=>∃ v,e = .returned v∧w'.ownsRow w.heap.size 3 1 v (tell (gU P Y Y.order.length).st).length (ints (tell (gU P Y Y.order.length).st))∧Below w.heap.size w w'
 bo:∀ S Y w,X S Y w→Calls prog sK #[.pointer (some ⟨bN,0,none⟩)] w fun e w'=>e = .returned (.int .i64 (aCE D.n D.cap))∧Below w.heap.size w w'
end
attribute [local go_sem ↓] Go.wp_at_zero Go.wp_at_succ
abbrev oR:Nat→World→Prop:=fun _ _=>True
section
variable {σ:Type} {L:DL} {P:M.Plain σ} {tell:σ→List Int} {sz:σ→Nat} {HM:World→Value→σ→Prop} {S:Nat→Prop} {Y:aR} {w:World} {K:Nat}
theorem zO {n:Nat} {x:Int} (h:YK n x):∃ t:Nat,x=t∧t<n∧x.toNat=t:=⟨x.toNat,by have:=h.1;omega,by have:=h.1;have:=h.2;omega,rfl⟩
theorem aCl (ds:DS P tell sz HM oR L) (h:DW P oR L S Y w) (hK:jM L 1000000000 Y) (x:Int) (o:M.Op) :
  Calls prog 43 #[.pointer (some ⟨L.b,0,none⟩),.int .i64 x,.agg #[.int .i64 o.c,.int .i64 o.a,.int .i64 o.b]] w fun e w'=>e = .returned (.int .i64 (beE L.n Y x))∧xN P oR L S w (su L.n Y x o) w':=by
 unfold beE su
 by_cases hx:YK L.n x
 ·rw [aJ hx,aJ hx]
  obtain ⟨t,rfl,ht,e⟩:=zO hx;rw [e]
  by_cases hp:(Y.th t).part=0
  ·rw [aJ hp,aJ hp];exact (LX ds h hK o).2.2 t ht hp
  ·rw [aN hp,aN hp];exact (LX ds h hK o).2.1 t ht hp
 ·rw [aN hx,aN hx];exact (LX ds h hK o).1 x hx
theorem aEh (ds:DS P tell sz HM oR L) (h:DW P oR L S Y w) (hK:jM L 1000000000 Y) (x:Int) :
  Calls prog 53 #[.pointer (some ⟨L.b,0,none⟩),.int .i64 x] w fun e w'=>e = .returned (.tuple #[.int .i64 (stA L.n L.cap Y x),.int .i64 (stE L.n Y x)])∧xN P oR L S w (yc L.n L.cap Y x) w':=by
 unfold stA stE yc
 by_cases hx:YK L.n x
 ·rw [aJ hx,aJ hx,aJ hx]
  obtain ⟨t,rfl,ht,e⟩:=zO hx;rw [e]
  by_cases hp:(Y.th t).part=0
  ·rw [aJ hp,aJ hp,aJ hp];exact (TI ds h hK).2.1 t ht hp
  ·rw [aN hp,aN hp,aN hp];exact (TI ds h hK).2.2 t ht hp
 ·rw [aN hx,aN hx,aN hx];exact (TI ds h hK).1 x hx
theorem XE (P:M.Plain σ) (Y:aR) (t:Nat):sg P Y t=za (if (Y.th t).part≠0 then (0,0,4) else if (Y.th t).ended=0 then (0,0,5) else ((pS P Y t).s,(pS P Y t).v,0)):=by
 unfold sg za
 split
 ·rfl
 ·split<;>rfl
theorem ze (ds:DS P tell sz HM oR L) (h:DW P oR L S Y w) (hK:jM L 1000000000 Y) (x:Int) :
  Calls prog 54 #[.pointer (some ⟨L.b,0,none⟩),.int .i64 x] w fun e w'=>e = .returned (za (anT P L.n Y x))∧Below w.heap.size w w':=by
 unfold anT
 by_cases hx:YK L.n x
 ·rw [aJ hx]
  obtain ⟨t,rfl,ht,e⟩:=zO hx;rw [e,←XE];exact (MZ ds h hK).2 t ht
 ·rw [aN hx];exact (MZ ds h hK).1 x hx
theorem ni (P:M.Plain σ) (n cap:Nat) (Y:aR) (t:Nat) (o:M.Op):doW P n cap Y t o=za (if (Y.th t).part≠0 then (0,0,4) else ((pS P (M.fin n cap t (M.eE Y t o)) t).s,(pS P (M.fin n cap t (M.eE Y t o)) t).v,0)):=by
 unfold doW za
 split<;>rfl
theorem aJH (ds:DS P tell sz HM oR L) (h:DW P oR L S Y w) (hK:jM L K Y) (KN:K+6000≤1000000000) (x:Int) (o:M.Op) :
  Calls prog 47 #[.pointer (some ⟨L.b,0,none⟩),.int .i64 x,.agg #[.int .i64 o.c,.int .i64 o.a,.int .i64 o.b]] w fun e w'=>e = .returned (za (doT P L.n L.cap Y x o))∧xN P oR L S w (doZ L.n L.cap Y x o) w':=by
 unfold doT doZ
 by_cases hx:YK L.n x
 ·rw [aJ hx,aJ hx]
  obtain ⟨t,rfl,ht,e⟩:=zO hx;rw [e,←ni];exact (aGe ds h hK KN o).2 t ht
 ·rw [aN hx,aN hx];exact (aGe ds h hK KN o).1 x hx
theorem aCm (h:DW P oR L S Y w) :
  Calls prog 84 #[.pointer (some ⟨L.b,0,none⟩)] w fun e w'=>e = .returned (.int .i64 (aCE L.n L.cap))∧Below w.heap.size w w':=by
 obtain ⟨xV,LN,YB⟩:=h.n;obtain ⟨bZ,vo,vp,vb,bv,q⟩:=h.doc;have c1:w.cell? ⟨L.b,1,none⟩=some (.int .i64 (L.n:Int)):=q.dV rfl;have c2:w.cell? ⟨L.b,2,none⟩=some (.int .i64 (L.cap:Int)):=q.dV rfl;have HC:=aA c1;have HT:=aA (show (M.tw L.n:Int)=((L.n:Int)+15) / 16 by unfold M.tw;omega);have htw:M.tw L.n≤4:=by unfold M.tw;omega
 have HP:=aA (XR w c1 LN);have HW:=aA (FT w c1 LN);have RU:(M.bC L.n+1:Nat)=M.tw L.n+2*L.n+1:=rfl;rw [RU] at HP;clear h q RU;unfold aCE;rw [←HT.out];generalize M.tw L.n=a at *;go_enter func84,ntmps84;go_wp2_with fail;refine HW.out.mono ?_;rintro e w1 ⟨rfl,rfl⟩;go_wp2_with fail;refine HP.out.mono ?_;rintro e w1 ⟨rfl,k,rfl⟩;go_wp2_with fail;go_quiet (fail);go_wp2;go_ret;exact ⟨wU (by push_cast;rfl),aX (aX (aT _ _) _) _⟩
end
end Go.Proofs.YtefjhnhdagolhaaGreat
namespace Go.Proofs.YtefjhnhdagolhaaGreat
open Tryz
open Go.RowKit
def laid (es:List (Value×Nat)):List Value:=es.flatMap fun e=>[e.1,.int .i64 (e.2:Int)]
theorem YO (a b:List (Value×Nat)):laid (a++b)=laid a++laid b:=by simp [laid]
def full (mk:Nat→Value) (m:Nat):List Value:=(List.range m).map mk
theorem XU (mk:Nat→Value) {m p:Nat} (h:p<m):(full mk m)[p]?=some (mk p):=by simp [full,zY h]
theorem Reads.block {mk:Nat→Value} {sz i:Nat} {s:Value} {W W':World} (h:Reads mk sz i s W) (hz:W.heap.size≤W'.heap.size) (hb:∀ g,s.ownBlock=some g→W'.heap[g]?=W.heap[g]?):Reads mk sz i s W':=by
 rcases h with h|⟨g,j,c,rfl,h1,h2,h3,h4⟩
 ·exact .inl h
 ·exact .inr ⟨g,j,c,rfl,h1,h2,by omega,fun p hp=>cV (h4 p hp) (hb g rfl)⟩
theorem Reads.le {mk:Nat→Value} {sz i j:Nat} {s:Value} {W:World} (h:Reads mk sz i s W) (hi:i≤j):Reads mk sz j s W:=by
 rcases h with h|⟨g,j',c,rfl,h1,h2⟩
 ·exact .inl h
 ·exact .inr ⟨g,j',c,rfl,by omega,h2⟩
theorem je {mk:Nat→Value} {sz n:Nat} {l:Value} {W:World} {tL:TypeId} {base:Nat} (h:W.ownsRow base tL sz l n (full mk (n*sz))):Reads mk sz n l W:=by
 rcases h.2 with ⟨rfl,-⟩|⟨g,cap,cur,rfl,-,-,h5,-⟩
 ·exact .inl rfl
 ·refine .inr ⟨g,n,cap,rfl,bQ _,h5,(h.lt g rfl).2,fun p hp=>?_⟩
  have:=h.cells (g:=g) rfl p _ (XU mk hp)
  rwa [gS,nJ] at this
structure xQ (V:World) (bL:Nat) (tO tL:TypeId) (sz:Nat) (mk:Nat→Value) (kk:Nat) (cs:Value→List Value) (v0 l0:Value) (gA:List (Value×Nat)) (i n:Nat) (v l:Value) (ss:List Value) (W:World):Prop where
 len:ss.length=i
 row:Row W bL 90 (cs v)
 own:W.ownsRow 0 tO 2 v (gA.length+i) (laid (gA++ss.map fun s=>(s,kk)))
 lis:W.ownsRow 0 tL sz l n (full mk (n*sz))
 LR:∀ s∈ss,Reads mk sz n s W∧∀ g,s.ownBlock=some g→(l0.ownBlock=some g∨V.heap.size≤g)∧v.ownBlock≠some g
 vb:∀ g,v.ownBlock=some g→v0.ownBlock=some g∨V.heap.size≤g
 lb:∀ g,l.ownBlock=some g→(l0.ownBlock=some g∨V.heap.size≤g)∧v.ownBlock≠some g
 bl:bL<V.heap.size∧l0.ownBlock≠some bL∧v0.ownBlock≠some bL
 fr:Fr (fun k=>k=bL∨v0.ownBlock=some k∨l0.ownBlock=some k) V W
section
variable {V:World} {bL:Nat} {tO tL:TypeId} {sz:Nat} {mk:Nat→Value} {kk:Nat} {cs:Value→List Value} {v0 l0:Value} {gA:List (Value×Nat)} {i n:Nat} {v l:Value} {ss:List Value} {W W':World}
theorem xQ.vne (h:xQ V bL tO tL sz mk kk cs v0 l0 gA i n v l ss W):v.ownBlock≠some bL:=fun e=>by
 rcases h.vb bL e with q|q
 ·exact h.bl.2.2 q
 ·have:=h.bl.1;omega
theorem xQ.lne (h:xQ V bL tO tL sz mk kk cs v0 l0 gA i n v l ss W):l.ownBlock≠some bL:=fun e=>by
 rcases (h.lb bL e).1 with q|q
 ·exact h.bl.2.1 q
 ·have:=h.bl.1;omega
theorem xQ.next (h:xQ V bL tO tL sz mk kk cs v0 l0 gA i n v l ss W) (hb:Below W.heap.size W W'):xQ V bL tO tL sz mk kk cs v0 l0 gA i n v l ss W' where
 len:=h.len
 row:=h.row.old hb
 own:=eJ h.own hb
 lis:=eJ h.lis hb
 LR s hs:=⟨(h.LR s hs).1.grown (KM hb) (by simp),(h.LR s hs).2⟩
 vb:=h.vb
 lb:=h.lb
 bl:=h.bl
 fr:=h.fr.trans (Fr.cA hb)
theorem xQ.more (h:xQ V bL tO tL sz mk kk cs v0 l0 gA i n v l ss W) {g cap:Nat} {nw:List Value} (hnw:full mk (n*sz)++nw=full mk ((n+1)*sz)) (hown:W'.ownsRow 0 tL sz (.slice (some ⟨g,0,none⟩) (n+1) cap) (n+1) (full mk (n*sz)++nw)) (dP:W.grownBy W' l.ownBlock)
  (hk:l.ownBlock=some g∨(g=W.heap.size∧∀ q,q<W.heap.size→W'.heap[q]?=W.heap[q]?)):xQ V bL tO tL sz mk kk cs v0 l0 gA i (n+1) v (.slice (some ⟨g,0,none⟩) (n+1) cap) ss W':=by
 rw [hnw] at hown;have hz:=h.fr.size;have hvl:=h.own.lt;have hnb:∀ k,k≠bL∨True→some k≠l.ownBlock→k<W.heap.size→W'.heap[k]?=W.heap[k]?:=fun k _ hne hk=>dP.block k hk hne
 refine ⟨h.len,h.row.of_block (dP.block _ h.row.lt (fun e=>h.lne e.symm)),aZ h.own fun k e=>dP.block k (hvl k e).2 (fun q=>(h.lb k q.symm).2 e),hown,fun s hs=>⟨?_,(h.LR s hs).2⟩,h.vb,fun k e=>?_,h.bl,?_⟩
 ·exact (h.LR s hs).1.append dP hown (fun p hp=>XU mk hp) (hk.imp id And.right)
 ·have e:g=k:=by simpa [Value.ownBlock] using e
  subst e
  rcases hk with q|⟨rfl,-⟩
  ·exact h.lb g q
  ·exact ⟨.inr hz,fun c=>by have:=(hvl _ c).2;omega⟩
 ·refine ⟨dP.os.trans h.fr.os,dP.tape.trans h.fr.tape,dP.output.trans h.fr.output,bK hz dP.size,fun k hk ho=>?_⟩
  rw [dP.block k (by omega) (fun e=>by
   rcases (h.lb k e.symm).1 with q|q
   ·exact ho (.inr (.inr q))
   ·omega)]
  exact h.fr.block k hk ho
theorem xQ.put (h:xQ V bL tO tL sz mk kk cs v0 l0 gA i n v l ss W) {f:Nat} (hcs:∀ v v',(cs v).set f v'=cs v') {g cap:Nat} (hown:W'.ownsRow 0 tO 2 (.slice (some ⟨g,0,none⟩) (gA.length+i+1) cap) (gA.length+i+1) (laid (gA++ss.map fun s=>(s,kk))++[l,.int .i64 (kk:Int)])) (dP:W.grownBy W' v.ownBlock)
  (hk:v.ownBlock=some g∨g=W.heap.size):xQ V bL tO tL sz mk kk cs v0 l0 gA (i+1) n (.slice (some ⟨g,0,none⟩) (gA.length+i+1) cap) l (ss++[l]) (W'.setCell ⟨bL,f,none⟩ (.slice (some ⟨g,0,none⟩) (gA.length+i+1) cap)):=by
 have hz:=h.fr.size;have hvl:=h.own.lt;have yq:=h.lis.lt;have WQ:=h.row.lt;have uL:g<W'.heap.size:=(hown.lt g rfl).2;have DU:g≠bL:=by
  rcases hk with q|q
  ·exact fun e=>h.vne (e▸q)
  ·omega
 have old:∀ k,k<W.heap.size→k≠bL→v.ownBlock≠some k→(W'.setCell ⟨bL,f,none⟩ (.slice (some ⟨g,0,none⟩) (gA.length+i+1) cap)).heap[k]?=W.heap[k]?:=fun k hk h1 h2=>by
  rw [cZ _ _ _ k h1];exact dP.block k hk (fun e=>h2 e.symm)
 have hlv:∀ k,l.ownBlock=some k→k≠g:=fun k e q=>by
  subst q
  rcases hk with q|q
  ·exact (h.lb k e).2 q
  ·have:=(yq k e).2;omega
 have hrd:∀ s∈ss,∀ k,s.ownBlock=some k→k<W.heap.size:=fun s hs k e=>by
  rcases (h.LR s hs).1 with q|⟨g',j,c,q,-,-,q3,-⟩
  ·subst q;simp [Value.ownBlock] at e
  ·subst q
   have:g'=k:=by simpa [Value.ownBlock] using e
   omega
 refine ⟨by simp [h.len],?_,?_,?_,?_,?_,?_,h.bl,?_⟩
 ·have:=(h.row.of_block (dP.block _ WQ (fun e=>h.vne e.symm))).set f (.slice (some ⟨g,0,none⟩) (gA.length+i+1) cap)
  rw [hcs] at this;exact this
 ·have e:laid (gA++(ss++[l]).map fun s=>(s,kk))=laid (gA++ss.map fun s=>(s,kk))++[l,.int .i64 (kk:Int)]:=by
   rw [List.map_append,←BL,YO];simp [laid]
  rw [e];exact aZ hown fun k e=>by
   have e:g=k:=by simpa [Value.ownBlock] using e
   subst e;exact cZ _ _ _ g DU
 ·exact aZ h.lis fun k e=>old k (yq k e).2 (fun q=>h.lne (q▸e)) (fun q=>(h.lb k e).2 q)
 ·intro s hs
  rcases tB.1 hs with hs|hs
  ·refine ⟨(h.LR s hs).1.block (by simp [World.setCell];exact dP.size) (fun k e=>old k (hrd s hs k e) ?_ (fun q=>((h.LR s hs).2 k e).2 q)),fun k e=>⟨((h.LR s hs).2 k e).1,?_⟩⟩
   ·intro q
    subst q
    rcases ((h.LR s hs).2 k e).1 with c|c
    ·exact h.bl.2.1 c
    ·have:=h.bl.1;omega
   ·intro c
    have c:g=k:=by simpa [Value.ownBlock] using c
    subst c
    rcases hk with q|q
    ·exact ((h.LR s hs).2 g e).2 q
    ·have:=hrd s hs g e;omega
  ·rw [oP.1 hs]
   refine ⟨(je h.lis).block (by simp [World.setCell];exact dP.size) (fun k e=>old k (yq k e).2 (fun q=>h.lne (q▸e)) (fun q=>(h.lb k e).2 q)),fun k e=>⟨(h.lb k e).1,fun c=>?_⟩⟩;have c:g=k:=by simpa [Value.ownBlock] using c
   exact hlv k e c.symm
 ·intro k e
  have e:g=k:=by simpa [Value.ownBlock] using e
  subst e
  rcases hk with q|q
  ·exact h.vb g q
  ·exact .inr (by omega)
 ·intro k e
  refine ⟨(h.lb k e).1,fun c=>?_⟩;have c:g=k:=by simpa [Value.ownBlock] using c
  exact hlv k e c.symm
 ·refine ⟨dP.os.trans h.fr.os,dP.tape.trans h.fr.tape,dP.output.trans h.fr.output,by simp [World.setCell];exact bK hz dP.size,fun k hk ho=>?_⟩
  rw [old k (by omega) (fun e=>ho (.inl e)) (fun e=>by
   rcases h.vb k e with q|q
   ·exact ho (.inr (.inl q))
   ·omega)]
  exact h.fr.block k hk ho
end
attribute [local go_sem ↓] Go.wp_at_zero Go.wp_at_succ
theorem uu (k n:Nat):full (eC k) (n*3)++[.int .i64 (-1-(k:Int)),.int .i64 (-1),.int .i64 (-1)]=full (eC k) ((n+1)*3):=by
 unfold full;rw [show (n+1)*3=n*3+1+1+1 by omega,pR,pR,pR];simp only [List.map_append,List.map_cons,List.map_nil,BL,List.cons_append,List.nil_append,eC];congr 1;rw [aJ (by omega),aN (by omega),aN (by omega)]
theorem aAA (k n:Nat):full (nN k) (n*1)++[.int .i64 (-1-(k:Int))]=full (nN k) ((n+1)*1):=by
 unfold full;rw [ED,ED,pR];simp [nN]
def filled (mk:Nat→Value) (j:Nat) (xs:List Value):List Value:=full mk j++xs.drop j
theorem wK {mk:Nat→Value} {j:Nat} {xs:List Value} (h:j<xs.length):(filled mk j xs).set j (mk j)=filled mk (j+1) xs:=by
 unfold filled full;rw [EB _ _ (by simp),LD,aBU,Nat.sub_self,List.drop_eq_getElem_cons h,List.set_cons_zero,pR,List.map_append];simp
theorem KI (mk:Nat→Value) (xs:List Value):filled mk 0 xs=xs:=by simp [filled,full]
theorem NZ {mk:Nat→Value} {xs:List Value} {j:Nat} (h:xs.length=j):filled mk j xs=full mk j:=by
 unfold filled;rw [List.drop_eq_nil_of_le (by omega),List.append_nil]
def ku (V:World) (bL:Nat) (x y is v0 l0:Value) (gA:List (Value×Nat)) (i n:Nat) (l:Value) (W:World):Prop:=∃ v ss,xQ V bL 99 81 3 (eC gA.length) gA.length (fun v=>[x,y,v,is]) v0 l0 gA i n v l ss W
theorem UO (bL:Nat) (x y is v0 l0:Value) (gA:List (Value×Nat)) (V:World) (hR:Row V bL 90 [x,y,v0,is]) (hv:V.ownsRow 0 99 2 v0 gA.length (laid gA)) (hes:gA.length≤1000000000000) (n:Nat) (xs:List Value) (hO:V.ownsRow 0 81 3 l0 n xs) (hn:n≤1000000000000)
  (h1:l0.ownBlock≠some bL) (h2:v0.ownBlock≠some bL) (h3:∀ g,l0.ownBlock=some g→v0.ownBlock≠some g) :
  Calls prog 82 #[.pointer (some ⟨bL,0,none⟩),l0] V fun e w'=>e = .returned (.tuple #[])∧∃ l,ku V bL x y is v0 l0 gA 4 (n+3) l w':=by
 obtain ⟨ti,vM,uM⟩:=eZ.1 wk;simp only [fW] at uM;obtain ⟨jR,jS,jT⟩:=uM;have DH:=aA vM;have JG:=aA jR;have AH:=aA jS;have vN:=aA jT;obtain ⟨mi,YE,YF⟩:=eZ.1 wj;simp only [fW] at YF;obtain ⟨AX,AY,AZ⟩:=YF;have zv:=aA YE;have kq:=aA AX;have zq:=aA AY;have zu:=aA AZ;obtain ⟨⟨va,vc,rfl⟩,-⟩:=bM hv;have c2:V.cell? ⟨bL,2,none⟩=some (.slice va gA.length vc):=hR.cell_of rfl;have WQ:=hR.lt;have DV:∃ a c,l0 = .slice a n c∧(0<n→∃ g,a=some ⟨g,0,none⟩):=by
  rcases hO.2 with ⟨rfl,rfl⟩|⟨g,cap,cur,rfl,-⟩
  ·exact ⟨none,0,rfl,fun h=>absurd h (by decide)⟩
  ·exact ⟨_,cap,rfl,fun _=>⟨g,rfl⟩⟩
 obtain ⟨la,lc,rfl,hla⟩:=DV;have hxl:xs.length=n*3:=hO.1;have zo:=aA hla;have zx:=aA (aP hR hv);have qo:=aA (aP h1 (aP h2 h3));have HS:=aA (show Fr (fun k=>(Value.slice la n lc).ownBlock=some k) V V∧V.ownsRow 0 81 3 (.slice la n lc) n (filled (eC gA.length) (0*3) xs) from ⟨Fr.refl _ _,by rw [Nat.zero_mul,KI];exact hO⟩);clear vM jR jS jT hR YE AX AY AZ hv hO hla h1 h2 h3;go_enter func82,ntmps82;go_wp2
 go_loopw [5] (fun i w'=>∃ j:Nat,j≤n∧i = .int .i64 (j:Int)∧Fr (fun k=>(Value.slice la n lc).ownBlock=some k) V w'∧w'.ownsRow 0 81 3 (.slice la n lc) n (filled (eC gA.length) (j*3) xs)) (fun i _=>n-(intOf i).toNat)
 case atStart=>exact ⟨0,aW _,rfl,HS.out⟩
 case round =>
  obtain ⟨j,hj,rfl,hF,hO⟩:=hrel
  by_cases hlt:j<n
  ·obtain ⟨g,rfl⟩:=zo.out (by omega)
   have hlt':(j:Int)<(n:Int):=by omega
   have hj0:(0:Int)≤(j:Int):=by omega
   have HX:=aA (aP hF hO);clear hF hO;go_wp2_with fail;refine (ER (gA.length:Int) _ (by omega) (by omega)).mono ?_;rintro e w2 ⟨rfl,bI⟩;have QL:=eJ HX.out.2 bI;have hcell:∀ p,p<n*3→∃ u,w2.cell? ⟨g,p,none⟩=some u:=fun p hp=>by
    rw [QL.cellAt p hp,eT (by rw [QL.1];exact hp)];exact ⟨_,rfl⟩
   obtain ⟨u0,k0⟩:=hcell (j*3) (by omega);obtain ⟨u1,k1⟩:=hcell (j*3+1) (by omega);obtain ⟨u2,k2⟩:=hcell (j*3+2) (by omega);have f0:=QL.frozenAt (j*3);have f1:=QL.frozenAt (j*3+1);have f2:=QL.frozenAt (j*3+2);have TE:=aA QL;have HF2:=aA (HX.out.1.trans (Fr.cA bI));clear bI QL hcell;go_wp2_with fail;go_roundw
   case rel =>
    refine ⟨j+1,by omega,by go_num,((HF2.out.here rfl _ _).here rfl _ _).here rfl _ _,?_⟩;have:=(((TE.out.stored (j*3) (eC gA.length (j*3))).1.stored (j*3+1) (eC gA.length (j*3+1))).1.stored (j*3+2) (eC gA.length (j*3+2))).1;rw [wK (by omega),wK (by omega),wK (by omega)] at this;rw [show (j+1)*3=j*3+1+1+1 by omega];have e0:eC gA.length (j*3) = .int .i64 (-1-(gA.length:Int)):=by unfold eC;rw [aJ (by omega)]
    have e1:eC gA.length (j*3+1) = .int .i64 (-1):=by unfold eC;rw [aN (by omega)]
    have e2:eC gA.length (j*3+2) = .int .i64 (-1):=by unfold eC;rw [aN (by omega)]
    rw [e0,e1,e2] at this;exact this
   case measure=>simp [intOf];omega
  ·have hlt':¬(j:Int)<(n:Int):=by omega
   have hjn:j=n:=by omega
   subst hjn;rw [NZ hxl] at hO;have hrow:Row wr bL 90 [x,y,.slice va gA.length vc,is]:=zx.out.1.of_block (hF.block bL WQ qo.out.1);have hvl:=zx.out.2.lt;have hL:xQ V bL 99 81 3 (eC gA.length) gA.length (fun v=>[x,y,v,is]) (.slice va gA.length vc) (.slice la j lc) gA 0 j (.slice va gA.length vc) (.slice la j lc) [] wr :=
    ⟨rfl,hrow,by simpa using aZ zx.out.2 (fun k e=>hF.block k (hvl k e).2 (fun q=>qo.out.2.2 k q e)),hO,fun s hs=>absurd hs List.not_mem_nil,fun g e=>.inl e,fun g e=>⟨.inl e,fun q=>qo.out.2.2 g e q⟩,⟨WQ,qo.out.1,qo.out.2.1⟩,⟨hF.os,hF.tape,hF.output,hF.size,fun k hk ho=>hF.block k hk (fun c=>ho (.inr (.inr c)))⟩⟩
   have d2:wr.cell? ⟨bL,2,none⟩=some (.slice va gA.length vc):=hrow.cell_of rfl;have HL:=aA hL;clear hF hO hrow hL hvl;go_wp2_with (at_builtin;refine cY _ rfl (.tmp 27) (.tmp 31) 87 rfl 0 99 ti (.agg #[.slice none 0 0,.int .i64 0]) 2 32 underlying87 DH.out JG.out AH.out vN.out rfl (by decide) _ (gA.length+0) _ rfl (HL.out.next (aB _ _)).own ⟨wr.heap.size,0,none⟩ 1 1 [.slice la j lc,.int .i64 (gA.length:Int)] rfl rfl (jH (dH _ _ _)) (by simp [Value.oneCell']) (by decide) (by unfold maxLen;omega) (by omega) (aW _) ?_);intro gm cm w1 hown dP gx hk;have hL1:=(HL.out.next (aB wr _)).put (f:=2) (g:=gm) (cap:=cm) (fun _ _=>rfl) (by simpa using hown) dP (hk.imp id (fun q=>by simpa using q.1));have yG:Row w1 bL 90 [x,y,.slice va gA.length vc,is]:=(HL.out.next (aB wr _)).row.of_block (dP.block _ (HL.out.next (aB wr _)).row.lt (fun e=>qo.out.2.1 e.symm));have d2':w1.cell? ⟨bL,2,none⟩=some (.slice va gA.length vc):=yG.cell_of rfl;have f2:=yG.frozen 2;have HL1:=aA (show ku V bL x y is (.slice va gA.length vc) (.slice la j lc) gA 1 j (.slice la j lc) (w1.setCell ⟨bL,2,none⟩ (.slice (some ⟨gm,0,none⟩) (gA.length+1) cm)) from ⟨_,_,hL1⟩);clear hown dP gx hk hL1 yG d2 c2;go_wp2
   go_loopw [1,6] (fun l i w'=>∃ k:Nat,k≤3∧i = .int .i64 (k:Int)∧ku V bL x y is (.slice va gA.length vc) (.slice la j lc) gA (k+1) (j+k) l w') (fun _ i _=>3-(intOf i).toNat)
   case atStart=>exact ⟨0,by decide,rfl,HL1.out⟩
   case round =>
    obtain ⟨k,hk,rfl,v,ss,hY⟩:=hrel;have HY:=aA hY;clear hY
    by_cases gx:k<3
    ·have OG:(k:Int)<3:=by omega
     go_wp2_with fail;refine (ER (gA.length:Int) _ (by omega) (by omega)).mono ?_;rintro e w2 ⟨rfl,bI⟩;have HY2:=aA (HY.out.next bI);clear bI;go_wp2_with (at_builtin;refine cY _ rfl (.tmp 39) (.tmp 42) 43 rfl 0 81 mi (.agg #[.int .i64 0,.int .i64 0,.int .i64 0]) 3 24 underlying43 zv.out kq.out zq.out zu.out rfl (by decide) _ (j+k) _ rfl (HY2.out.next (aB _ _)).lis ⟨w2.heap.size,0,none⟩ 1 1 [.int .i64 (-1-(gA.length:Int)),.int .i64 (-1),.int .i64 (-1)] rfl rfl (jH (dH _ _ _)) (by simp [Value.oneCell']) (by decide) (by unfold maxLen;omega) (by omega) (aW _) ?_);intro g3 c3 w3 hown dP DX DK;have hY3:=(HY2.out.next (aB w2 _)).more (uu _ _) hown dP (DK.imp id (fun q=>⟨by simpa using q.1,by simpa using q.2⟩));obtain ⟨⟨va3,vc3,rfl⟩,-⟩:=bM hY3.own;have r2:w3.cell? ⟨bL,2,none⟩=some (.slice va3 (gA.length+(k+1)) vc3):=hY3.row.cell_of rfl;have HY3:=aA hY3;clear hown dP DX DK hY3;go_wp2_with (at_builtin;refine cY _ rfl (.tmp 48) (.tmp 52) 87 rfl 0 99 ti (.agg #[.slice none 0 0,.int .i64 0]) 2 32 underlying87 DH.out JG.out AH.out vN.out rfl (by decide) _ (gA.length+(k+1)) _ rfl (HY3.out.next (aB _ _)).own ⟨w3.heap.size,0,none⟩ 1 1 [.slice (some ⟨g3,0,none⟩) (j+k+1) c3,.int .i64 (gA.length:Int)] rfl rfl (jH (dH _ _ _)) (by simp [Value.oneCell']) (by decide) (by unfold maxLen;omega) (by omega) (aW _) ?_);intro g4 c4 w4 hown dP hl4 hk4
     have hY4:=(HY3.out.next (aB w3 _)).put (f:=2) (g:=g4) (cap:=c4) (fun _ _=>rfl) (by first|exact hown|simpa [Nat.add_assoc] using hown) dP (hk4.imp id (fun q=>by simpa using q.1));have KP:Row w4 bL 90 [x,y,.slice va3 (gA.length+(k+1)) vc3,is]:=(HY3.out.next (aB w3 _)).row.of_block (dP.block _ (HY3.out.next (aB w3 _)).row.lt (fun e=>HY3.out.vne e.symm));have s2:w4.cell? ⟨bL,2,none⟩=some (.slice va3 (gA.length+(k+1)) vc3):=KP.cell_of rfl;have f4:=KP.frozen 2;have HY4:=aA (show ku V bL x y is (.slice va gA.length vc) (.slice la j lc) gA (k+1+1) (j+(k+1)) (.slice (some ⟨g3,0,none⟩) (j+k+1) c3) _ from ⟨_,_,hY4⟩);clear hown dP hl4 hk4 hY4 KP r2;go_wp2;go_roundw
     case rel=>exact ⟨k+1,by omega,by go_num,HY4.out⟩
     case measure=>simp [intOf];omega
    ·have OG:¬(k:Int)<3:=by omega
     have DK:k=3:=by omega
     subst DK;go_wp2;exact cW (v:=.tuple #[]) (by simp [results,results82,go_sem]) rfl ⟨rfl,_,_,_,HY.out⟩
def kr (V:World) (bL:Nat) (x y ms v0 l0:Value) (gA:List (Value×Nat)) (i n:Nat) (l:Value) (W:World):Prop:=∃ v ss,xQ V bL 102 3 1 (nN gA.length) gA.length (fun v=>[x,y,ms,v]) v0 l0 gA i n v l ss W
theorem YV (bL:Nat) (x y ms v0 l0:Value) (gA:List (Value×Nat)) (V:World) (hR:Row V bL 90 [x,y,ms,v0]) (hv:V.ownsRow 0 102 2 v0 gA.length (laid gA)) (hes:gA.length≤1000000000000) (n:Nat) (xs:List Value) (hO:V.ownsRow 0 3 1 l0 n xs) (hn:n≤1000000000000)
  (h1:l0.ownBlock≠some bL) (h2:v0.ownBlock≠some bL) (h3:∀ g,l0.ownBlock=some g→v0.ownBlock≠some g) :
  Calls prog 83 #[.pointer (some ⟨bL,0,none⟩),l0] V fun e w'=>e = .returned (.tuple #[])∧∃ l,kr V bL x y ms v0 l0 gA 4 (n+3) l w':=by
 obtain ⟨ti,vM,uM⟩:=eZ.1 wh;simp only [fW] at uM;obtain ⟨jR,jS,jT⟩:=uM;have DH:=aA vM;have JG:=aA jR;have AH:=aA jS;have vN:=aA jT;obtain ⟨mi,YE,YF⟩:=eZ.1 UF;simp only [fW] at YF;obtain ⟨AX,AY,AZ⟩:=YF;have zv:=aA YE;have kq:=aA AX;have zq:=aA AY;have zu:=aA AZ;obtain ⟨⟨va,vc,rfl⟩,-⟩:=bM hv;have c2:V.cell? ⟨bL,3,none⟩=some (.slice va gA.length vc):=hR.cell_of rfl;have WQ:=hR.lt;have DV:∃ a c,l0 = .slice a n c∧(0<n→∃ g,a=some ⟨g,0,none⟩):=by
  rcases hO.2 with ⟨rfl,rfl⟩|⟨g,cap,cur,rfl,-⟩
  ·exact ⟨none,0,rfl,fun h=>absurd h (by decide)⟩
  ·exact ⟨_,cap,rfl,fun _=>⟨g,rfl⟩⟩
 obtain ⟨la,lc,rfl,hla⟩:=DV;have hxl:xs.length=n*1:=hO.1;have zo:=aA hla;have zx:=aA (aP hR hv);have qo:=aA (aP h1 (aP h2 h3));have HS:=aA (show Fr (fun k=>(Value.slice la n lc).ownBlock=some k) V V∧V.ownsRow 0 3 1 (.slice la n lc) n (filled (nN gA.length) (0*1) xs) from ⟨Fr.refl _ _,by rw [Nat.zero_mul,KI];exact hO⟩);clear vM jR jS jT hR YE AX AY AZ hv hO hla h1 h2 h3;go_enter func83,ntmps83;go_wp2
 go_loopw [5] (fun i w'=>∃ j:Nat,j≤n∧i = .int .i64 (j:Int)∧Fr (fun k=>(Value.slice la n lc).ownBlock=some k) V w'∧w'.ownsRow 0 3 1 (.slice la n lc) n (filled (nN gA.length) (j*1) xs)) (fun i _=>n-(intOf i).toNat)
 case atStart=>exact ⟨0,aW _,rfl,HS.out⟩
 case round =>
  obtain ⟨j,hj,rfl,hF,hO⟩:=hrel
  by_cases hlt:j<n
  ·obtain ⟨g,rfl⟩:=zo.out (by omega)
   have hlt':(j:Int)<(n:Int):=by omega
   have hj0:(0:Int)≤(j:Int):=by omega
   have HX:=aA (aP hF hO);clear hF hO;have QL:=HX.out.2;obtain ⟨u0,k0⟩:∃ u,wr.cell? ⟨g,j,none⟩=some u:=by
    rw [QL.cellAt j (by omega),eT (by rw [QL.1];omega)];exact ⟨_,rfl⟩
   have f0:=QL.frozenAt j;clear QL;go_wp2_with fail;go_roundw
   case rel =>
    refine ⟨j+1,by omega,by go_num,HX.out.1.here rfl _ _,?_⟩;have:=(HX.out.2.stored j (nN gA.length j)).1;rw [ED,wK (by omega)] at this;rw [ED];exact this
   case measure=>simp [intOf];omega
  ·have hlt':¬(j:Int)<(n:Int):=by omega
   have hjn:j=n:=by omega
   subst hjn;rw [NZ hxl] at hO;have hrow:Row wr bL 90 [x,y,ms,.slice va gA.length vc]:=zx.out.1.of_block (hF.block bL WQ qo.out.1);have hvl:=zx.out.2.lt;have hL:xQ V bL 102 3 1 (nN gA.length) gA.length (fun v=>[x,y,ms,v]) (.slice va gA.length vc) (.slice la j lc) gA 0 j (.slice va gA.length vc) (.slice la j lc) [] wr :=
    ⟨rfl,hrow,by simpa using aZ zx.out.2 (fun k e=>hF.block k (hvl k e).2 (fun q=>qo.out.2.2 k q e)),hO,fun s hs=>absurd hs List.not_mem_nil,fun g e=>.inl e,fun g e=>⟨.inl e,fun q=>qo.out.2.2 g e q⟩,⟨WQ,qo.out.1,qo.out.2.1⟩,⟨hF.os,hF.tape,hF.output,hF.size,fun k hk ho=>hF.block k hk (fun c=>ho (.inr (.inr c)))⟩⟩
   have d2:wr.cell? ⟨bL,3,none⟩=some (.slice va gA.length vc):=hrow.cell_of rfl;have HL:=aA hL;clear hF hO hrow hL hvl;go_wp2_with (at_builtin;refine cY _ rfl (.tmp 27) (.tmp 31) 88 rfl 0 102 ti (.agg #[.slice none 0 0,.int .i64 0]) 2 32 underlying88 DH.out JG.out AH.out vN.out rfl (by decide) _ (gA.length+0) _ rfl (HL.out.next (aB _ _)).own ⟨wr.heap.size,0,none⟩ 1 1 [.slice la j lc,.int .i64 (gA.length:Int)] rfl rfl (jH (dH _ _ _)) (by simp [Value.oneCell']) (by decide) (by unfold maxLen;omega) (by omega) (aW _) ?_);intro gm cm w1 hown dP gx hk;have hL1:=(HL.out.next (aB wr _)).put (f:=3) (g:=gm) (cap:=cm) (fun _ _=>rfl) (by simpa using hown) dP (hk.imp id (fun q=>by simpa using q.1));have yG:Row w1 bL 90 [x,y,ms,.slice va gA.length vc]:=(HL.out.next (aB wr _)).row.of_block (dP.block _ (HL.out.next (aB wr _)).row.lt (fun e=>qo.out.2.1 e.symm));have d2':w1.cell? ⟨bL,3,none⟩=some (.slice va gA.length vc):=yG.cell_of rfl;have f2:=yG.frozen 3;have HL1:=aA (show kr V bL x y ms (.slice va gA.length vc) (.slice la j lc) gA 1 j (.slice la j lc) (w1.setCell ⟨bL,3,none⟩ (.slice (some ⟨gm,0,none⟩) (gA.length+1) cm)) from ⟨_,_,hL1⟩);clear hown dP gx hk hL1 yG d2 c2;go_wp2
   go_loopw [1,6] (fun l i w'=>∃ k:Nat,k≤3∧i = .int .i64 (k:Int)∧kr V bL x y ms (.slice va gA.length vc) (.slice la j lc) gA (k+1) (j+k) l w') (fun _ i _=>3-(intOf i).toNat)
   case atStart=>exact ⟨0,by decide,rfl,HL1.out⟩
   case round =>
    obtain ⟨k,hk,rfl,v,ss,hY⟩:=hrel;have HY:=aA hY;clear hY
    by_cases gx:k<3
    ·have OG:(k:Int)<3:=by omega
     have HY2:=HY;have vw:=HY.out.fr.size;go_wp2_with (at_builtin;refine cY _ rfl (.tmp 39) (.tmp 42) 22 rfl 0 3 mi (.int .i64 0) 1 8 underlying22 zv.out kq.out zq.out zu.out rfl (by decide) _ (j+k) _ rfl (HY2.out.next (aB _ _)).lis ⟨wr.heap.size,0,none⟩ 1 1 [.int .i64 (-1-(gA.length:Int))] rfl rfl (jH (dH _ _ _)) (by simp [Value.oneCell']) (by decide) (by unfold maxLen;omega) (by omega) (aW _) ?_);intro g3 c3 w3 hown dP DX DK;have hY3:=(HY2.out.next (aB wr _)).more (g:=g3) (cap:=c3) (aAA _ _) (by rw [ED];exact hown) dP (DK.imp id (fun q=>⟨by simpa using q.1,by simpa using q.2⟩));obtain ⟨⟨va3,vc3,rfl⟩,-⟩:=bM hY3.own;have r2:w3.cell? ⟨bL,3,none⟩=some (.slice va3 (gA.length+(k+1)) vc3):=hY3.row.cell_of rfl;have HY3:=aA hY3;clear hown dP DX DK hY3;go_wp2_with (at_builtin;refine cY _ rfl (.tmp 48) (.tmp 52) 88 rfl 0 102 ti (.agg #[.slice none 0 0,.int .i64 0]) 2 32 underlying88 DH.out JG.out AH.out vN.out rfl (by decide) _ (gA.length+(k+1)) _ rfl (HY3.out.next (aB _ _)).own ⟨w3.heap.size,0,none⟩ 1 1 [.slice (some ⟨g3,0,none⟩) (j+k+1) c3,.int .i64 (gA.length:Int)] rfl rfl (jH (dH _ _ _)) (by simp [Value.oneCell']) (by decide) (by unfold maxLen;omega) (by omega) (aW _) ?_);intro g4 c4 w4 hown dP hl4 hk4;have hY4:=(HY3.out.next (aB w3 _)).put (f:=3) (g:=g4) (cap:=c4) (fun _ _=>rfl) (by first|exact hown|simpa [Nat.add_assoc] using hown) dP (hk4.imp id (fun q=>by simpa using q.1))
     have KP:Row w4 bL 90 [x,y,ms,.slice va3 (gA.length+(k+1)) vc3]:=(HY3.out.next (aB w3 _)).row.of_block (dP.block _ (HY3.out.next (aB w3 _)).row.lt (fun e=>HY3.out.vne e.symm));have s2:w4.cell? ⟨bL,3,none⟩=some (.slice va3 (gA.length+(k+1)) vc3):=KP.cell_of rfl;have f4:=KP.frozen 3;have HY4:=aA (show kr V bL x y ms (.slice va gA.length vc) (.slice la j lc) gA (k+1+1) (j+(k+1)) (.slice (some ⟨g3,0,none⟩) (j+k+1) c3) _ from ⟨_,_,hY4⟩);clear hown dP hl4 hk4 hY4 KP r2;go_wp2;go_roundw
     case rel=>exact ⟨k+1,by omega,by go_num,HY4.out⟩
     case measure=>simp [intOf];omega
    ·have OG:¬(k:Int)<3:=by omega
     have DK:k=3:=by omega
     subst DK;go_wp2;exact cW (v:=.tuple #[]) (by simp [results,results83,go_sem]) rfl ⟨rfl,_,_,_,HY.out⟩
end Go.Proofs.YtefjhnhdagolhaaGreat
