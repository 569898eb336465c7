import Derived.Test.YtefjhnhdagolhaaGreatA16
import Derived.Test.YtefjhnhdagolhaaGreatA33
set_option maxHeartbeats 16000000
set_option maxRecDepth 20000
namespace Go.Proofs.YtefjhnhdagolhaaGreat
open Tryz
open int list tree
open Go.RowKit
open M (aM aC aD Op eX bU bD bC aL aQ)
attribute [local go_sem ↓] Go.wp_at_zero Go.wp_at_succ
def UH  : Prop:=∀ {w W W2:World} {b1 b2 o1 o2 b3:Nat} {u1 u2 u3 u4 u5 v0:Value} (_hb:Below W.heap.size W W2) (_h:Below w.heap.size w W∧W.cell? ⟨b1,o1,none⟩=some u1∧W.cell? ⟨b2,o2,none⟩=some u2∧W.cell? ⟨b1,o1+15,none⟩=some v0∧W.cell? ⟨b3,0,none⟩=some u3∧W.cell? ⟨b3,1,none⟩=some u4∧W.cell? ⟨b3,2,none⟩=some u5),Below w.heap.size w W2∧W2.cell? ⟨b1,o1,none⟩=some u1∧W2.cell? ⟨b2,o2,none⟩=some u2∧W2.cell? ⟨b1,o1+15,none⟩=some v0∧W2.cell? ⟨b3,0,none⟩=some u3∧W2.cell? ⟨b3,1,none⟩=some u4∧W2.cell? ⟨b3,2,none⟩=some u5
theorem CL:UH  ∧ UH  ∧ UH  := by
 refine ⟨?_,?_,?_⟩<;>intro w W W2 b1 b2 o1 o2 b3 u1 u2 u3 u4 u5 v0 hb h
 all_goals
  obtain ⟨h0,h1,h2,k0,h3,h4,h5⟩:=h;exact ⟨aS h0 hb h0.size,aI hb h1,aI hb h2,aI hb k0,aI hb h3,aI hb h4,aI hb h5⟩
theorem int.zW:UH  := CL.1
theorem list.zW:UH  := CL.2.1
theorem tree.zW:UH  := CL.2.2
theorem row.zW {w W W2:World} {b1 b2 o1 o2 b3:Nat} {u1 u2 u3 u4 u5 v0 v1:Value} (hb:Below W.heap.size W W2) (h:Below w.heap.size w W∧W.cell? ⟨b1,o1,none⟩=some u1∧W.cell? ⟨b2,o2,none⟩=some u2∧W.cell? ⟨b1,o1+15,none⟩=some v0∧W.cell? ⟨b1,o1+16,none⟩=some v1∧W.cell? ⟨b3,0,none⟩=some u3∧W.cell? ⟨b3,1,none⟩=some u4∧W.cell? ⟨b3,2,none⟩=some u5) :
  Below w.heap.size w W2∧W2.cell? ⟨b1,o1,none⟩=some u1∧W2.cell? ⟨b2,o2,none⟩=some u2∧W2.cell? ⟨b1,o1+15,none⟩=some v0∧W2.cell? ⟨b1,o1+16,none⟩=some v1∧W2.cell? ⟨b3,0,none⟩=some u3∧W2.cell? ⟨b3,1,none⟩=some u4∧W2.cell? ⟨b3,2,none⟩=some u5:=by
 obtain ⟨h0,h1,h2,k0,k1,h3,h4,h5⟩:=h;exact ⟨aS h0 hb h0.size,aI hb h1,aI hb h2,aI hb k0,aI hb k1,aI hb h3,aI hb h4,aI hb h5⟩
def gq (SR:Type→Type) (aAf:{σ:Type}→SR σ→(Nat→Prop)→World→σ→List Value→Prop):Prop:=∀ {σ:Type} {R:SR σ} {I:Nat→Prop} {w W w2 w3:World} {b6:Nat} {s:σ} {c:List Value} (_hz:(aAf R) (fun k=>I k∨(W.heap.size≤k∧k<w2.heap.size)) w2 s c) (_hI:∀ k,I k→k<w.heap.size) (_hwW:w.heap.size≤W.heap.size) (_hb6:w.heap.size≤b6) (_hbb:b6<W.heap.size∨w2.heap.size≤b6) (_h3:∀ k,k<w2.heap.size→k≠b6→w3.heap[k]?=w2.heap[k]?) (_hs:w2.heap.size≤w3.heap.size),(aAf R) (fun k=>I k∨(w.heap.size≤k∧k<w3.heap.size)) w3 s c
theorem JP:gq int.SR @int.SR.rep∧gq list.SR @list.SR.rep∧gq tree.SR @tree.SR.rep:=by
 refine ⟨?_,?_,?_⟩<;>intro σ R I w W w2 w3 b6 s c hz hI hwW hb6 LM h3 hs
 all_goals
  refine R.stay (fun k hk hlt=>?_) hz
  rcases hk with hk|hk
  ·have:=hI k hk
   exact ⟨.inl hk,h3 k hlt (by omega)⟩
  ·exact ⟨.inr ⟨by omega,by omega⟩,h3 k hlt (by omega)⟩
theorem int.aCO:gq int.SR @int.SR.rep:=JP.1
theorem list.aCO:gq list.SR @list.SR.rep:=JP.2.1
theorem tree.aCO:gq tree.SR @tree.SR.rep:=JP.2.2
theorem int.iq {w W:World} {b1 b2 o1 o2 b3 b6:Nat} {u1 u2 u3 u4 u5 v0:Value} (vs:List Value) (q6:w.heap.size≤b6) (q1:b1<b6) (q2:b2<b6) (q3:b3<b6) (h:Below w.heap.size w W∧W.cell? ⟨b1,o1,none⟩=some u1∧W.cell? ⟨b2,o2,none⟩=some u2∧W.cell? ⟨b1,o1+15,none⟩=some v0∧W.cell? ⟨b3,0,none⟩=some u3∧W.cell? ⟨b3,1,none⟩=some u4∧W.cell? ⟨b3,2,none⟩=some u5) :
  Below w.heap.size w (W.setCells b6 0 vs)∧(W.setCells b6 0 vs).cell? ⟨b1,o1,none⟩=some u1∧(W.setCells b6 0 vs).cell? ⟨b2,o2,none⟩=some u2∧(W.setCells b6 0 vs).cell? ⟨b1,o1+15,none⟩=some v0∧(W.setCells b6 0 vs).cell? ⟨b3,0,none⟩=some u3∧(W.setCells b6 0 vs).cell? ⟨b3,1,none⟩=some u4∧(W.setCells b6 0 vs).cell? ⟨b3,2,none⟩=some u5:=by
 obtain ⟨h0,h1,h2,k0,h3,h4,h5⟩:=h;have out:∀ {b o:Nat} {u:Value},b<b6→W.cell? ⟨b,o,none⟩=some u→(W.setCells b6 0 vs).cell? ⟨b,o,none⟩=some u:=fun hb hu=>by
  rw [World.cell?_setCells_out b6 vs 0 W _ (fun q _=>by dsimp only at q;omega)];exact hu
 exact ⟨cO q6 vs 0 W h0,out q1 h1,out q2 h2,out q1 k0,out q3 h3,out q3 h4,out q3 h5⟩
theorem row.iq {w W:World} {b1 b2 o1 o2 b3 b6:Nat} {u1 u2 u3 u4 u5 v0 v1:Value} (vs:List Value) (q6:w.heap.size≤b6) (q1:b1<b6) (q2:b2<b6) (q3:b3<b6) (h:Below w.heap.size w W∧W.cell? ⟨b1,o1,none⟩=some u1∧W.cell? ⟨b2,o2,none⟩=some u2∧W.cell? ⟨b1,o1+15,none⟩=some v0∧W.cell? ⟨b1,o1+16,none⟩=some v1∧W.cell? ⟨b3,0,none⟩=some u3∧W.cell? ⟨b3,1,none⟩=some u4∧W.cell? ⟨b3,2,none⟩=some u5) :
  Below w.heap.size w (W.setCells b6 0 vs)∧(W.setCells b6 0 vs).cell? ⟨b1,o1,none⟩=some u1∧(W.setCells b6 0 vs).cell? ⟨b2,o2,none⟩=some u2∧(W.setCells b6 0 vs).cell? ⟨b1,o1+15,none⟩=some v0∧(W.setCells b6 0 vs).cell? ⟨b1,o1+16,none⟩=some v1∧(W.setCells b6 0 vs).cell? ⟨b3,0,none⟩=some u3∧(W.setCells b6 0 vs).cell? ⟨b3,1,none⟩=some u4∧(W.setCells b6 0 vs).cell? ⟨b3,2,none⟩=some u5:=by
 obtain ⟨h0,h1,h2,k0,k1,h3,h4,h5⟩:=h;have out:∀ {b o:Nat} {u:Value},b<b6→W.cell? ⟨b,o,none⟩=some u→(W.setCells b6 0 vs).cell? ⟨b,o,none⟩=some u:=fun hb hu=>by
  rw [World.cell?_setCells_out b6 vs 0 W _ (fun q _=>by dsimp only at q;omega)];exact hu
 exact ⟨cO q6 vs 0 W h0,out q1 h1,out q2 h2,out q1 k0,out q1 k1,out q3 h3,out q3 h4,out q3 h5⟩
def qV (n0:Nat):Prop:=∀ {σ:Type} {L:Lt} {t:Nat} (e:bU σ) (cv cf:List Value) (pv:Value) (_hv:cv.length=n0+1) (_hf:cf.length=n0+1) (j:Nat) (_hj:j<2*(n0+1)),(cN L t e cv cf pv)[15+j]?=(cv++cf)[j]?
open row in
theorem gQ:qV 1∧qV 1∧qV 1∧qV 2:=by
 refine ⟨?_,?_,?_,?_⟩<;>intro σ L t e cv cf pv hv hf j hj
 all_goals
  unfold cN;rw [pP (by simp [hv,hf];omega),BL,vI (by simp)];simp
theorem int.mK:qV 1:=gQ.1
theorem list.mK:qV 1:=gQ.2.1
theorem tree.mK:qV 1:=gQ.2.2.1
theorem row.mK:qV 2:=gQ.2.2.2
theorem int.MY (l1 l2 m n:List Value) {j c:Nat} (h1:l1.length=c) (h2:l2.length=c) (hj:c≤j):((l1++m)++n)[j]?=((l2++m)++n)[j]?:=by
 have e:∀ l:List Value,l.length=c→((l++m)++n)[j]?=(m++n)[j-c]?:=fun l hl=>by rw [BL,vI (by omega),hl]
 rw [e l1 h1,e l2 h2]
theorem row.ZM {b:Nat}:∀ (vs:List Value) (o:Nat) (W:World) (k:Nat),k≠b→(W.setCells b o vs).heap[k]?=W.heap[k]?
 |[],_,_,_,_=>rfl
 |v::vs,o,W,k,hk=>by
  show ((W.setCell ⟨b,o,none⟩ v).setCells b (o+1) vs).heap[k]?=_;rw [ZM vs (o+1) _ k hk,cZ _ _ _ k hk]
theorem row.JY {b:Nat}:∀ (vs:List Value) (o:Nat) (W:World),(W.setCells b o vs).heap.size=W.heap.size
 |[],_,_=>rfl
 |v::vs,o,W=>by
  show ((W.setCell ⟨b,o,none⟩ v).setCells b (o+1) vs).heap.size=_;rw [JY vs (o+1) _];simp [World.setCell]
theorem row.Row.aIi {w:World} {b:Nat} {t:TypeId} {u v x y:Value} (h:Row w b t [u,v]):Row (w.setCells b 0 [x,y]) b t [x,y]:=(h.set 0 x).set 1 y
theorem row.aMM {P:Program} {ops:Array Oper} {Q:Exit→Act→World→Prop} {S:World→Prop} {a:Act} {w:World} {id:Nat} (n:Nat) (hn:ops.size=n) (hm:P.follows .mixedOrders=true) (hS:S w.drew)
  (h:∀ W,W=w.drew→S W→wpAnyH P .any ops Q S n (Array.replicate n false) a W):(Code.region id ops true).wp P Q a w:=fH n hn hm hS (h _ rfl)
theorem row.AQ {w W:World} {o:Obj} (h:w.alloc o=W):Below w.heap.size w W:=by subst h;exact aB _ _
theorem row.GQ {w W:World} {xs:List Value} {t:TypeId} (h:w.alloc (.cells xs.toArray t)=W):Row W w.heap.size t xs:=by subst h;exact aV rfl
theorem row.aBh {w W:World} {tt:TypeId} {xs:List Value} {b1 b2 o1 o2 b3 b6:Nat} {u1 u2 u3 u4 u5 v0 v1:Value} (_:Row W b6 tt xs) (vs:List Value) (q6:w.heap.size≤b6) (q1:b1<b6) (q2:b2<b6) (q3:b3<b6) (h:Below w.heap.size w W∧W.cell? ⟨b1,o1,none⟩=some u1∧W.cell? ⟨b2,o2,none⟩=some u2∧W.cell? ⟨b1,o1+15,none⟩=some v0∧W.cell? ⟨b1,o1+16,none⟩=some v1∧W.cell? ⟨b3,0,none⟩=some u3∧W.cell? ⟨b3,1,none⟩=some u4∧W.cell? ⟨b3,2,none⟩=some u5) :
  Below w.heap.size w (W.setCells b6 0 vs)∧(W.setCells b6 0 vs).cell? ⟨b1,o1,none⟩=some u1∧(W.setCells b6 0 vs).cell? ⟨b2,o2,none⟩=some u2∧(W.setCells b6 0 vs).cell? ⟨b1,o1+15,none⟩=some v0∧(W.setCells b6 0 vs).cell? ⟨b1,o1+16,none⟩=some v1∧(W.setCells b6 0 vs).cell? ⟨b3,0,none⟩=some u3∧(W.setCells b6 0 vs).cell? ⟨b3,1,none⟩=some u4∧(W.setCells b6 0 vs).cell? ⟨b3,2,none⟩=some u5:=iq vs q6 q1 q2 q3 h
theorem row.aDU {σ:Type} {R:SR σ} {I:Nat→Prop} {w W w2 w3:World} {b:Nat} {s:σ} {c:List Value} {tt:TypeId} {xs:List Value} (_:Row w3 b tt xs) (hz:R.rep (fun k=>I k∨(W.heap.size≤k∧k<w2.heap.size)) w3 s c) (hI:∀ k,I k→k<w.heap.size) (h5:w.heap.size≤b) (h5':b<W.heap.size∨w2.heap.size≤b) (vs:List Value):R.rep (fun k=>I k∨(W.heap.size≤k∧k<w2.heap.size)) (w3.setCells b 0 vs) s c :=
 R.stay (fun k hk _=>⟨hk,ZM vs 0 w3 k (by
  rcases hk with hk|hk
  ·have:=hI k hk;omega
  ·omega)⟩) hz
structure int.bG {σ:Type} (R:SR σ) (P:M.Plain σ) (L:Lt) (fA:Nat) (rv:Value):Prop where
 z:M.xP R.sz P
 m:∀ W,(method 553 L.oT L.ov "Apply").run prog W = .ok (fA,rv) W
 c:∀ (s o:Value) (W:World),(callFunc fA #[rv,s,o]).run prog W = .ok (.enter fA #[rv,s,o]) W
 ap:∀ (I:Nat→Prop) (W:World) (s:σ) (x0:Value) (op:M.Op),R.rep I W s [x0]→R.sz s≤1000000000000→(∀ k,I k→k<W.heap.size) →
  Calls prog fA #[rv,x0,.agg #[.int .i64 op.c,.int .i64 op.a,.int .i64 op.b]] W fun e w'=>∃ y0:Value,e = .returned (.tuple #[y0,.agg #[.int .i64 (P.apply s op).2.s,.int .i64 (P.apply s op).2.v]]) ∧
   R.rep (fun k=>I k∨(W.heap.size≤k∧k<w'.heap.size)) w' (P.apply s op).1 [y0]∧Below W.heap.size W w'
structure list.bG {σ:Type} (R:SR σ) (P:M.Plain σ) (L:Lt) (fA:Nat) (rv:Value):Prop where
 z:M.xP R.sz P
 m:∀ W,(method 553 L.oT L.ov "Apply").run prog W = .ok (fA,rv) W
 c:∀ (s o:Value) (W:World),(callFunc fA #[rv,s,o]).run prog W = .ok (.enter fA #[rv,s,o]) W
 ap:∀ (I:Nat→Prop) (W:World) (s:σ) (x0:Value) (op:M.Op),R.rep I W s [x0]→R.sz s≤1000000000000→(∀ k,I k→k<W.heap.size) →
  Calls prog fA #[rv,x0,.agg #[.int .i64 op.c,.int .i64 op.a,.int .i64 op.b]] W fun e w'=>∃ y0:Value,e = .returned (.tuple #[y0,.agg #[.int .i64 (P.apply s op).2.s,.int .i64 (P.apply s op).2.v]]) ∧
   R.rep (fun k=>I k∨(W.heap.size≤k∧k<w'.heap.size)) w' (P.apply s op).1 [y0]∧Below W.heap.size W w'
structure tree.bG {σ:Type} (R:SR σ) (P:M.Plain σ) (L:Lt) (fA:Nat) (rv:Value):Prop where
 z:M.xP R.sz P
 m:∀ W,(method 553 L.oT L.ov "Apply").run prog W = .ok (fA,rv) W
 c:∀ (s o:Value) (W:World),(callFunc fA #[rv,s,o]).run prog W = .ok (.enter fA #[rv,s,o]) W
 ap:∀ (I:Nat→Prop) (W:World) (s:σ) (x0:Value) (op:M.Op),R.rep I W s [x0]→R.sz s≤1000000000000→(∀ k,I k→k<W.heap.size) →
  Calls prog fA #[rv,x0,.agg #[.int .i64 op.c,.int .i64 op.a,.int .i64 op.b]] W fun e w'=>∃ y0:Value,e = .returned (.tuple #[y0,.agg #[.int .i64 (P.apply s op).2.s,.int .i64 (P.apply s op).2.v]]) ∧
   R.rep (fun k=>I k∨(W.heap.size≤k∧k<w'.heap.size)) w' (P.apply s op).1 [y0]∧Below W.heap.size W w'
structure row.bG {σ:Type} (R:SR σ) (P:M.Plain σ) (L:Lt) (fA:Nat) (rv:Value):Prop where
 z:M.xP R.sz P
 m:∀ W,(method 553 L.oT L.ov "Apply").run prog W = .ok (fA,rv) W
 c:∀ (s o:Value) (W:World),(callFunc fA #[rv,s,o]).run prog W = .ok (.enter fA #[rv,s,o]) W
 ap:∀ (I:Nat→Prop) (W:World) (s:σ) (x0 x1:Value) (op:M.Op),R.rep I W s [x0,x1]→R.sz s≤1000000000000→(∀ k,I k→k<W.heap.size) →
  Calls prog fA #[rv,.agg #[x0,x1],.agg #[.int .i64 op.c,.int .i64 op.a,.int .i64 op.b]] W fun e w'=>∃ y0 y1:Value,e = .returned (.tuple #[.agg #[y0,y1],.agg #[.int .i64 (P.apply s op).2.s,.int .i64 (P.apply s op).2.v]]) ∧
   R.rep (fun k=>I k∨(W.heap.size≤k∧k<w'.heap.size)) w' (P.apply s op).1 [y0,y1]∧Below W.heap.size W w'
def JM (SR:Type→Type) (RE:lA SR) (aE:BX SR) (bG:RF SR) (qs:{σ:Type}→SR σ→σ→Nat) (n0:Nat):Prop:=∀ {σ:Type} {R:SR σ} {L:Lt} {S:Nat→Prop} {E:bD σ} {w:World} {t:Nat} {P:M.Plain σ} {fA:Nat} {rv:Value} (_hA:bG R P L fA rv) (_h:RE R L S E w) (_ht:t<L.n) {k:Nat} (_hk:k<L.n) {v f:eX σ} (_hv:(E.th t).now=some v) (_hf:(E.th t).fD=some f) (_hsz:(qs R) v.st≤1000000000000),Calls prog n0 #[.pointer (some ⟨L.g,t*28,none⟩),.int .i64 (k:Int)] w fun e w'=>e = .returned (.tuple #[])∧aE R L S w {E with th:=aM E.th t (bU.apply P L.n (E.th t) k)} w'
theorem uJ:JM int.SR @int.RE @int.aE @int.bG @int.SR.sz 230∧JM list.SR @list.RE @list.aE @list.bG @list.SR.sz 281∧JM tree.SR @tree.RE @tree.aE @tree.bG @tree.SR.sz 355:=by
 refine ⟨@mkK _ 0 ?_,@mkK _ 1 ?_,@mkK _ 2 ?_⟩<;>intro kk σ R L S E w t P fA rv hA h ht k hk v f hv hf hsz
 all_goals
  obtain ⟨cv,cf,pv,hc,hcv,eP,-,hfz⟩:=h.cells ht rfl;have zM:=hcv.2 v hv;have hfr:=eP.2 f hf;obtain ⟨x0,xl,rfl⟩:∃ x0 l,cv=[x0]++[l]:=by obtain ⟨c0,c1,rfl⟩:=aF hcv.1;exact ⟨_,_,rfl⟩
  obtain ⟨y0,y1,rfl⟩:=aF eP.1;have hn:=h.ok.n64;have xV:=h.ok.n1;have c0:w.cell? ⟨L.g,t*28,none⟩=some (.pointer (some ⟨L.bS,0,none⟩)):=hc 0 _ (by decide) rfl;have s1:w.cell? ⟨L.bS,1,none⟩=some (.iface L.oT L.ov):=h.sh.cell_of rfl;have xc0:=hc 15 _ (by decide) rfl;have hh0:=hc 21 _ (by decide) rfl;have hh1:=hc 22 _ (by decide) rfl;have hh2:=hc 23 _ (by decide) rfl;have aEV:=fun ob=>bO hh0 ob
  have aEW:=fun ob=>bO hh1 ob
  have aEX:=fun ob=>bO hh2 ob
  have HH:=aA h;have HV:=aA (aP zM hfr);have HC:=aA (aP hv hf);have HX:=aA (show ∀ j,j<2*(1+1)→w.cell? ⟨L.g,t*28+(15+j),none⟩=(([x0]++[xl])++[y0,y1])[j]? from fun j hj=>by
   first|(have:=kA kk;have q:=int.mK (L:=L) (t:=t) (E.th t) ([x0]++[xl]) [y0,y1] pv hcv.1 eP.1 j hj)|(have:=kB kk;have q:=list.mK (L:=L) (t:=t) (E.th t) ([x0]++[xl]) [y0,y1] pv hcv.1 eP.1 j hj)|(have:=kC kk;have q:=tree.mK (L:=L) (t:=t) (E.th t) ([x0]++[xl]) [y0,y1] pv hcv.1 eP.1 j hj)
   obtain ⟨u,hu⟩:∃ u,(([x0]++[xl])++[y0,y1])[j]?=some u:=⟨_,eT (by simp;omega)⟩;rw [hu] at q ⊢;exact hc (15+j) u (by omega) q)
  clear h hc hcv eP zM hfr hfz hv hf
  first|(have:=kA kk;go_enter func230,ntmps230)|(have:=kB kk;go_enter func281,ntmps281)|(have:=kC kk;go_enter func355,ntmps355)
  go_wp2
  go_region
  generalize sZ:World.drew _=W1;have eN:Below w.heap.size w W1:=by rw [←sZ];exact dU (aB w _)
  have hro:Row W1 w.heap.size 36 [.int .i64 ((E.th t).heard 0),.int .i64 ((E.th t).heard 1),.int .i64 ((E.th t).heard 2)]:=by rw [←sZ];exact dH w [_,_,_] _
  have o0:W1.cell? ⟨w.heap.size,0,none⟩=some (.int .i64 ((E.th t).heard 0)):=hro.cell_of rfl;have o1:W1.cell? ⟨w.heap.size,1,none⟩=some (.int .i64 ((E.th t).heard 1)):=hro.cell_of rfl;have o2:W1.cell? ⟨w.heap.size,2,none⟩=some (.int .i64 ((E.th t).heard 2)):=hro.cell_of rfl;have e0:=aI eN c0;have e1:=aI eN s1;have xe0:=aI eN xc0;have aA4:R.rep (fun k=>S k∧¬L.own k) w v.st [x0]:=by
   obtain ⟨sc,b,hsc,hr,-⟩:=HV.out.1;have:sc=[x0]:=(List.append_inj' hsc rfl).1.symm;rw [←this];exact hr
  have ux:∀ k,(S k∧¬L.own k)→k<w.heap.size:=fun k hk=>HH.out.lt k hk.1
  obtain ⟨r,hr⟩:∃ r,r=P.apply v.st (M.gW (E.th t).heard):=⟨_,rfl⟩;have zi:=aA (fun (W:World) (hW:Below w.heap.size w W)=>hA.ap (fun k=>S k∧¬L.own k) W v.st x0 (M.gW (E.th t).heard) (R.stay (fun k hk hlt=>⟨hk,hW.block k hlt⟩) aA4) hsz (fun k hk=>cH (ux k hk) hW.size));rw [←hr] at zi;have nA:=aA hr;have hm:=hA.m;have hcl:=hA.c;have uL:L.g<w.heap.size:=HH.out.lt _ (HH.out.ow _ pI);have hSl:L.bS<w.heap.size:=HH.out.lt _ (HH.out.ow _ jd);have aLi:w.heap.size<W1.heap.size:=hro.lt;clear sZ hro aA4 hh0 hh1 hh2 aEV aEW aEX c0 s1 xc0 hr;go_upto_region 1 with fail
  go_cut [5,6] (fun st an w'=>∃ (y0:Value) (b6:Nat),st=y0∧an = .pointer (some ⟨b6,0,none⟩)∧Row w' b6 94 [.int .i64 r.2.s,.int .i64 r.2.v]∧Below w.heap.size w w'∧w.heap.size≤b6∧R.rep (fun k=>(S k∧¬L.own k)∨(w.heap.size≤k∧k<w'.heap.size)) w' r.1 [y0])
  case first =>
   refine fH (S:=(fun w'=>Below w.heap.size w w'∧w'.cell? ⟨L.g,t*28,none⟩=some (.pointer (some ⟨L.bS,0,none⟩))∧w'.cell? ⟨L.bS,1,none⟩=some (.iface L.oT L.ov)∧w'.cell? ⟨L.g,t*28+15,none⟩=some x0∧w'.cell? ⟨w.heap.size,0,none⟩=some (.int .i64 ((E.th t).heard 0))∧w'.cell? ⟨w.heap.size,1,none⟩=some (.int .i64 ((E.th t).heard 1))∧w'.cell? ⟨w.heap.size,2,none⟩=some (.int .i64 ((E.th t).heard 2)))) 24 rfl (by kernel_rfl) ?_ (fun hHeld=>?_)
   ·exact ⟨dU eN,e0,e1,xe0,o0,o1,o2⟩
   repeat' first
    |(
     (first|refine ZY [17,21,23] 22 (by rfl) (by decide +kernel) ?_|refine ZY [17,21,23] 23 (by rfl) (by decide +kernel) ?_)
     refine ⟨_,by exact fun _ _ _ h=>h,.inl ⟨by rfl,fun w hS=>by (try dsimp only at hS);go_simp;(try with_reducible rfl)⟩,by assumption,?_⟩
     (try go_frame)
     )
    |(
     (first|refine pF 21 (by rfl) (by decide +kernel) (fun K hK PY=>?_)|refine pF 23 (by rfl) (by decide +kernel) (fun K hK PY=>?_)|refine pF 17 (by rfl) (by decide +kernel) (fun K hK PY=>?_)|refine fC (rs:=[17,21]) (by decide +kernel) (by simp) (JF (by rfl) (fun K hK PY=>?_) (JF (by rfl) (fun K hK PY=>?_) AllReadyH.nil)))
     all_goals first
      |(
       have _:On 17:=PY;go_simp;refine (zi.out _ hHeld.1).mono ?_;rintro e w2 ⟨z0,rfl,hz,bI⟩;go_wp2_with fail;refine hK.out _ _ ?_ (fun hHeld=>?_)
       ·first|(have:=kA kk;exact int.zW bI hHeld)|(have:=kB kk;exact list.zW bI hHeld)|(have:=kC kk;exact tree.zW bI hHeld)
       clear hK K PY
       (try go_frame)
       )
      |(
       have _:On 21:=PY;go_simp;refine hK.out _ _ ?_ (fun hHeld=>?_)
       ·first|(have:=kA kk;exact int.zW (aB _ _) hHeld)|(have:=kB kk;exact list.zW (aB _ _) hHeld)|(have:=kC kk;exact tree.zW (aB _ _) hHeld)
       clear hK K PY
       (try go_frame)
       )
      |(
       rw [aJ (by rfl)];have YJ:W1.heap.size≤w2.heap.size:=by have q:=bI.size;simp at q;omega
       refine nK _ _ _ rfl _ 0 #[.int .i64 r.2.s,.int .i64 r.2.v] rfl rfl ?_ (by kernel_rfl) (by simp [Value.oneCell']) ?_
       ·first|exact Row.there (dH _ [_,_] _) (by simp)|exact aU bI (Row.there (dH _ [_,_] _) (by simp))
       refine hK.out _ _ ?_ (fun hHeld=>?_)
       ·exact iq _ (by omega) (by omega) (by omega) (by omega) hHeld
       clear hK K PY
       (try go_frame)
       )
     )
    |(
     refine cC (by decide +kernel) ?_ _
     (try go_wp2_with fail)
     go_meet
     case rel =>
      first
       |exact ⟨z0,w2.heap.size,rfl,rfl,((aV rfl).set 0 _).set 1 _,hHeld.1,by omega,aCO (b6:=w2.heap.size) hz ux (by simp;omega) (by omega) (.inr (bQ _)) (fun k hk hne=>((cZ _ _ _ k hne).trans (cZ _ _ _ k hne)).trans (Below.heap_alloc w2 _ k hk)) (by simp [World.setCells,World.setCell])⟩
       |exact ⟨z0,W1.heap.size,rfl,rfl,(((show Row (W1.alloc _).drew W1.heap.size 94 [_,_] from dH W1 [_,_] _).old bI).set 0 _).set 1 _,hHeld.1,by omega,aCO (b6:=W1.heap.size) hz ux (by simp;omega) (by omega) (.inl (by simp)) (fun k hk hne=>(cZ _ _ _ k hne).trans (cZ _ _ _ k hne)) (by simp [World.setCells,World.setCell])⟩
     )
  case rest =>
   obtain ⟨_,b6,rfl,rfl,hr6,hbc,h6,QM⟩:=hcut;obtain ⟨q0,rfl⟩:=R.shape QM u5 (by simp);have hst:∀ k,(S k∧¬L.own k)→k<w.heap.size→(grown S w wc k∧¬L.own k)∧wc.heap[k]?=w.heap[k]?:=fun k hk hlt=>⟨⟨.inl hk.1,hk.2⟩,hbc.block k hlt⟩
   first
    |have:=kA kk
     have rp1:R.rep (fun k=>grown S w wc k∧¬L.own k) wc r.1 [.int .i64 q0]:=R.stay (fun k (hk:(S k∧¬L.own k)∨(w.heap.size≤k∧k<wc.heap.size)) _=>⟨by
      rcases hk with hk|hk
      ·exact ⟨.inl hk.1,hk.2⟩
      ·exact ⟨.inr hk,fun q=>by have:=HH.out.lt _ (HH.out.ow _ q);omega⟩,rfl⟩) QM
    |have:=kB kk
     have rp1:R.rep (fun k=>grown S w wc k∧¬L.own k) wc r.1 [.pointer q0]:=R.stay (fun k (hk:(S k∧¬L.own k)∨(w.heap.size≤k∧k<wc.heap.size)) _=>⟨by
      rcases hk with hk|hk
      ·exact ⟨.inl hk.1,hk.2⟩
      ·exact ⟨.inr hk,fun q=>by have:=HH.out.lt _ (HH.out.ow _ q);omega⟩,rfl⟩) QM
    |have:=kC kk
     have rp1:R.rep (fun k=>grown S w wc k∧¬L.own k) wc r.1 [.pointer q0]:=R.stay (fun k (hk:(S k∧¬L.own k)∨(w.heap.size≤k∧k<wc.heap.size)) _=>⟨by
      rcases hk with hk|hk
      ·exact ⟨.inl hk.1,hk.2⟩
      ·exact ⟨.inr hk,fun q=>by have:=HH.out.lt _ (HH.out.ow _ q);omega⟩,rfl⟩) QM
   first|(have:=kA kk;refine (have vr:int.bH R (fun k=>grown S w wc k∧¬L.own k) wc {v with st:=r.1} ([.int .i64 q0]++[xl]):=?_;?_))|(have:=kB kk;refine (have vr:list.bH R (fun k=>grown S w wc k∧¬L.own k) wc {v with st:=r.1} ([.pointer q0]++[xl]):=?_;?_))|(have:=kC kk;refine (have vr:tree.bH R (fun k=>grown S w wc k∧¬L.own k) wc {v with st:=r.1} ([.pointer q0]++[xl]):=?_;?_))
   ·obtain ⟨sc,b,hsc,-,LM⟩:=HV.out.1
    have e:=(List.append_inj' hsc rfl).2
    first|(have:=kA kk;exact ⟨[.int .i64 q0],b,by rw [e],rp1,int.dX.stay hst ux _ _ LM⟩)|(have:=kB kk;exact ⟨[.pointer q0],b,by rw [e],rp1,list.dX.stay hst ux _ _ LM⟩)|(have:=kC kk;exact ⟨[.pointer q0],b,by rw [e],rp1,tree.dX.stay hst ux _ _ LM⟩)
   have fr:=bH.stay hst ux HV.out.2;have hLc:=aE.below HH.out hbc
   first
    |have:=kA kk
     obtain ⟨r2,k2⟩:=hLc.re.mJ ht [.int .i64 q0] 0 (by simp) (by simp) vr fr (fun j hj=>by
      by_cases q:j<1
      ·rw [aJ ⟨aW _,by simpa using q⟩,BL,pP (by simpa using q)]
       rfl
      ·rw [aN (by simpa using q),hbc.cell (p:=⟨L.g,t*28+(15+j),none⟩) uL,HX.out j hj]
       exact MY (c:=1) [x0] [.int .i64 q0] [xl] [y0,y1] rfl rfl (by omega)) {E.th t with now:=some {v with st:=r.1}} (by rw [←HC.out.2])
    |have:=kB kk
     obtain ⟨r2,k2⟩:=hLc.re.mJ ht [.pointer q0] 0 (by simp) (by simp) vr fr (fun j hj=>by
      by_cases q:j<1
      ·rw [aJ ⟨aW _,by simpa using q⟩,BL,pP (by simpa using q)]
       rfl
      ·rw [aN (by simpa using q),hbc.cell (p:=⟨L.g,t*28+(15+j),none⟩) uL,HX.out j hj]
       exact MY (c:=1) [x0] [.pointer q0] [xl] [y0,y1] rfl rfl (by omega)) {E.th t with now:=some {v with st:=r.1}} (by rw [←HC.out.2])
    |have:=kC kk
     obtain ⟨r2,k2⟩:=hLc.re.mJ ht [.pointer q0] 0 (by simp) (by simp) vr fr (fun j hj=>by
      by_cases q:j<1
      ·rw [aJ ⟨aW _,by simpa using q⟩,BL,pP (by simpa using q)]
       rfl
      ·rw [aN (by simpa using q),hbc.cell (p:=⟨L.g,t*28+(15+j),none⟩) uL,HX.out j hj]
       exact MY (c:=1) [x0] [.pointer q0] [xl] [y0,y1] rfl rfl (by omega)) {E.th t with now:=some {v with st:=r.1}} (by rw [←HC.out.2])
   have JS:=hLc.next (aE.of r2 k2 rfl);obtain ⟨cv5,cf5,pv5,ve,OD,OC,-,sP⟩:=hLc.re.cells ht rfl;obtain ⟨c0,c1,rfl⟩:=aF OD.1;obtain ⟨d0,d1,rfl⟩:=aF OC.1;have oc0:=ve 15 _ (by decide) rfl;have of0:=sP (t*28+15);have NB:=aA JS;have HR6:=aA (aP hr6 h6);have HBC:=aA hbc;clear hst rp1 vr fr hLc r2 k2 JS ve OD OC sP hr6 QM hbc hm hcl;go_upto_region 3 with fail;generalize jB:World.setCell _ _ _=W2;have JS:aE R L S w {E with th:=aM E.th t {E.th t with now:=some {v with st:=r.1}}} W2:=by rw [←jB];exact NB.out
   first|(have:=kA kk;have BA:Row W2 b6 94 [.int .i64 r.2.s,.int .i64 r.2.v]:=by rw [←jB];exact (show Row (wc.setCells L.g (t*28+(15+0)) [.int .i64 q0]) b6 94 _ from Row.fU (by omega) _ _ HR6.out.1))|(have:=kB kk;have BA:Row W2 b6 94 [.int .i64 r.2.s,.int .i64 r.2.v]:=by rw [←jB];exact (show Row (wc.setCells L.g (t*28+(15+0)) [.pointer q0]) b6 94 _ from Row.fU (by omega) _ _ HR6.out.1))|(have:=kC kk;have BA:Row W2 b6 94 [.int .i64 r.2.s,.int .i64 r.2.v]:=by rw [←jB];exact (show Row (wc.setCells L.g (t*28+(15+0)) [.pointer q0]) b6 94 _ from Row.fU (by omega) _ _ HR6.out.1))
   clear jB NB;obtain ⟨cv6,cf6,pv6,hc6,-,-,-,-⟩:=JS.re.cells ht (aC _ _ _);have g0:W2.cell? ⟨L.g,t*28,none⟩=some (.pointer (some ⟨L.bS,0,none⟩)):=hc6 0 _ (by decide) rfl;have g14:=hc6 14 _ (by decide) rfl;have gs0:W2.cell? ⟨L.bS,0,none⟩=some (.int .i64 (L.n:Int)):=JS.re.sh.cell_of rfl;have ga0:W2.cell? ⟨b6,0,none⟩=some (.int .i64 r.2.s):=BA.cell_of rfl;have ga1:W2.cell? ⟨b6,1,none⟩=some (.int .i64 r.2.v):=BA.cell_of rfl;have hsk:M.aL L.n k<M.bC L.n:=by unfold M.aL M.bC;omega
   have hvk:M.aQ L.n k<M.bC L.n:=by unfold M.aQ M.bC;omega
   have RU:M.bC L.n≤200:=by unfold M.bC M.tw;omega
   have th1:W2.there (L.gD t) (M.aL L.n k) 1:=(JS.re.gd t ht).there hsk;have th2:W2.there (L.gD t) (M.aQ L.n k) 1:=(JS.re.gd t ht).there hvk;have ngD:L.g≠L.gD t:=by obtain ⟨T,q,-⟩:=HH.out.th;exact Row.apart q (HH.out.gd t ht) (by decide)
   have nSD:L.bS≠L.gD t:=Row.apart HH.out.sh (HH.out.gd t ht) (by decide);have n6D:b6≠L.gD t:=fun q=>by have:=HH.out.lt _ (HH.out.ow _ (vA ht));have:=HR6.out.2;omega
   have NB:=aA JS;generalize aA7:M.aL L.n k=sk at *;generalize aBc:M.aQ L.n k=vk at *;have aMa:(sk:Int)<(M.bC L.n:Int):=by omega
   have aMh:(vk:Int)<(M.bC L.n:Int):=by omega
   clear JS BA hc6
   go_cut [6] (fun an w'=>an = .pointer (some ⟨b6,0,none⟩)∧aE R L S w {E with th:=aM (aM E.th t {E.th t with now:=some {v with st:=r.1}}) t {(aM E.th t {E.th t with now:=some {v with st:=r.1}}) t with dw:=aM ((aM E.th t {E.th t with now:=some {v with st:=r.1}}) t).dw sk r.2.s}} w'∧w'.cell? ⟨L.g,t*28,none⟩=some (.pointer (some ⟨L.bS,0,none⟩))∧w'.cell? ⟨L.g,t*28+14,none⟩=some (.slice (some ⟨L.gD t,0,none⟩) (M.bC L.n) (M.bC L.n))∧w'.cell? ⟨L.bS,0,none⟩=some (.int .i64 (L.n:Int))∧w'.cell? ⟨b6,1,none⟩=some (.int .i64 r.2.v)∧w'.there (L.gD t) vk 1)
   case first =>
    refine fH (S:=(fun w'=>w'.cell? ⟨L.g,t*28,none⟩=some (.pointer (some ⟨L.bS,0,none⟩))∧w'.cell? ⟨L.g,t*28+14,none⟩=some (.slice (some ⟨L.gD t,0,none⟩) (M.bC L.n) (M.bC L.n))∧w'.cell? ⟨L.bS,0,none⟩=some (.int .i64 (L.n:Int))∧w'.cell? ⟨b6,0,none⟩=some (.int .i64 r.2.s)∧w'.cell? ⟨b6,1,none⟩=some (.int .i64 r.2.v)∧w'.there (L.gD t) (sk) 1∧w'.there (L.gD t) (vk) 1)) 18 rfl (by kernel_rfl) ?_ (fun hHeld=>?_)
    ·exact ⟨g0,g14,gs0,ga0,ga1,th1,th2⟩
    iterate 13 (refine tk 17 (by rfl) (by kernel_rfl) (by exact fun _ _ _ h=>h) (.inl ⟨by rfl,fun w hS=>by (try dsimp only at hS);go_simp;(try with_reducible rfl)⟩) (by assumption) ?_;try go_frame)
    iterate 2 (refine tk 18 (by rfl) (by kernel_rfl) (by exact fun _ _ _ h=>h) (.inl ⟨by rfl,fun w hS=>by (try dsimp only at hS);go_simp;(try with_reducible rfl)⟩) (by assumption) ?_;try go_frame)
    refine cT 13 (by rfl) (by kernel_rfl) (fun K hK=>?_);go_simp;refine (uC L.n k _ xV hn hk).mono ?_;rintro e w3 ⟨rfl,cP⟩;rw [aA7];go_wp2_with fail;refine hK.out _ _ ?_ (fun hHeld=>?_)
    ·exact ⟨aI cP hHeld.1,aI cP hHeld.2.1,aI cP hHeld.2.2.1,aI cP hHeld.2.2.2.1,aI cP hHeld.2.2.2.2.1,aU cP hHeld.2.2.2.2.2.1,aU cP hHeld.2.2.2.2.2.2⟩
    clear hK K
    (try go_frame)
    iterate 1 (refine tk 17 (by rfl) (by kernel_rfl) (by exact fun _ _ _ h=>h) (.inl ⟨by rfl,fun w hS=>by (try dsimp only at hS);go_simp;(try with_reducible rfl)⟩) (by assumption) ?_;try go_frame)
    refine cT 17 (by rfl) (by kernel_rfl) (fun K hK=>?_);rw [aJ (by rfl)];refine aY _ _ _ rfl (L.gD t) sk (.int .i64 r.2.s) rfl rfl rfl rfl hHeld.2.2.2.2.2.1 (by kernel_rfl) ?_;refine hK.out _ _ ?_ (fun hHeld=>?_)
    ·exact ⟨aH hHeld.1 (by dsimp only;omega),aH hHeld.2.1 (by dsimp only;omega),aH hHeld.2.2.1 (by dsimp only;omega),aH hHeld.2.2.2.1 (by dsimp only;omega),aH hHeld.2.2.2.2.1 (by dsimp only;omega),bA hHeld.2.2.2.2.2.1 _ rfl _,bA hHeld.2.2.2.2.2.2 _ rfl _⟩
    clear hK K
    (try go_frame)
    refine cC (by kernel_rfl) ?_ _;have hL3:=NB.out.next (aE.below NB.out.re (Below.dJ cP));have hL4:=hL3.next (aE.of (hL3.re.iG t ht sk r.2.s) (Fr.set w3 (vA ht) _) rfl);have HL4:=aA hL4;clear hL3 hL4 cP
    (try go_wp2_with fail)
    go_meet
    case rel=>exact ⟨rfl,HL4.out,hHeld.1,hHeld.2.1,hHeld.2.2.1,hHeld.2.2.2.2.1,hHeld.2.2.2.2.2.2⟩
   case rest =>
    obtain ⟨rfl,hL5,i0,i14,is0,ia1,ith⟩:=hcut;have WZ:=aA hL5;clear hL5 g0 g14 gs0 ga0 ga1 th1 th2;go_upto_region 4 with fail;refine fH (S:=(fun w'=>w'.cell? ⟨L.g,t*28,none⟩=some (.pointer (some ⟨L.bS,0,none⟩))∧w'.cell? ⟨L.g,t*28+14,none⟩=some (.slice (some ⟨L.gD t,0,none⟩) (M.bC L.n) (M.bC L.n))∧w'.cell? ⟨L.bS,0,none⟩=some (.int .i64 (L.n:Int))∧w'.cell? ⟨b6,1,none⟩=some (.int .i64 r.2.v)∧w'.there (L.gD t) (vk) 1)) 18 rfl (by kernel_rfl) ?_ (fun hHeld=>?_)
    ·exact ⟨i0,i14,is0,ia1,ith⟩
    iterate 13 (refine tk 17 (by rfl) (by kernel_rfl) (by exact fun _ _ _ h=>h) (.inl ⟨by rfl,fun w hS=>by (try dsimp only at hS);go_simp;(try with_reducible rfl)⟩) (by assumption) ?_;try go_frame)
    iterate 2 (refine tk 18 (by rfl) (by kernel_rfl) (by exact fun _ _ _ h=>h) (.inl ⟨by rfl,fun w hS=>by (try dsimp only at hS);go_simp;(try with_reducible rfl)⟩) (by assumption) ?_;try go_frame)
    refine cT 13 (by rfl) (by kernel_rfl) (fun K hK=>?_);go_simp;refine (wZ L.n k _ xV hn hk).mono ?_;rintro e w7 ⟨rfl,LK⟩;rw [aBc];go_wp2_with fail;refine hK.out _ _ ?_ (fun hHeld=>?_)
    ·exact ⟨aI LK hHeld.1,aI LK hHeld.2.1,aI LK hHeld.2.2.1,aI LK hHeld.2.2.2.1,aU LK hHeld.2.2.2.2⟩
    clear hK K
    (try go_frame)
    iterate 1 (refine tk 17 (by rfl) (by kernel_rfl) (by exact fun _ _ _ h=>h) (.inl ⟨by rfl,fun w hS=>by (try dsimp only at hS);go_simp;(try with_reducible rfl)⟩) (by assumption) ?_;try go_frame)
    refine cT 17 (by rfl) (by kernel_rfl) (fun K hK=>?_);rw [aJ (by rfl)];refine aY _ _ _ rfl (L.gD t) vk (.int .i64 r.2.v) rfl rfl rfl rfl hHeld.2.2.2.2 (by kernel_rfl) ?_;refine hK.out _ _ ?_ (fun hHeld=>?_)
    ·exact ⟨aH hHeld.1 (by dsimp only;omega),aH hHeld.2.1 (by dsimp only;omega),aH hHeld.2.2.1 (by dsimp only;omega),aH hHeld.2.2.2.1 (by dsimp only;omega),bA hHeld.2.2.2.2 _ rfl _⟩
    clear hK K
    (try go_frame)
    refine cC (by kernel_rfl) ?_ _;have hL7:=WZ.out.next (aE.below WZ.out.re (Below.dJ LK));have hL8:=hL7.next (aE.of (hL7.re.iG t ht vk r.2.v) (Fr.set w7 (vA ht) _) rfl);have HL8:=aA hL8;clear hL7 hL8 LK hHeld;go_wp2;refine cW (v:=.tuple #[]) (by simp [results,results230,results281,results355,go_sem]) rfl ⟨rfl,HL8.out.cast ?_⟩;simp only [cU,aC];unfold bU.apply;rw [HC.out.1];simp only [←nA.out,aA7,aBc]
theorem int.MF:JM int.SR @int.RE @int.aE @int.bG @int.SR.sz 230:=uJ.1
theorem list.MF:JM list.SR @list.RE @list.aE @list.bG @list.SR.sz 281:=uJ.2.1
theorem tree.MF:JM tree.SR @tree.RE @tree.aE @tree.bG @tree.SR.sz 355:=uJ.2.2
theorem row.MF {σ:Type} {R:SR σ} {L:Lt} {S:Nat→Prop} {E:bD σ} {w:World} {t:Nat} {P:M.Plain σ} {fA:Nat} {rv:Value} (hA:bG R P L fA rv) (h:RE R L S E w) (ht:t<L.n) {k:Nat} (hk:k<L.n) {v f:eX σ} (hv:(E.th t).now=some v) (hf:(E.th t).fD=some f) (hsz:R.sz v.st≤1000000000000) :
  Calls prog 318 #[.pointer (some ⟨L.g,t*30,none⟩),.int .i64 (k:Int)] w fun e w'=>e = .returned (.tuple #[])∧aE R L S w {E with th:=aM E.th t (bU.apply P L.n (E.th t) k)} w':=by
 obtain ⟨cv,cf,pv,hc,hcv,eP,-,hfz⟩:=h.cells ht rfl;have zM:=hcv.2 v hv;have hfr:=eP.2 f hf;obtain ⟨x0,x1,xl,rfl⟩:∃ x0 x1 l,cv=[x0,x1]++[l]:=by obtain ⟨c0,c1,c2,rfl⟩:=aF hcv.1;exact ⟨_,_,_,rfl⟩
 obtain ⟨y0,y1,y2,rfl⟩:=aF eP.1;have hn:=h.ok.n64;have xV:=h.ok.n1;have c0:w.cell? ⟨L.g,t*30,none⟩=some (.pointer (some ⟨L.bS,0,none⟩)):=hc 0 _ (by decide) rfl;have s1:w.cell? ⟨L.bS,1,none⟩=some (.iface L.oT L.ov):=h.sh.cell_of rfl;have xc0:=hc 15 _ (by decide) rfl;have xc1:=hc 16 _ (by decide) rfl;have hh0:=hc 23 _ (by decide) rfl;have hh1:=hc 24 _ (by decide) rfl;have hh2:=hc 25 _ (by decide) rfl;have aEV:=fun ob=>bO hh0 ob
 have aEW:=fun ob=>bO hh1 ob
 have aEX:=fun ob=>bO hh2 ob
 have HH:=aA h;have HV:=aA (aP zM hfr);have HC:=aA (aP hv hf);have HX:=aA (show ∀ j,j<2*(2+1)→w.cell? ⟨L.g,t*30+(15+j),none⟩=(([x0,x1]++[xl])++[y0,y1,y2])[j]? from fun j hj=>by
  have q:=mK (L:=L) (t:=t) (E.th t) ([x0,x1]++[xl]) [y0,y1,y2] pv hcv.1 eP.1 j hj;obtain ⟨u,hu⟩:∃ u,(([x0,x1]++[xl])++[y0,y1,y2])[j]?=some u:=⟨_,eT (by simp;omega)⟩;rw [hu] at q ⊢;exact hc (15+j) u (by omega) q)
 clear h hc hcv eP zM hfr hfz hv hf;go_enter func318,ntmps318;go_wp2
 go_region
 generalize sZ:World.drew _=W1;have eN:Below w.heap.size w W1:=by rw [←sZ];exact dU (aB w _)
 have hro:Row W1 w.heap.size 36 [.int .i64 ((E.th t).heard 0),.int .i64 ((E.th t).heard 1),.int .i64 ((E.th t).heard 2)]:=by rw [←sZ];exact dH w [_,_,_] _
 have o0:W1.cell? ⟨w.heap.size,0,none⟩=some (.int .i64 ((E.th t).heard 0)):=hro.cell_of rfl;have o1:W1.cell? ⟨w.heap.size,1,none⟩=some (.int .i64 ((E.th t).heard 1)):=hro.cell_of rfl;have o2:W1.cell? ⟨w.heap.size,2,none⟩=some (.int .i64 ((E.th t).heard 2)):=hro.cell_of rfl;have e0:=aI eN c0;have e1:=aI eN s1;have xe0:=aI eN xc0;have xe1:=aI eN xc1;have aA4:R.rep (fun k=>S k∧¬L.own k) w v.st [x0,x1]:=by
  obtain ⟨sc,b,hsc,hr,-⟩:=HV.out.1;have:sc=[x0,x1]:=(List.append_inj' hsc rfl).1.symm;rw [←this];exact hr
 have ux:∀ k,(S k∧¬L.own k)→k<w.heap.size:=fun k hk=>HH.out.lt k hk.1
 obtain ⟨r,hr⟩:∃ r,r=P.apply v.st (M.gW (E.th t).heard):=⟨_,rfl⟩;have zi:=aA (fun (W:World) (hW:Below w.heap.size w W)=>hA.ap (fun k=>S k∧¬L.own k) W v.st x0 x1 (M.gW (E.th t).heard) (R.stay (fun k hk hlt=>⟨hk,hW.block k hlt⟩) aA4) hsz (fun k hk=>cH (ux k hk) hW.size));rw [←hr] at zi;have nA:=aA hr;have hm:=hA.m;have hcl:=hA.c;have uL:L.g<w.heap.size:=HH.out.lt _ (HH.out.ow _ pI);have hSl:L.bS<w.heap.size:=HH.out.lt _ (HH.out.ow _ jd);have aLi:w.heap.size<W1.heap.size:=hro.lt;clear sZ hro aA4 hh0 hh1 hh2 aEV aEW aEX c0 s1 xc0 xc1 hr;go_upto_region 1 with fail
 go_cut [5,6] (fun st an w'=>∃ (y0 y1:Value) (b5 b6:Nat),st = .pointer (some ⟨b5,0,none⟩)∧an = .pointer (some ⟨b6,0,none⟩)∧Row w' b6 94 [.int .i64 r.2.s,.int .i64 r.2.v]∧Below w.heap.size w w'∧w.heap.size≤b6∧R.rep (fun k=>(S k∧¬L.own k)∨(w.heap.size≤k∧k<w'.heap.size)) w' r.1 [y0,y1]∧Row w' b5 146 [y0,y1])
 case first =>
  refine aMM (S:=(fun w'=>Below w.heap.size w w'∧w'.cell? ⟨L.g,t*30,none⟩=some (.pointer (some ⟨L.bS,0,none⟩))∧w'.cell? ⟨L.bS,1,none⟩=some (.iface L.oT L.ov)∧w'.cell? ⟨L.g,t*30+15,none⟩=some x0∧w'.cell? ⟨L.g,t*30+16,none⟩=some x1∧w'.cell? ⟨w.heap.size,0,none⟩=some (.int .i64 ((E.th t).heard 0))∧w'.cell? ⟨w.heap.size,1,none⟩=some (.int .i64 ((E.th t).heard 1))∧w'.cell? ⟨w.heap.size,2,none⟩=some (.int .i64 ((E.th t).heard 2)))) 25 rfl (by kernel_rfl) ?_ (fun Wd hWd hHeld=>?_)
  ·exact ⟨dU eN,e0,e1,xe0,xe1,o0,o1,o2⟩
  have zd1:Wd.heap.size≤W1.heap.size:=by rw [hWd];exact bQ _
  have zd2:W1.heap.size≤Wd.heap.size:=by rw [hWd];exact bQ _
  clear hWd
  repeat' first
   |(
    (first|refine ZY [17,21,22,23,24] 22 (by rfl) (by decide +kernel) ?_|refine ZY [17,21,22,23,24] 23 (by rfl) (by decide +kernel) ?_|refine ZY [17,21,22,23,24] 24 (by rfl) (by decide +kernel) ?_)
    refine ⟨_,by exact fun _ _ _ h=>h,.inl ⟨by rfl,fun w hS=>by (try dsimp only at hS);go_simp;(try with_reducible rfl)⟩,by assumption,?_⟩
    (try go_frame)
    )
   |(
    (first|refine pF 22 (by rfl) (by decide +kernel) (fun K hK PY=>?_)|refine pF 23 (by rfl) (by decide +kernel) (fun K hK PY=>?_)|refine pF 24 (by rfl) (by decide +kernel) (fun K hK PY=>?_)|refine pF 21 (by rfl) (by decide +kernel) (fun K hK PY=>?_)|refine pF 17 (by rfl) (by decide +kernel) (fun K hK PY=>?_)|refine fC (rs:=[17,21,22]) (by decide +kernel) (by simp) (JF (by rfl) (fun K hK PY=>?_) (JF (by rfl) (fun K hK PY=>?_) (JF (by rfl) (fun K hK PY=>?_) AllReadyH.nil)))|refine fC (rs:=[21,22]) (by decide +kernel) (by simp) (JF (by rfl) (fun K hK PY=>?_) (JF (by rfl) (fun K hK PY=>?_) AllReadyH.nil))|refine fC (rs:=[17,22]) (by decide +kernel) (by simp) (JF (by rfl) (fun K hK PY=>?_) (JF (by rfl) (fun K hK PY=>?_) AllReadyH.nil))|refine fC (rs:=[17,21]) (by decide +kernel) (by simp) (JF (by rfl) (fun K hK PY=>?_) (JF (by rfl) (fun K hK PY=>?_) AllReadyH.nil)))
    all_goals first
     |(
      have _:On 17:=PY;go_simp;have zc:=hHeld.1.size;refine (zi.out _ hHeld.1).mono ?_;rintro e w2 ⟨z0,z1,rfl,hz,bI⟩;obtain ⟨q0,rfl⟩:=R.shape hz z0 (by simp);obtain ⟨q1,rfl⟩:=R.shape hz z1 (by simp);have z2:=bI.size
      (try replace r5:=r5.old bI)
      (try replace r6:=r6.old bI)
      go_wp2_with fail;refine hK.out _ _ ?_ (fun hHeld=>?_)
      ·exact zW bI hHeld
      clear hK K PY
      (try go_frame)
      )
     |(
      have _:On 21:=PY;go_simp;have l5:=hHeld.1.size;generalize hA5:World.alloc _ _=W5;have r5:=GQ (xs:=[.pointer none,.pointer none]) hA5;have bl5:=AQ hA5;have z5:=bl5.size;have x5:=r5.lt
      (try replace r6:=r6.old bl5)
      (try replace hz:=R.stay (fun k hk hlt=>⟨hk,bl5.block k hlt⟩) hz)
      clear hA5;refine hK.out _ _ ?_ (fun hHeld=>?_)
      ·exact zW bl5 hHeld
      clear hK K PY
      (try go_frame)
      )
     |(
      have _:On 22:=PY;go_simp;have l6:=hHeld.1.size;generalize hA6:World.alloc _ _=W6;have r6:=GQ (xs:=[.int .i64 0,.int .i64 0]) hA6;have bl6:=AQ hA6;have z6:=bl6.size;have x6:=r6.lt
      (try replace r5:=r5.old bl6)
      (try replace hz:=R.stay (fun k hk hlt=>⟨hk,bl6.block k hlt⟩) hz)
      clear hA6;refine hK.out _ _ ?_ (fun hHeld=>?_)
      ·exact zW bl6 hHeld
      clear hK K PY
      (try go_frame)
      )
     |(
      have _:On 23:=PY;rw [aJ (by rfl)];refine nK _ _ _ rfl _ 0 #[.pointer q0,.pointer q1] rfl rfl (r5.there (by simp)) (by kernel_rfl) (by simp [Value.oneCell']) ?_;have aLc:=aBh r5 [.pointer q0,.pointer q1] (by omega) (by omega) (by omega) (by omega) hHeld;replace hz:=aDU r5 hz ux (by omega) (by omega) [.pointer q0,.pointer q1];replace r6:=Row.fU (Row.apart r6 r5 (by decide)) [.pointer q0,.pointer q1] 0 r6;replace r5:=Row.aIi r5 (x:=.pointer q0) (y:=.pointer q1);refine hK.out _ _ ?_ (fun hHeld=>?_)
      ·exact aLc
      clear hK K PY
      (try go_frame)
      )
     |(
      rw [aJ (by rfl)];refine nK _ _ _ rfl _ 0 #[.int .i64 r.2.s,.int .i64 r.2.v] rfl rfl (r6.there (by simp)) (by kernel_rfl) (by simp [Value.oneCell']) ?_;have aLd:=aBh r6 [.int .i64 r.2.s,.int .i64 r.2.v] (by omega) (by omega) (by omega) (by omega) hHeld;replace hz:=aDU r6 hz ux (by omega) (by omega) [.int .i64 r.2.s,.int .i64 r.2.v];replace r5:=Row.fU (Row.apart r5 r6 (by decide)) [.int .i64 r.2.s,.int .i64 r.2.v] 0 r5;replace r6:=Row.aIi r6 (x:=.int .i64 r.2.s) (y:=.int .i64 r.2.v);refine hK.out _ _ ?_ (fun hHeld=>?_)
      ·exact aLd
      clear hK K PY
      (try go_frame)
      )
    )
   |(
    refine cC (by decide +kernel) ?_ _;have zf:=hHeld.1.size
    (try go_wp2_with fail)
    go_meet
    case rel=>exact ⟨.pointer q0,.pointer q1,_,_,rfl,rfl,r6,hHeld.1,by omega,R.stay (fun k hk _=>⟨(by
      rcases hk with hk|hk
      ·exact .inl hk
      ·exact .inr ⟨by omega,cH hk.2 (by rw [JY,JY];omega)⟩),rfl⟩) hz,r5⟩
    )
 case rest =>
  obtain ⟨z0,z1,b5,b6,rfl,rfl,hr6,hbc,h6,QM,GD⟩:=hcut;obtain ⟨q0,rfl⟩:=R.shape QM z0 (by simp);obtain ⟨q1,rfl⟩:=R.shape QM z1 (by simp);have hst:∀ k,(S k∧¬L.own k)→k<w.heap.size→(grown S w wc k∧¬L.own k)∧wc.heap[k]?=w.heap[k]?:=fun k hk hlt=>⟨⟨.inl hk.1,hk.2⟩,hbc.block k hlt⟩
  have rp1:R.rep (fun k=>grown S w wc k∧¬L.own k) wc r.1 [.pointer q0,.pointer q1]:=R.stay (fun k (hk:(S k∧¬L.own k)∨(w.heap.size≤k∧k<wc.heap.size)) _=>⟨by
   rcases hk with hk|hk
   ·exact ⟨.inl hk.1,hk.2⟩
   ·exact ⟨.inr hk,fun q=>by have:=HH.out.lt _ (HH.out.ow _ q);omega⟩,rfl⟩) QM
  have vr:bH R (fun k=>grown S w wc k∧¬L.own k) wc {v with st:=r.1} ([.pointer q0,.pointer q1]++[xl]):=by
   obtain ⟨sc,b,hsc,-,LM⟩:=HV.out.1;have e:=(List.append_inj' hsc rfl).2;exact ⟨[.pointer q0,.pointer q1],b,by rw [e],rp1,dX.stay hst ux _ _ LM⟩
  have fr:=bH.stay hst ux HV.out.2;have hLc:=aE.below HH.out hbc;obtain ⟨r2,k2⟩:=hLc.re.mJ ht [.pointer q0,.pointer q1] 0 (by simp) (by simp) vr fr (fun j hj=>by
   by_cases q:j<2
   ·rw [aJ ⟨aW _,by simpa using q⟩,BL,pP (by simpa using q)]
    rfl
   ·rw [aN (by simpa using q),hbc.cell (p:=⟨L.g,t*30+(15+j),none⟩) uL,HX.out j hj]
    exact MY (c:=2) [x0,x1] [.pointer q0,.pointer q1] [xl] [y0,y1,y2] rfl rfl (by omega)) {E.th t with now:=some {v with st:=r.1}} (by rw [←HC.out.2])
  have JS:=hLc.next (aE.of r2 k2 rfl);obtain ⟨cv5,cf5,pv5,ve,OD,OC,-,sP⟩:=hLc.re.cells ht rfl;obtain ⟨c0,c1,c2,rfl⟩:=aF OD.1;obtain ⟨d0,d1,d2,rfl⟩:=aF OC.1;have oc0:=ve 15 _ (by decide) rfl;have of0:=sP (t*30+15);have oc1:=ve 16 _ (by decide) rfl;have of1:=sP (t*30+16);have NB:=aA JS;have HR6:=aA (aP hr6 h6);have HBC:=aA hbc;have s50:=GD.cell_of (i:=0) rfl;have s51:=GD.cell_of (i:=1) rfl;clear GD;clear hst rp1 vr fr hLc r2 k2 JS ve OD OC sP hr6 QM hbc hm hcl;go_upto_region 3 with fail;generalize jB:World.setCell _ _ _=W2;have JS:aE R L S w {E with th:=aM E.th t {E.th t with now:=some {v with st:=r.1}}} W2:=by rw [←jB];exact NB.out
  have BA:Row W2 b6 94 [.int .i64 r.2.s,.int .i64 r.2.v]:=by rw [←jB];exact (show Row (wc.setCells L.g (t*30+(15+0)) [.pointer q0,.pointer q1]) b6 94 _ from Row.fU (by omega) _ _ HR6.out.1)
  clear jB NB;obtain ⟨cv6,cf6,pv6,hc6,-,-,-,-⟩:=JS.re.cells ht (aC _ _ _);have g0:W2.cell? ⟨L.g,t*30,none⟩=some (.pointer (some ⟨L.bS,0,none⟩)):=hc6 0 _ (by decide) rfl;have g14:=hc6 14 _ (by decide) rfl;have gs0:W2.cell? ⟨L.bS,0,none⟩=some (.int .i64 (L.n:Int)):=JS.re.sh.cell_of rfl;have ga0:W2.cell? ⟨b6,0,none⟩=some (.int .i64 r.2.s):=BA.cell_of rfl;have ga1:W2.cell? ⟨b6,1,none⟩=some (.int .i64 r.2.v):=BA.cell_of rfl;have hsk:M.aL L.n k<M.bC L.n:=by unfold M.aL M.bC;omega
  have hvk:M.aQ L.n k<M.bC L.n:=by unfold M.aQ M.bC;omega
  have RU:M.bC L.n≤200:=by unfold M.bC M.tw;omega
  have th1:W2.there (L.gD t) (M.aL L.n k) 1:=(JS.re.gd t ht).there hsk;have th2:W2.there (L.gD t) (M.aQ L.n k) 1:=(JS.re.gd t ht).there hvk;have ngD:L.g≠L.gD t:=by obtain ⟨T,q,-⟩:=HH.out.th;exact Row.apart q (HH.out.gd t ht) (by decide)
  have nSD:L.bS≠L.gD t:=Row.apart HH.out.sh (HH.out.gd t ht) (by decide);have n6D:b6≠L.gD t:=fun q=>by have:=HH.out.lt _ (HH.out.ow _ (vA ht));have:=HR6.out.2;omega
  have NB:=aA JS;generalize aA7:M.aL L.n k=sk at *;generalize aBc:M.aQ L.n k=vk at *;have aMa:(sk:Int)<(M.bC L.n:Int):=by omega
  have aMh:(vk:Int)<(M.bC L.n:Int):=by omega
  clear JS BA hc6
  go_cut [6] (fun an w'=>an = .pointer (some ⟨b6,0,none⟩)∧aE R L S w {E with th:=aM (aM E.th t {E.th t with now:=some {v with st:=r.1}}) t {(aM E.th t {E.th t with now:=some {v with st:=r.1}}) t with dw:=aM ((aM E.th t {E.th t with now:=some {v with st:=r.1}}) t).dw sk r.2.s}} w'∧w'.cell? ⟨L.g,t*30,none⟩=some (.pointer (some ⟨L.bS,0,none⟩))∧w'.cell? ⟨L.g,t*30+14,none⟩=some (.slice (some ⟨L.gD t,0,none⟩) (M.bC L.n) (M.bC L.n))∧w'.cell? ⟨L.bS,0,none⟩=some (.int .i64 (L.n:Int))∧w'.cell? ⟨b6,1,none⟩=some (.int .i64 r.2.v)∧w'.there (L.gD t) vk 1)
  case first =>
   refine fH (S:=(fun w'=>w'.cell? ⟨L.g,t*30,none⟩=some (.pointer (some ⟨L.bS,0,none⟩))∧w'.cell? ⟨L.g,t*30+14,none⟩=some (.slice (some ⟨L.gD t,0,none⟩) (M.bC L.n) (M.bC L.n))∧w'.cell? ⟨L.bS,0,none⟩=some (.int .i64 (L.n:Int))∧w'.cell? ⟨b6,0,none⟩=some (.int .i64 r.2.s)∧w'.cell? ⟨b6,1,none⟩=some (.int .i64 r.2.v)∧w'.there (L.gD t) (sk) 1∧w'.there (L.gD t) (vk) 1)) 18 rfl (by kernel_rfl) ?_ (fun hHeld=>?_)
   ·exact ⟨g0,g14,gs0,ga0,ga1,th1,th2⟩
   iterate 13 (refine tk 17 (by rfl) (by kernel_rfl) (by exact fun _ _ _ h=>h) (.inl ⟨by rfl,fun w hS=>by (try dsimp only at hS);go_simp;(try with_reducible rfl)⟩) (by assumption) ?_;try go_frame)
   iterate 2 (refine tk 18 (by rfl) (by kernel_rfl) (by exact fun _ _ _ h=>h) (.inl ⟨by rfl,fun w hS=>by (try dsimp only at hS);go_simp;(try with_reducible rfl)⟩) (by assumption) ?_;try go_frame)
   refine cT 13 (by rfl) (by kernel_rfl) (fun K hK=>?_);go_simp;refine (uC L.n k _ xV hn hk).mono ?_;rintro e w3 ⟨rfl,cP⟩;rw [aA7];go_wp2_with fail;refine hK.out _ _ ?_ (fun hHeld=>?_)
   ·exact ⟨aI cP hHeld.1,aI cP hHeld.2.1,aI cP hHeld.2.2.1,aI cP hHeld.2.2.2.1,aI cP hHeld.2.2.2.2.1,aU cP hHeld.2.2.2.2.2.1,aU cP hHeld.2.2.2.2.2.2⟩
   clear hK K
   (try go_frame)
   iterate 1 (refine tk 17 (by rfl) (by kernel_rfl) (by exact fun _ _ _ h=>h) (.inl ⟨by rfl,fun w hS=>by (try dsimp only at hS);go_simp;(try with_reducible rfl)⟩) (by assumption) ?_;try go_frame)
   refine cT 17 (by rfl) (by kernel_rfl) (fun K hK=>?_);rw [aJ (by rfl)];refine aY _ _ _ rfl (L.gD t) sk (.int .i64 r.2.s) rfl rfl rfl rfl hHeld.2.2.2.2.2.1 (by kernel_rfl) ?_;refine hK.out _ _ ?_ (fun hHeld=>?_)
   ·exact ⟨aH hHeld.1 (by dsimp only;omega),aH hHeld.2.1 (by dsimp only;omega),aH hHeld.2.2.1 (by dsimp only;omega),aH hHeld.2.2.2.1 (by dsimp only;omega),aH hHeld.2.2.2.2.1 (by dsimp only;omega),bA hHeld.2.2.2.2.2.1 _ rfl _,bA hHeld.2.2.2.2.2.2 _ rfl _⟩
   clear hK K
   (try go_frame)
   refine cC (by kernel_rfl) ?_ _;have hL3:=NB.out.next (aE.below NB.out.re (Below.dJ cP));have hL4:=hL3.next (aE.of (hL3.re.iG t ht sk r.2.s) (Fr.set w3 (vA ht) _) rfl);have HL4:=aA hL4;clear hL3 hL4 cP
   (try go_wp2_with fail)
   go_meet
   case rel=>exact ⟨rfl,HL4.out,hHeld.1,hHeld.2.1,hHeld.2.2.1,hHeld.2.2.2.2.1,hHeld.2.2.2.2.2.2⟩
  case rest =>
   obtain ⟨rfl,hL5,i0,i14,is0,ia1,ith⟩:=hcut;have WZ:=aA hL5;clear hL5 g0 g14 gs0 ga0 ga1 th1 th2;go_upto_region 4 with fail;refine fH (S:=(fun w'=>w'.cell? ⟨L.g,t*30,none⟩=some (.pointer (some ⟨L.bS,0,none⟩))∧w'.cell? ⟨L.g,t*30+14,none⟩=some (.slice (some ⟨L.gD t,0,none⟩) (M.bC L.n) (M.bC L.n))∧w'.cell? ⟨L.bS,0,none⟩=some (.int .i64 (L.n:Int))∧w'.cell? ⟨b6,1,none⟩=some (.int .i64 r.2.v)∧w'.there (L.gD t) (vk) 1)) 18 rfl (by kernel_rfl) ?_ (fun hHeld=>?_)
   ·exact ⟨i0,i14,is0,ia1,ith⟩
   iterate 13 (refine tk 17 (by rfl) (by kernel_rfl) (by exact fun _ _ _ h=>h) (.inl ⟨by rfl,fun w hS=>by (try dsimp only at hS);go_simp;(try with_reducible rfl)⟩) (by assumption) ?_;try go_frame)
   iterate 2 (refine tk 18 (by rfl) (by kernel_rfl) (by exact fun _ _ _ h=>h) (.inl ⟨by rfl,fun w hS=>by (try dsimp only at hS);go_simp;(try with_reducible rfl)⟩) (by assumption) ?_;try go_frame)
   refine cT 13 (by rfl) (by kernel_rfl) (fun K hK=>?_);go_simp;refine (wZ L.n k _ xV hn hk).mono ?_;rintro e w7 ⟨rfl,LK⟩;rw [aBc];go_wp2_with fail;refine hK.out _ _ ?_ (fun hHeld=>?_)
   ·exact ⟨aI LK hHeld.1,aI LK hHeld.2.1,aI LK hHeld.2.2.1,aI LK hHeld.2.2.2.1,aU LK hHeld.2.2.2.2⟩
   clear hK K
   (try go_frame)
   iterate 1 (refine tk 17 (by rfl) (by kernel_rfl) (by exact fun _ _ _ h=>h) (.inl ⟨by rfl,fun w hS=>by (try dsimp only at hS);go_simp;(try with_reducible rfl)⟩) (by assumption) ?_;try go_frame)
   refine cT 17 (by rfl) (by kernel_rfl) (fun K hK=>?_);rw [aJ (by rfl)];refine aY _ _ _ rfl (L.gD t) vk (.int .i64 r.2.v) rfl rfl rfl rfl hHeld.2.2.2.2 (by kernel_rfl) ?_;refine hK.out _ _ ?_ (fun hHeld=>?_)
   ·exact ⟨aH hHeld.1 (by dsimp only;omega),aH hHeld.2.1 (by dsimp only;omega),aH hHeld.2.2.1 (by dsimp only;omega),aH hHeld.2.2.2.1 (by dsimp only;omega),bA hHeld.2.2.2.2 _ rfl _⟩
   clear hK K
   (try go_frame)
   refine cC (by kernel_rfl) ?_ _;have hL7:=WZ.out.next (aE.below WZ.out.re (Below.dJ LK));have hL8:=hL7.next (aE.of (hL7.re.iG t ht vk r.2.v) (Fr.set w7 (vA ht) _) rfl);have HL8:=aA hL8;clear hL7 hL8 LK hHeld;go_wp2;refine cW (v:=.tuple #[]) (by simp [results,results318,go_sem]) rfl ⟨rfl,HL8.out.cast ?_⟩;simp only [cU,aC];unfold bU.apply;rw [HC.out.1];simp only [←nA.out,aA7,aBc]
end Go.Proofs.YtefjhnhdagolhaaGreat
