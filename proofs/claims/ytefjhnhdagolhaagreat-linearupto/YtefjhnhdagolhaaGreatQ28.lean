import Derived.Test.YtefjhnhdagolhaaGreatQ17
import Derived.Test.YtefjhnhdagolhaaGreatQ27
set_option maxHeartbeats 16000000
set_option maxRecDepth 20000
namespace Go.Proofs.YtefjhnhdagolhaaGreat
open int list tree
open Go.RowKit
open M (aI aC aD Op cY aS aK aQ aL aN)
attribute [local go_sem ↓] Go.wp_at_zero Go.wp_at_succ
theorem int.fU {w W W2:World} {b1 b2 o1 o2 b3:Nat} {u1 u2 u3 u4 u5 v0:Value} (hb:Below W.heap.size W W2) (h:Below w.heap.size w W∧W.cell? ⟨b1,o1,none⟩=some u1∧W.cell? ⟨b2,o2,none⟩=some u2∧W.cell? ⟨b1,o1+15,none⟩=some v0∧W.cell? ⟨b3,0,none⟩=some u3∧W.cell? ⟨b3,1,none⟩=some u4∧W.cell? ⟨b3,2,none⟩=some u5) :
  Below w.heap.size w W2∧W2.cell? ⟨b1,o1,none⟩=some u1∧W2.cell? ⟨b2,o2,none⟩=some u2∧W2.cell? ⟨b1,o1+15,none⟩=some v0∧W2.cell? ⟨b3,0,none⟩=some u3∧W2.cell? ⟨b3,1,none⟩=some u4∧W2.cell? ⟨b3,2,none⟩=some u5:=by
 obtain ⟨h0,h1,h2,k0,h3,h4,h5⟩:=h
 exact ⟨Below.next h0 hb h0.size,cell_later hb h1,cell_later hb h2,cell_later hb k0,cell_later hb h3,cell_later hb h4,cell_later hb h5⟩
theorem list.fU {w W W2:World} {b1 b2 o1 o2 b3:Nat} {u1 u2 u3 u4 u5 v0:Value} (hb:Below W.heap.size W W2) (h:Below w.heap.size w W∧W.cell? ⟨b1,o1,none⟩=some u1∧W.cell? ⟨b2,o2,none⟩=some u2∧W.cell? ⟨b1,o1+15,none⟩=some v0∧W.cell? ⟨b3,0,none⟩=some u3∧W.cell? ⟨b3,1,none⟩=some u4∧W.cell? ⟨b3,2,none⟩=some u5) :
  Below w.heap.size w W2∧W2.cell? ⟨b1,o1,none⟩=some u1∧W2.cell? ⟨b2,o2,none⟩=some u2∧W2.cell? ⟨b1,o1+15,none⟩=some v0∧W2.cell? ⟨b3,0,none⟩=some u3∧W2.cell? ⟨b3,1,none⟩=some u4∧W2.cell? ⟨b3,2,none⟩=some u5:=by
 obtain ⟨h0,h1,h2,k0,h3,h4,h5⟩:=h
 exact ⟨Below.next h0 hb h0.size,cell_later hb h1,cell_later hb h2,cell_later hb k0,cell_later hb h3,cell_later hb h4,cell_later hb h5⟩
theorem tree.fU {w W W2:World} {b1 b2 o1 o2 b3:Nat} {u1 u2 u3 u4 u5 v0:Value} (hb:Below W.heap.size W W2) (h:Below w.heap.size w W∧W.cell? ⟨b1,o1,none⟩=some u1∧W.cell? ⟨b2,o2,none⟩=some u2∧W.cell? ⟨b1,o1+15,none⟩=some v0∧W.cell? ⟨b3,0,none⟩=some u3∧W.cell? ⟨b3,1,none⟩=some u4∧W.cell? ⟨b3,2,none⟩=some u5) :
  Below w.heap.size w W2∧W2.cell? ⟨b1,o1,none⟩=some u1∧W2.cell? ⟨b2,o2,none⟩=some u2∧W2.cell? ⟨b1,o1+15,none⟩=some v0∧W2.cell? ⟨b3,0,none⟩=some u3∧W2.cell? ⟨b3,1,none⟩=some u4∧W2.cell? ⟨b3,2,none⟩=some u5:=by
 obtain ⟨h0,h1,h2,k0,h3,h4,h5⟩:=h
 exact ⟨Below.next h0 hb h0.size,cell_later hb h1,cell_later hb h2,cell_later hb k0,cell_later hb h3,cell_later hb h4,cell_later hb h5⟩
theorem row.fU {w W W2:World} {b1 b2 o1 o2 b3:Nat} {u1 u2 u3 u4 u5 v0 v1:Value} (hb:Below W.heap.size W W2) (h:Below w.heap.size w W∧W.cell? ⟨b1,o1,none⟩=some u1∧W.cell? ⟨b2,o2,none⟩=some u2∧W.cell? ⟨b1,o1+15,none⟩=some v0∧W.cell? ⟨b1,o1+16,none⟩=some v1∧W.cell? ⟨b3,0,none⟩=some u3∧W.cell? ⟨b3,1,none⟩=some u4∧W.cell? ⟨b3,2,none⟩=some u5) :
  Below w.heap.size w W2∧W2.cell? ⟨b1,o1,none⟩=some u1∧W2.cell? ⟨b2,o2,none⟩=some u2∧W2.cell? ⟨b1,o1+15,none⟩=some v0∧W2.cell? ⟨b1,o1+16,none⟩=some v1∧W2.cell? ⟨b3,0,none⟩=some u3∧W2.cell? ⟨b3,1,none⟩=some u4∧W2.cell? ⟨b3,2,none⟩=some u5:=by
 obtain ⟨h0,h1,h2,k0,k1,h3,h4,h5⟩:=h
 exact ⟨Below.next h0 hb h0.size,cell_later hb h1,cell_later hb h2,cell_later hb k0,cell_later hb k1,cell_later hb h3,cell_later hb h4,cell_later hb h5⟩
theorem int.SB {σ:Type} {R:SR σ} {I:Nat→Prop} {w W w2 w3:World} {b6:Nat} {s:σ} {c:List Value} (hz:R.rep (fun k=>I k∨(W.heap.size≤k∧k<w2.heap.size)) w2 s c) (hI:∀ k,I k→k<w.heap.size) (hwW:w.heap.size≤W.heap.size) (LA:w.heap.size≤b6) (hbb:b6<W.heap.size∨w2.heap.size≤b6)
  (h3:∀ k,k<w2.heap.size→k≠b6→w3.heap[k]?=w2.heap[k]?) (hs:w2.heap.size≤w3.heap.size):R.rep (fun k=>I k∨(w.heap.size≤k∧k<w3.heap.size)) w3 s c:=by
 refine R.stay (fun k hk hlt=>?_) hz
 rcases hk with hk|hk
 ·have:=hI k hk
  exact ⟨.inl hk,h3 k hlt (by omega)⟩
 ·exact ⟨.inr ⟨by omega,by omega⟩,h3 k hlt (by omega)⟩
theorem list.SB {σ:Type} {R:SR σ} {I:Nat→Prop} {w W w2 w3:World} {b6:Nat} {s:σ} {c:List Value} (hz:R.rep (fun k=>I k∨(W.heap.size≤k∧k<w2.heap.size)) w2 s c) (hI:∀ k,I k→k<w.heap.size) (hwW:w.heap.size≤W.heap.size) (LA:w.heap.size≤b6) (hbb:b6<W.heap.size∨w2.heap.size≤b6)
  (h3:∀ k,k<w2.heap.size→k≠b6→w3.heap[k]?=w2.heap[k]?) (hs:w2.heap.size≤w3.heap.size):R.rep (fun k=>I k∨(w.heap.size≤k∧k<w3.heap.size)) w3 s c:=by
 refine R.stay (fun k hk hlt=>?_) hz
 rcases hk with hk|hk
 ·have:=hI k hk
  exact ⟨.inl hk,h3 k hlt (by omega)⟩
 ·exact ⟨.inr ⟨by omega,by omega⟩,h3 k hlt (by omega)⟩
theorem tree.SB {σ:Type} {R:SR σ} {I:Nat→Prop} {w W w2 w3:World} {b6:Nat} {s:σ} {c:List Value} (hz:R.rep (fun k=>I k∨(W.heap.size≤k∧k<w2.heap.size)) w2 s c) (hI:∀ k,I k→k<w.heap.size) (hwW:w.heap.size≤W.heap.size) (LA:w.heap.size≤b6) (hbb:b6<W.heap.size∨w2.heap.size≤b6)
  (h3:∀ k,k<w2.heap.size→k≠b6→w3.heap[k]?=w2.heap[k]?) (hs:w2.heap.size≤w3.heap.size):R.rep (fun k=>I k∨(w.heap.size≤k∧k<w3.heap.size)) w3 s c:=by
 refine R.stay (fun k hk hlt=>?_) hz
 rcases hk with hk|hk
 ·have:=hI k hk
  exact ⟨.inl hk,h3 k hlt (by omega)⟩
 ·exact ⟨.inr ⟨by omega,by omega⟩,h3 k hlt (by omega)⟩
theorem int.NY {w W:World} {b1 b2 o1 o2 b3 b6:Nat} {u1 u2 u3 u4 u5 v0:Value} (vs:List Value) (q6:w.heap.size≤b6) (q1:b1<b6) (q2:b2<b6) (q3:b3<b6) (h:Below w.heap.size w W∧W.cell? ⟨b1,o1,none⟩=some u1∧W.cell? ⟨b2,o2,none⟩=some u2∧W.cell? ⟨b1,o1+15,none⟩=some v0∧W.cell? ⟨b3,0,none⟩=some u3∧W.cell? ⟨b3,1,none⟩=some u4∧W.cell? ⟨b3,2,none⟩=some u5) :
  Below w.heap.size w (W.setCells b6 0 vs)∧(W.setCells b6 0 vs).cell? ⟨b1,o1,none⟩=some u1∧(W.setCells b6 0 vs).cell? ⟨b2,o2,none⟩=some u2∧(W.setCells b6 0 vs).cell? ⟨b1,o1+15,none⟩=some v0∧(W.setCells b6 0 vs).cell? ⟨b3,0,none⟩=some u3∧(W.setCells b6 0 vs).cell? ⟨b3,1,none⟩=some u4∧(W.setCells b6 0 vs).cell? ⟨b3,2,none⟩=some u5:=by
 obtain ⟨h0,h1,h2,k0,h3,h4,h5⟩:=h
 have out:∀ {b o:Nat} {u:Value},b<b6→W.cell? ⟨b,o,none⟩=some u→(W.setCells b6 0 vs).cell? ⟨b,o,none⟩=some u:=fun hb hu=>by
  rw [World.cell?_setCells_out b6 vs 0 W _ (fun q _=>by dsimp only at q;omega)]
  exact hu
 exact ⟨eI q6 vs 0 W h0,out q1 h1,out q2 h2,out q1 k0,out q3 h3,out q3 h4,out q3 h5⟩
theorem row.NY {w W:World} {b1 b2 o1 o2 b3 b6:Nat} {u1 u2 u3 u4 u5 v0 v1:Value} (vs:List Value) (q6:w.heap.size≤b6) (q1:b1<b6) (q2:b2<b6) (q3:b3<b6) (h:Below w.heap.size w W∧W.cell? ⟨b1,o1,none⟩=some u1∧W.cell? ⟨b2,o2,none⟩=some u2∧W.cell? ⟨b1,o1+15,none⟩=some v0∧W.cell? ⟨b1,o1+16,none⟩=some v1∧W.cell? ⟨b3,0,none⟩=some u3∧W.cell? ⟨b3,1,none⟩=some u4∧W.cell? ⟨b3,2,none⟩=some u5) :
  Below w.heap.size w (W.setCells b6 0 vs)∧(W.setCells b6 0 vs).cell? ⟨b1,o1,none⟩=some u1∧(W.setCells b6 0 vs).cell? ⟨b2,o2,none⟩=some u2∧(W.setCells b6 0 vs).cell? ⟨b1,o1+15,none⟩=some v0∧(W.setCells b6 0 vs).cell? ⟨b1,o1+16,none⟩=some v1∧(W.setCells b6 0 vs).cell? ⟨b3,0,none⟩=some u3∧(W.setCells b6 0 vs).cell? ⟨b3,1,none⟩=some u4∧(W.setCells b6 0 vs).cell? ⟨b3,2,none⟩=some u5:=by
 obtain ⟨h0,h1,h2,k0,k1,h3,h4,h5⟩:=h
 have out:∀ {b o:Nat} {u:Value},b<b6→W.cell? ⟨b,o,none⟩=some u→(W.setCells b6 0 vs).cell? ⟨b,o,none⟩=some u:=fun hb hu=>by
  rw [World.cell?_setCells_out b6 vs 0 W _ (fun q _=>by dsimp only at q;omega)]
  exact hu
 exact ⟨eI q6 vs 0 W h0,out q1 h1,out q2 h2,out q1 k0,out q1 k1,out q3 h3,out q3 h4,out q3 h5⟩
theorem int.jR {σ:Type} {L:Lt} {t:Nat} (e:aS σ) (cv cf:List Value) (pv:Value) (hv:cv.length=1+1) (hf:cf.length=1+1) (j:Nat) (hj:j<2*(1+1)):(aO L t e cv cf pv)[15+j]?=(cv++cf)[j]?:=by
 unfold aO
 rw [List.getElem?_append_left (by simp [hv,hf];omega),List.append_assoc,List.getElem?_append_right (by simp)]
 simp
theorem list.jR {σ:Type} {L:Lt} {t:Nat} (e:aS σ) (cv cf:List Value) (pv:Value) (hv:cv.length=1+1) (hf:cf.length=1+1) (j:Nat) (hj:j<2*(1+1)):(aO L t e cv cf pv)[15+j]?=(cv++cf)[j]?:=by
 unfold aO
 rw [List.getElem?_append_left (by simp [hv,hf];omega),List.append_assoc,List.getElem?_append_right (by simp)]
 simp
theorem tree.jR {σ:Type} {L:Lt} {t:Nat} (e:aS σ) (cv cf:List Value) (pv:Value) (hv:cv.length=1+1) (hf:cf.length=1+1) (j:Nat) (hj:j<2*(1+1)):(aO L t e cv cf pv)[15+j]?=(cv++cf)[j]?:=by
 unfold aO
 rw [List.getElem?_append_left (by simp [hv,hf];omega),List.append_assoc,List.getElem?_append_right (by simp)]
 simp
theorem row.jR {σ:Type} {L:Lt} {t:Nat} (e:aS σ) (cv cf:List Value) (pv:Value) (hv:cv.length=2+1) (hf:cf.length=2+1) (j:Nat) (hj:j<2*(2+1)):(aO L t e cv cf pv)[15+j]?=(cv++cf)[j]?:=by
 unfold aO
 rw [List.getElem?_append_left (by simp [hv,hf];omega),List.append_assoc,List.getElem?_append_right (by simp)]
 simp
theorem int.AL (l1 l2 m n:List Value) {j c:Nat} (h1:l1.length=c) (h2:l2.length=c) (hj:c≤j):((l1++m)++n)[j]?=((l2++m)++n)[j]?:=by
 have e:∀ l:List Value,l.length=c→((l++m)++n)[j]?=(m++n)[j-c]?:=fun l hl=>by rw [List.append_assoc,List.getElem?_append_right (by omega),hl]
 rw [e l1 h1,e l2 h2]
theorem row.QL {b:Nat}:∀ (vs:List Value) (o:Nat) (W:World) (k:Nat),k≠b→(W.setCells b o vs).heap[k]?=W.heap[k]?
 |[],_,_,_,_=>rfl
 |v::vs,o,W,k,hk=>by
  show ((W.setCell ⟨b,o,none⟩ v).setCells b (o+1) vs).heap[k]?=_
  rw [QL vs (o+1) _ k hk,Below.heap_setCell _ _ _ k hk]
theorem row.gY {b:Nat}:∀ (vs:List Value) (o:Nat) (W:World),(W.setCells b o vs).heap.size=W.heap.size
 |[],_,_=>rfl
 |v::vs,o,W=>by
  show ((W.setCell ⟨b,o,none⟩ v).setCells b (o+1) vs).heap.size=_
  rw [gY vs (o+1) _]
  simp [World.setCell]
theorem row.Row.CS {w:World} {b:Nat} {t:TypeId} {u v x y:Value} (h:Row w b t [u,v]):Row (w.setCells b 0 [x,y]) b t [x,y]:=(h.set 0 x).set 1 y
theorem row.aLq {P:Program} {ops:Array Oper} {Q:Exit→Act→World→Prop} {S:World→Prop} {a:Act} {w:World} {id:Nat} (n:Nat) (hn:ops.size=n) (hm:P.follows .mixedOrders=true) (hS:S w.drew)
  (h:∀ W,W=w.drew→S W→wpAnyH P .any ops Q S n (Array.replicate n false) a W):(Code.region id ops true).wp P Q a w:=fR n hn hm hS (h _ rfl)
theorem row.dW {w W:World} {o:Obj} (h:w.alloc o=W):Below w.heap.size w W:=by subst h;exact aB _ _
theorem row.fC {w W:World} {xs:List Value} {t:TypeId} (h:w.alloc (.cells xs.toArray t)=W):Row W w.heap.size t xs:=by subst h;exact Row.new' rfl
theorem row.pJ {w W:World} {tt:TypeId} {xs:List Value} {b1 b2 o1 o2 b3 b6:Nat} {u1 u2 u3 u4 u5 v0 v1:Value} (_:Row W b6 tt xs) (vs:List Value) (q6:w.heap.size≤b6) (q1:b1<b6) (q2:b2<b6) (q3:b3<b6) (h:Below w.heap.size w W∧W.cell? ⟨b1,o1,none⟩=some u1∧W.cell? ⟨b2,o2,none⟩=some u2∧W.cell? ⟨b1,o1+15,none⟩=some v0∧W.cell? ⟨b1,o1+16,none⟩=some v1∧W.cell? ⟨b3,0,none⟩=some u3∧W.cell? ⟨b3,1,none⟩=some u4∧W.cell? ⟨b3,2,none⟩=some u5) :
  Below w.heap.size w (W.setCells b6 0 vs)∧(W.setCells b6 0 vs).cell? ⟨b1,o1,none⟩=some u1∧(W.setCells b6 0 vs).cell? ⟨b2,o2,none⟩=some u2∧(W.setCells b6 0 vs).cell? ⟨b1,o1+15,none⟩=some v0∧(W.setCells b6 0 vs).cell? ⟨b1,o1+16,none⟩=some v1∧(W.setCells b6 0 vs).cell? ⟨b3,0,none⟩=some u3∧(W.setCells b6 0 vs).cell? ⟨b3,1,none⟩=some u4∧(W.setCells b6 0 vs).cell? ⟨b3,2,none⟩=some u5:=NY vs q6 q1 q2 q3 h
theorem row.uB {σ:Type} {R:SR σ} {I:Nat→Prop} {w W w2 w3:World} {b:Nat} {s:σ} {c:List Value} {tt:TypeId} {xs:List Value} (_:Row w3 b tt xs) (hz:R.rep (fun k=>I k∨(W.heap.size≤k∧k<w2.heap.size)) w3 s c) (hI:∀ k,I k→k<w.heap.size) (h5:w.heap.size≤b) (h5':b<W.heap.size∨w2.heap.size≤b) (vs:List Value):R.rep (fun k=>I k∨(W.heap.size≤k∧k<w2.heap.size)) (w3.setCells b 0 vs) s c :=
 R.stay (fun k hk _=>⟨hk,QL vs 0 w3 k (by
  rcases hk with hk|hk
  ·have:=hI k hk;omega
  ·omega)⟩) hz
structure int.bO {σ:Type} (R:SR σ) (P:M.Plain σ) (L:Lt) (fA:Nat) (rv:Value):Prop where
 z:M.qA R.sz P
 m:∀ W,(method 553 L.oT L.ov "Apply").run Tryz.prog W = .ok (fA,rv) W
 c:∀ (s o:Value) (W:World),(callFunc fA #[rv,s,o]).run Tryz.prog W = .ok (.enter fA #[rv,s,o]) W
 ap:∀ (I:Nat→Prop) (W:World) (s:σ) (x0:Value) (op:M.Op),R.rep I W s [x0]→R.sz s≤1000000000000→(∀ k,I k→k<W.heap.size) →
  Calls Tryz.prog fA #[rv,x0,.agg #[.int .i64 op.c,.int .i64 op.a,.int .i64 op.b]] W fun e w'=>∃ y0:Value,e = .returned (.tuple #[y0,.agg #[.int .i64 (P.apply s op).2.s,.int .i64 (P.apply s op).2.v]]) ∧
   R.rep (fun k=>I k∨(W.heap.size≤k∧k<w'.heap.size)) w' (P.apply s op).1 [y0]∧Below W.heap.size W w'
structure list.bO {σ:Type} (R:SR σ) (P:M.Plain σ) (L:Lt) (fA:Nat) (rv:Value):Prop where
 z:M.qA R.sz P
 m:∀ W,(method 553 L.oT L.ov "Apply").run Tryz.prog W = .ok (fA,rv) W
 c:∀ (s o:Value) (W:World),(callFunc fA #[rv,s,o]).run Tryz.prog W = .ok (.enter fA #[rv,s,o]) W
 ap:∀ (I:Nat→Prop) (W:World) (s:σ) (x0:Value) (op:M.Op),R.rep I W s [x0]→R.sz s≤1000000000000→(∀ k,I k→k<W.heap.size) →
  Calls Tryz.prog fA #[rv,x0,.agg #[.int .i64 op.c,.int .i64 op.a,.int .i64 op.b]] W fun e w'=>∃ y0:Value,e = .returned (.tuple #[y0,.agg #[.int .i64 (P.apply s op).2.s,.int .i64 (P.apply s op).2.v]]) ∧
   R.rep (fun k=>I k∨(W.heap.size≤k∧k<w'.heap.size)) w' (P.apply s op).1 [y0]∧Below W.heap.size W w'
structure tree.bO {σ:Type} (R:SR σ) (P:M.Plain σ) (L:Lt) (fA:Nat) (rv:Value):Prop where
 z:M.qA R.sz P
 m:∀ W,(method 553 L.oT L.ov "Apply").run Tryz.prog W = .ok (fA,rv) W
 c:∀ (s o:Value) (W:World),(callFunc fA #[rv,s,o]).run Tryz.prog W = .ok (.enter fA #[rv,s,o]) W
 ap:∀ (I:Nat→Prop) (W:World) (s:σ) (x0:Value) (op:M.Op),R.rep I W s [x0]→R.sz s≤1000000000000→(∀ k,I k→k<W.heap.size) →
  Calls Tryz.prog fA #[rv,x0,.agg #[.int .i64 op.c,.int .i64 op.a,.int .i64 op.b]] W fun e w'=>∃ y0:Value,e = .returned (.tuple #[y0,.agg #[.int .i64 (P.apply s op).2.s,.int .i64 (P.apply s op).2.v]]) ∧
   R.rep (fun k=>I k∨(W.heap.size≤k∧k<w'.heap.size)) w' (P.apply s op).1 [y0]∧Below W.heap.size W w'
structure row.bO {σ:Type} (R:SR σ) (P:M.Plain σ) (L:Lt) (fA:Nat) (rv:Value):Prop where
 z:M.qA R.sz P
 m:∀ W,(method 553 L.oT L.ov "Apply").run Tryz.prog W = .ok (fA,rv) W
 c:∀ (s o:Value) (W:World),(callFunc fA #[rv,s,o]).run Tryz.prog W = .ok (.enter fA #[rv,s,o]) W
 ap:∀ (I:Nat→Prop) (W:World) (s:σ) (x0 x1:Value) (op:M.Op),R.rep I W s [x0,x1]→R.sz s≤1000000000000→(∀ k,I k→k<W.heap.size) →
  Calls Tryz.prog fA #[rv,.agg #[x0,x1],.agg #[.int .i64 op.c,.int .i64 op.a,.int .i64 op.b]] W fun e w'=>∃ y0 y1:Value,e = .returned (.tuple #[.agg #[y0,y1],.agg #[.int .i64 (P.apply s op).2.s,.int .i64 (P.apply s op).2.v]]) ∧
   R.rep (fun k=>I k∨(W.heap.size≤k∧k<w'.heap.size)) w' (P.apply s op).1 [y0,y1]∧Below W.heap.size W w'
def int.kU:Prop:=∀ {σ:Type} {R:SR σ} {L:Lt} {S:Nat→Prop} {E:aK σ} {w:World} {t:Nat} {P:M.Plain σ} {fA:Nat} {rv:Value} (_hA:bO R P L fA rv) (_h:RE R L S E w) (_ht:t<L.n) {k:Nat} (_hk:k<L.n) {v f:cY σ} (_hv:(E.th t).now=some v) (_hf:(E.th t).cD=some f) (_SC:R.sz v.st≤1000000000000),Calls Tryz.prog 230 #[.pointer (some ⟨L.g,t*28,none⟩),.int .i64 (k:Int)] w fun e w'=>e = .returned (.tuple #[])∧aF R L S w {E with th:=aI E.th t (aS.apply P L.n (E.th t) k)} w'
def list.kU:Prop:=∀ {σ:Type} {R:SR σ} {L:Lt} {S:Nat→Prop} {E:aK σ} {w:World} {t:Nat} {P:M.Plain σ} {fA:Nat} {rv:Value} (_hA:bO R P L fA rv) (_h:RE R L S E w) (_ht:t<L.n) {k:Nat} (_hk:k<L.n) {v f:cY σ} (_hv:(E.th t).now=some v) (_hf:(E.th t).cD=some f) (_SC:R.sz v.st≤1000000000000),Calls Tryz.prog 281 #[.pointer (some ⟨L.g,t*28,none⟩),.int .i64 (k:Int)] w fun e w'=>e = .returned (.tuple #[])∧aF R L S w {E with th:=aI E.th t (aS.apply P L.n (E.th t) k)} w'
def tree.kU:Prop:=∀ {σ:Type} {R:SR σ} {L:Lt} {S:Nat→Prop} {E:aK σ} {w:World} {t:Nat} {P:M.Plain σ} {fA:Nat} {rv:Value} (_hA:bO R P L fA rv) (_h:RE R L S E w) (_ht:t<L.n) {k:Nat} (_hk:k<L.n) {v f:cY σ} (_hv:(E.th t).now=some v) (_hf:(E.th t).cD=some f) (_SC:R.sz v.st≤1000000000000),Calls Tryz.prog 355 #[.pointer (some ⟨L.g,t*28,none⟩),.int .i64 (k:Int)] w fun e w'=>e = .returned (.tuple #[])∧aF R L S w {E with th:=aI E.th t (aS.apply P L.n (E.th t) k)} w'
theorem yM:int.kU∧list.kU∧tree.kU:=by
 refine ⟨@mkK _ 0 ?_,@mkK _ 1 ?_,@mkK _ 2 ?_⟩<;>intro kk σ R L S E w t P fA rv hA h ht k hk v f hv hf hsz
 all_goals
  obtain ⟨cv,cf,pv,hc,hcv,eD,-,hfz⟩:=h.cells ht rfl
  have sO:=hcv.2 v hv
  have hfr:=eD.2 f hf
  obtain ⟨x0,xl,rfl⟩:∃ x0 l,cv=[x0]++[l]:=by obtain ⟨c0,c1,rfl⟩:=aE hcv.1;exact ⟨_,_,rfl⟩
  obtain ⟨y0,y1,rfl⟩:=aE eD.1
  have hn:=h.ok.n64
  have zF:=h.ok.n1
  have c0:w.cell? ⟨L.g,t*28,none⟩=some (.pointer (some ⟨L.bS,0,none⟩)):=hc 0 _ (by decide) rfl
  have s1:w.cell? ⟨L.bS,1,none⟩=some (.iface L.oT L.ov):=h.sh.cell_of rfl
  have xc0:=hc 15 _ (by decide) rfl
  have hh0:=hc 21 _ (by decide) rfl
  have hh1:=hc 22 _ (by decide) rfl
  have hh2:=hc 23 _ (by decide) rfl
  have aBF:=fun ob=>dM hh0 ob
  have aBG:=fun ob=>dM hh1 ob
  have aBH:=fun ob=>dM hh2 ob
  have HH:=aA h
  have HV:=aA (And.intro sO hfr)
  have HC:=aA (And.intro hv hf)
  have HX:=aA (show ∀ j,j<2*(1+1)→w.cell? ⟨L.g,t*28+(15+j),none⟩=(([x0]++[xl])++[y0,y1])[j]? from fun j hj=>by
   first|(have _:Kn 0:=kk;have q:=int.jR (L:=L) (t:=t) (E.th t) ([x0]++[xl]) [y0,y1] pv hcv.1 eD.1 j hj)|(have _:Kn 1:=kk;have q:=list.jR (L:=L) (t:=t) (E.th t) ([x0]++[xl]) [y0,y1] pv hcv.1 eD.1 j hj)|(have _:Kn 2:=kk;have q:=tree.jR (L:=L) (t:=t) (E.th t) ([x0]++[xl]) [y0,y1] pv hcv.1 eD.1 j hj)
   obtain ⟨u,hu⟩:∃ u,(([x0]++[xl])++[y0,y1])[j]?=some u:=⟨_,List.getElem?_eq_getElem (by simp;omega)⟩
   rw [hu] at q ⊢
   exact hc (15+j) u (by omega) q)
  clear h hc hcv eD sO hfr hfz hv hf
  first|(have _:Kn 0:=kk;go_enter Tryz.func230,Tryz.ntmps230)|(have _:Kn 1:=kk;go_enter Tryz.func281,Tryz.ntmps281)|(have _:Kn 2:=kk;go_enter Tryz.func355,Tryz.ntmps355)
  go_wp2
  go_region
  generalize tX:World.drew _=W1
  have kS:Below w.heap.size w W1:=by rw [←tX];exact Below.drew (aB w _)
  have hro:Row W1 w.heap.size 36 [.int .i64 ((E.th t).heard 0),.int .i64 ((E.th t).heard 1),.int .i64 ((E.th t).heard 2)]:=by rw [←tX];exact Row.new w [_,_,_] _
  have o0:W1.cell? ⟨w.heap.size,0,none⟩=some (.int .i64 ((E.th t).heard 0)):=hro.cell_of rfl
  have o1:W1.cell? ⟨w.heap.size,1,none⟩=some (.int .i64 ((E.th t).heard 1)):=hro.cell_of rfl
  have o2:W1.cell? ⟨w.heap.size,2,none⟩=some (.int .i64 ((E.th t).heard 2)):=hro.cell_of rfl
  have e0:=cell_later kS c0
  have e1:=cell_later kS s1
  have xe0:=cell_later kS xc0
  have WE:R.rep (fun k=>S k∧¬L.own k) w v.st [x0]:=by
   obtain ⟨sc,b,hsc,hr,-⟩:=HV.out.1
   have:sc=[x0]:=(List.append_inj' hsc rfl).1.symm
   rw [←this];exact hr
  have zS:∀ k,(S k∧¬L.own k)→k<w.heap.size:=fun k hk=>HH.out.lt k hk.1
  obtain ⟨r,hr⟩:∃ r,r=P.apply v.st (M.fS (E.th t).heard):=⟨_,rfl⟩
  have YK:=aA (fun (W:World) (hW:Below w.heap.size w W)=>hA.ap (fun k=>S k∧¬L.own k) W v.st x0 (M.fS (E.th t).heard) (R.stay (fun k hk hlt=>⟨hk,hW.block k hlt⟩) WE) hsz (fun k hk=>Nat.lt_of_lt_of_le (zS k hk) hW.size))
  rw [←hr] at YK
  have lX:=aA hr
  have hm:=hA.m
  have hcl:=hA.c
  have MG:L.g<w.heap.size:=HH.out.lt _ (HH.out.ow _ kH)
  have hSl:L.bS<w.heap.size:=HH.out.lt _ (HH.out.ow _ NR)
  have aG0:w.heap.size<W1.heap.size:=hro.lt
  clear tX hro WE hh0 hh1 hh2 aBF aBG aBH c0 s1 xc0 hr
  go_upto_region 1 with fail
  go_cut [5,6] (fun st an w'=>∃ (y0:Value) (b6:Nat),st=y0∧an = .pointer (some ⟨b6,0,none⟩)∧Row w' b6 94 [.int .i64 r.2.s,.int .i64 r.2.v]∧Below w.heap.size w w'∧w.heap.size≤b6∧R.rep (fun k=>(S k∧¬L.own k)∨(w.heap.size≤k∧k<w'.heap.size)) w' r.1 [y0])
  case first =>
   refine fR (S:=(fun w'=>Below w.heap.size w w'∧w'.cell? ⟨L.g,t*28,none⟩=some (.pointer (some ⟨L.bS,0,none⟩))∧w'.cell? ⟨L.bS,1,none⟩=some (.iface L.oT L.ov)∧w'.cell? ⟨L.g,t*28+15,none⟩=some x0∧w'.cell? ⟨w.heap.size,0,none⟩=some (.int .i64 ((E.th t).heard 0))∧w'.cell? ⟨w.heap.size,1,none⟩=some (.int .i64 ((E.th t).heard 1))∧w'.cell? ⟨w.heap.size,2,none⟩=some (.int .i64 ((E.th t).heard 2)))) 24 rfl (by kernel_rfl) ?_ (fun hHeld=>?_)
   ·exact ⟨Below.drew kS,e0,e1,xe0,o0,o1,o2⟩
   iterate 17 (refine tk 23 (by rfl) (by kernel_rfl) (by exact fun _ _ _ h=>h) (.inl ⟨by rfl,fun w hS=>by (try dsimp only at hS);go_simp;(try with_reducible rfl)⟩) (by assumption) ?_;try go_frame)
   refine wpAnyH_ready (rs:=[17,21]) (by kernel_rfl) (by simp) (rc (by rfl) (fun K hK=>?_) (rc (by rfl) (fun K hK=>?_) AllReadyH.nil))
   ·go_simp
    refine (YK.out _ hHeld.1).mono ?_
    rintro e w2 ⟨z0,rfl,hz,aZ⟩
    go_wp2_with fail
    refine hK.out _ _ ?_ (fun hHeld=>?_)
    ·first|(have _:Kn 0:=kk;exact int.fU aZ hHeld)|(have _:Kn 1:=kk;exact list.fU aZ hHeld)|(have _:Kn 2:=kk;exact tree.fU aZ hHeld)
    clear hK K
    (try go_frame)
    iterate 3 (refine tk 23 (by rfl) (by kernel_rfl) (by exact fun _ _ _ h=>h) (.inl ⟨by rfl,fun w hS=>by (try dsimp only at hS);go_simp;(try with_reducible rfl)⟩) (by assumption) ?_;try go_frame)
    refine bQ 21 (by rfl) (by kernel_rfl) (fun K hK=>?_)
    go_simp
    refine hK.out _ _ ?_ (fun hHeld=>?_)
    ·first|(have _:Kn 0:=kk;exact int.fU (aB _ _) hHeld)|(have _:Kn 1:=kk;exact list.fU (aB _ _) hHeld)|(have _:Kn 2:=kk;exact tree.fU (aB _ _) hHeld)
    clear hK K
    (try go_frame)
    iterate 1 (refine tk 23 (by rfl) (by kernel_rfl) (by exact fun _ _ _ h=>h) (.inl ⟨by rfl,fun w hS=>by (try dsimp only at hS);go_simp;(try with_reducible rfl)⟩) (by assumption) ?_;try go_frame)
    refine bQ 23 (by rfl) (by kernel_rfl) (fun K hK=>?_)
    rw [if_pos (by rfl)]
    have EB:W1.heap.size≤w2.heap.size:=by have q:=aZ.size;simp at q;omega
    refine wp_store_mid _ _ _ rfl _ 0 #[.int .i64 r.2.s,.int .i64 r.2.v] rfl rfl ?_ (by kernel_rfl) (by simp [Value.oneCell']) ?_
    ·first|exact Row.there (Row.new _ [_,_] _) (by simp)|exact aT aZ (Row.there (Row.new _ [_,_] _) (by simp))
    refine hK.out _ _ ?_ (fun hHeld=>?_)
    ·exact NY _ (by omega) (by omega) (by omega) (by omega) hHeld
    clear hK K
    (try go_frame)
    refine wpAnyH_done (by kernel_rfl) ?_ _
    (try go_wp2_with fail)
    go_meet
    case rel =>
     first
      |exact ⟨z0,w2.heap.size,rfl,rfl,((Row.new' rfl).set 0 _).set 1 _,hHeld.1,by omega,SB (b6:=w2.heap.size) hz zS (by simp;omega) (by omega) (.inr (Nat.le_refl _)) (fun k hk hne=>((Below.heap_setCell _ _ _ k hne).trans (Below.heap_setCell _ _ _ k hne)).trans (Below.heap_alloc w2 _ k hk)) (by simp [World.setCells,World.setCell])⟩
      |exact ⟨z0,W1.heap.size,rfl,rfl,(((show Row (W1.alloc _).drew W1.heap.size 94 [_,_] from Row.new W1 [_,_] _).old aZ).set 0 _).set 1 _,hHeld.1,by omega,SB (b6:=W1.heap.size) hz zS (by simp;omega) (by omega) (.inl (by simp)) (fun k hk hne=>(Below.heap_setCell _ _ _ k hne).trans (Below.heap_setCell _ _ _ k hne)) (by simp [World.setCells,World.setCell])⟩
   ·go_simp
    refine hK.out _ _ ?_ (fun hHeld=>?_)
    ·first|(have _:Kn 0:=kk;exact int.fU (aB _ _) hHeld)|(have _:Kn 1:=kk;exact list.fU (aB _ _) hHeld)|(have _:Kn 2:=kk;exact tree.fU (aB _ _) hHeld)
    clear hK K
    (try go_frame)
    refine bQ 17 (by rfl) (by kernel_rfl) (fun K hK=>?_)
    go_simp
    refine (YK.out _ hHeld.1).mono ?_
    rintro e w2 ⟨z0,rfl,hz,aZ⟩
    go_wp2_with fail
    refine hK.out _ _ ?_ (fun hHeld=>?_)
    ·first|(have _:Kn 0:=kk;exact int.fU aZ hHeld)|(have _:Kn 1:=kk;exact list.fU aZ hHeld)|(have _:Kn 2:=kk;exact tree.fU aZ hHeld)
    clear hK K
    (try go_frame)
    iterate 3 (refine tk 22 (by rfl) (by kernel_rfl) (by exact fun _ _ _ h=>h) (.inl ⟨by rfl,fun w hS=>by (try dsimp only at hS);go_simp;(try with_reducible rfl)⟩) (by assumption) ?_;try go_frame)
    iterate 1 (refine tk 23 (by rfl) (by kernel_rfl) (by exact fun _ _ _ h=>h) (.inl ⟨by rfl,fun w hS=>by (try dsimp only at hS);go_simp;(try with_reducible rfl)⟩) (by assumption) ?_;try go_frame)
    refine bQ 23 (by rfl) (by kernel_rfl) (fun K hK=>?_)
    rw [if_pos (by rfl)]
    have EB:W1.heap.size≤w2.heap.size:=by have q:=aZ.size;simp at q;omega
    refine wp_store_mid _ _ _ rfl _ 0 #[.int .i64 r.2.s,.int .i64 r.2.v] rfl rfl ?_ (by kernel_rfl) (by simp [Value.oneCell']) ?_
    ·first|exact Row.there (Row.new _ [_,_] _) (by simp)|exact aT aZ (Row.there (Row.new _ [_,_] _) (by simp))
    refine hK.out _ _ ?_ (fun hHeld=>?_)
    ·exact NY _ (by omega) (by omega) (by omega) (by omega) hHeld
    clear hK K
    (try go_frame)
    refine wpAnyH_done (by kernel_rfl) ?_ _
    (try go_wp2_with fail)
    go_meet
    case rel =>
     first
      |exact ⟨z0,w2.heap.size,rfl,rfl,((Row.new' rfl).set 0 _).set 1 _,hHeld.1,by omega,SB (b6:=w2.heap.size) hz zS (by simp;omega) (by omega) (.inr (Nat.le_refl _)) (fun k hk hne=>((Below.heap_setCell _ _ _ k hne).trans (Below.heap_setCell _ _ _ k hne)).trans (Below.heap_alloc w2 _ k hk)) (by simp [World.setCells,World.setCell])⟩
      |exact ⟨z0,W1.heap.size,rfl,rfl,(((show Row (W1.alloc _).drew W1.heap.size 94 [_,_] from Row.new W1 [_,_] _).old aZ).set 0 _).set 1 _,hHeld.1,by omega,SB (b6:=W1.heap.size) hz zS (by simp;omega) (by omega) (.inl (by simp)) (fun k hk hne=>(Below.heap_setCell _ _ _ k hne).trans (Below.heap_setCell _ _ _ k hne)) (by simp [World.setCells,World.setCell])⟩
  case rest =>
   obtain ⟨_,b6,rfl,rfl,ZV,hbc,h6,ES⟩:=hcut
   obtain ⟨q0,rfl⟩:=R.shape ES u5 (by simp)
   have hst:∀ k,(S k∧¬L.own k)→k<w.heap.size→(grown S w wc k∧¬L.own k)∧wc.heap[k]?=w.heap[k]?:=fun k hk hlt=>⟨⟨.inl hk.1,hk.2⟩,hbc.block k hlt⟩
   first
    |have _:Kn 0:=kk
     have ZW:R.rep (fun k=>grown S w wc k∧¬L.own k) wc r.1 [.int .i64 q0]:=R.stay (fun k (hk:(S k∧¬L.own k)∨(w.heap.size≤k∧k<wc.heap.size)) _=>⟨by
      rcases hk with hk|hk
      ·exact ⟨.inl hk.1,hk.2⟩
      ·exact ⟨.inr hk,fun q=>by have:=HH.out.lt _ (HH.out.ow _ q);omega⟩,rfl⟩) ES
    |have _:Kn 1:=kk
     have ZW:R.rep (fun k=>grown S w wc k∧¬L.own k) wc r.1 [.pointer q0]:=R.stay (fun k (hk:(S k∧¬L.own k)∨(w.heap.size≤k∧k<wc.heap.size)) _=>⟨by
      rcases hk with hk|hk
      ·exact ⟨.inl hk.1,hk.2⟩
      ·exact ⟨.inr hk,fun q=>by have:=HH.out.lt _ (HH.out.ow _ q);omega⟩,rfl⟩) ES
    |have _:Kn 2:=kk
     have ZW:R.rep (fun k=>grown S w wc k∧¬L.own k) wc r.1 [.pointer q0]:=R.stay (fun k (hk:(S k∧¬L.own k)∨(w.heap.size≤k∧k<wc.heap.size)) _=>⟨by
      rcases hk with hk|hk
      ·exact ⟨.inl hk.1,hk.2⟩
      ·exact ⟨.inr hk,fun q=>by have:=HH.out.lt _ (HH.out.ow _ q);omega⟩,rfl⟩) ES
   first|(have _:Kn 0:=kk;refine (have vr:int.aV R (fun k=>grown S w wc k∧¬L.own k) wc {v with st:=r.1} ([.int .i64 q0]++[xl]):=?_;?_))|(have _:Kn 1:=kk;refine (have vr:list.aV R (fun k=>grown S w wc k∧¬L.own k) wc {v with st:=r.1} ([.pointer q0]++[xl]):=?_;?_))|(have _:Kn 2:=kk;refine (have vr:tree.aV R (fun k=>grown S w wc k∧¬L.own k) wc {v with st:=r.1} ([.pointer q0]++[xl]):=?_;?_))
   ·obtain ⟨sc,b,hsc,-,hbb⟩:=HV.out.1
    have e:=(List.append_inj' hsc rfl).2
    first|(have _:Kn 0:=kk;exact ⟨[.int .i64 q0],b,by rw [e],ZW,int.cP.stay hst zS _ _ hbb⟩)|(have _:Kn 1:=kk;exact ⟨[.pointer q0],b,by rw [e],ZW,list.cP.stay hst zS _ _ hbb⟩)|(have _:Kn 2:=kk;exact ⟨[.pointer q0],b,by rw [e],ZW,tree.cP.stay hst zS _ _ hbb⟩)
   have fr:=aV.stay hst zS HV.out.2
   have WG:=aF.below HH.out hbc
   first
    |have _:Kn 0:=kk
     obtain ⟨r2,k2⟩:=WG.re.jQ ht [.int .i64 q0] 0 (by simp) (by simp) vr fr (fun j hj=>by
      by_cases q:j<1
      ·rw [if_pos ⟨Nat.zero_le _,by simpa using q⟩,List.append_assoc,List.getElem?_append_left (by simpa using q)]
       rfl
      ·rw [if_neg (by simpa using q),hbc.cell (p:=⟨L.g,t*28+(15+j),none⟩) MG,HX.out j hj]
       exact AL (c:=1) [x0] [.int .i64 q0] [xl] [y0,y1] rfl rfl (by omega)) {E.th t with now:=some {v with st:=r.1}} (by rw [←HC.out.2])
    |have _:Kn 1:=kk
     obtain ⟨r2,k2⟩:=WG.re.jQ ht [.pointer q0] 0 (by simp) (by simp) vr fr (fun j hj=>by
      by_cases q:j<1
      ·rw [if_pos ⟨Nat.zero_le _,by simpa using q⟩,List.append_assoc,List.getElem?_append_left (by simpa using q)]
       rfl
      ·rw [if_neg (by simpa using q),hbc.cell (p:=⟨L.g,t*28+(15+j),none⟩) MG,HX.out j hj]
       exact AL (c:=1) [x0] [.pointer q0] [xl] [y0,y1] rfl rfl (by omega)) {E.th t with now:=some {v with st:=r.1}} (by rw [←HC.out.2])
    |have _:Kn 2:=kk
     obtain ⟨r2,k2⟩:=WG.re.jQ ht [.pointer q0] 0 (by simp) (by simp) vr fr (fun j hj=>by
      by_cases q:j<1
      ·rw [if_pos ⟨Nat.zero_le _,by simpa using q⟩,List.append_assoc,List.getElem?_append_left (by simpa using q)]
       rfl
      ·rw [if_neg (by simpa using q),hbc.cell (p:=⟨L.g,t*28+(15+j),none⟩) MG,HX.out j hj]
       exact AL (c:=1) [x0] [.pointer q0] [xl] [y0,y1] rfl rfl (by omega)) {E.th t with now:=some {v with st:=r.1}} (by rw [←HC.out.2])
   have yL:=WG.next (aF.of r2 k2 rfl)
   obtain ⟨cv5,cf5,pv5,TM,CJ,CL,-,TN⟩:=WG.re.cells ht rfl
   obtain ⟨c0,c1,rfl⟩:=aE CJ.1
   obtain ⟨d0,d1,rfl⟩:=aE CL.1
   have oc0:=TM 15 _ (by decide) rfl
   have of0:=TN (t*28+15)
   have FN:=aA yL
   have YL:=aA (And.intro ZV h6)
   have HBC:=aA hbc
   clear hst ZW vr fr WG r2 k2 yL TM CJ CL TN ZV ES hbc hm hcl
   go_upto_region 3 with fail
   generalize kE:World.setCell _ _ _=W2
   have yL:aF R L S w {E with th:=aI E.th t {E.th t with now:=some {v with st:=r.1}}} W2:=by rw [←kE];exact FN.out
   first|(have _:Kn 0:=kk;have FH:Row W2 b6 94 [.int .i64 r.2.s,.int .i64 r.2.v]:=by rw [←kE];exact (show Row (wc.setCells L.g (t*28+(15+0)) [.int .i64 q0]) b6 94 _ from Row.cH (by omega) _ _ YL.out.1))|(have _:Kn 1:=kk;have FH:Row W2 b6 94 [.int .i64 r.2.s,.int .i64 r.2.v]:=by rw [←kE];exact (show Row (wc.setCells L.g (t*28+(15+0)) [.pointer q0]) b6 94 _ from Row.cH (by omega) _ _ YL.out.1))|(have _:Kn 2:=kk;have FH:Row W2 b6 94 [.int .i64 r.2.s,.int .i64 r.2.v]:=by rw [←kE];exact (show Row (wc.setCells L.g (t*28+(15+0)) [.pointer q0]) b6 94 _ from Row.cH (by omega) _ _ YL.out.1))
   clear kE FN
   obtain ⟨cv6,cf6,pv6,hc6,-,-,-,-⟩:=yL.re.cells ht (aC _ _ _)
   have g0:W2.cell? ⟨L.g,t*28,none⟩=some (.pointer (some ⟨L.bS,0,none⟩)):=hc6 0 _ (by decide) rfl
   have g14:=hc6 14 _ (by decide) rfl
   have gs0:W2.cell? ⟨L.bS,0,none⟩=some (.int .i64 (L.n:Int)):=yL.re.sh.cell_of rfl
   have ga0:W2.cell? ⟨b6,0,none⟩=some (.int .i64 r.2.s):=FH.cell_of rfl
   have ga1:W2.cell? ⟨b6,1,none⟩=some (.int .i64 r.2.v):=FH.cell_of rfl
   have hsk:M.aL L.n k<M.aQ L.n:=by unfold M.aL M.aQ;omega
   have hvk:M.aN L.n k<M.aQ L.n:=by unfold M.aN M.aQ;omega
   have KW:M.aQ L.n≤200:=by unfold M.aQ M.tw;omega
   have th1:W2.there (L.gD t) (M.aL L.n k) 1:=(yL.re.gd t ht).there hsk
   have th2:W2.there (L.gD t) (M.aN L.n k) 1:=(yL.re.gd t ht).there hvk
   have ngD:L.g≠L.gD t:=by obtain ⟨T,q,-⟩:=HH.out.th;exact Row.apart q (HH.out.gd t ht) (by decide)
   have nSD:L.bS≠L.gD t:=Row.apart HH.out.sh (HH.out.gd t ht) (by decide)
   have n6D:b6≠L.gD t:=fun q=>by have:=HH.out.lt _ (HH.out.ow _ (pF ht));have:=YL.out.2;omega
   have FN:=aA yL
   generalize WH:M.aL L.n k=sk at *
   generalize WI:M.aN L.n k=vk at *
   have aG3:(sk:Int)<(M.aQ L.n:Int):=by omega
   have aG4:(vk:Int)<(M.aQ L.n:Int):=by omega
   clear yL FH hc6
   go_cut [6] (fun an w'=>an = .pointer (some ⟨b6,0,none⟩)∧aF R L S w {E with th:=aI (aI E.th t {E.th t with now:=some {v with st:=r.1}}) t {(aI E.th t {E.th t with now:=some {v with st:=r.1}}) t with dw:=aI ((aI E.th t {E.th t with now:=some {v with st:=r.1}}) t).dw sk r.2.s}} w'∧w'.cell? ⟨L.g,t*28,none⟩=some (.pointer (some ⟨L.bS,0,none⟩))∧w'.cell? ⟨L.g,t*28+14,none⟩=some (.slice (some ⟨L.gD t,0,none⟩) (M.aQ L.n) (M.aQ L.n))∧w'.cell? ⟨L.bS,0,none⟩=some (.int .i64 (L.n:Int))∧w'.cell? ⟨b6,1,none⟩=some (.int .i64 r.2.v)∧w'.there (L.gD t) vk 1)
   case first =>
    refine fR (S:=(fun w'=>w'.cell? ⟨L.g,t*28,none⟩=some (.pointer (some ⟨L.bS,0,none⟩))∧w'.cell? ⟨L.g,t*28+14,none⟩=some (.slice (some ⟨L.gD t,0,none⟩) (M.aQ L.n) (M.aQ L.n))∧w'.cell? ⟨L.bS,0,none⟩=some (.int .i64 (L.n:Int))∧w'.cell? ⟨b6,0,none⟩=some (.int .i64 r.2.s)∧w'.cell? ⟨b6,1,none⟩=some (.int .i64 r.2.v)∧w'.there (L.gD t) (sk) 1∧w'.there (L.gD t) (vk) 1)) 18 rfl (by kernel_rfl) ?_ (fun hHeld=>?_)
    ·exact ⟨g0,g14,gs0,ga0,ga1,th1,th2⟩
    iterate 13 (refine tk 17 (by rfl) (by kernel_rfl) (by exact fun _ _ _ h=>h) (.inl ⟨by rfl,fun w hS=>by (try dsimp only at hS);go_simp;(try with_reducible rfl)⟩) (by assumption) ?_;try go_frame)
    iterate 2 (refine tk 18 (by rfl) (by kernel_rfl) (by exact fun _ _ _ h=>h) (.inl ⟨by rfl,fun w hS=>by (try dsimp only at hS);go_simp;(try with_reducible rfl)⟩) (by assumption) ?_;try go_frame)
    refine bQ 13 (by rfl) (by kernel_rfl) (fun K hK=>?_)
    go_simp
    refine (sL L.n k _ zF hn hk).mono ?_
    rintro e w3 ⟨rfl,cE⟩
    rw [WH]
    go_wp2_with fail
    refine hK.out _ _ ?_ (fun hHeld=>?_)
    ·exact ⟨cell_later cE hHeld.1,cell_later cE hHeld.2.1,cell_later cE hHeld.2.2.1,cell_later cE hHeld.2.2.2.1,cell_later cE hHeld.2.2.2.2.1,aT cE hHeld.2.2.2.2.2.1,aT cE hHeld.2.2.2.2.2.2⟩
    clear hK K
    (try go_frame)
    iterate 1 (refine tk 17 (by rfl) (by kernel_rfl) (by exact fun _ _ _ h=>h) (.inl ⟨by rfl,fun w hS=>by (try dsimp only at hS);go_simp;(try with_reducible rfl)⟩) (by assumption) ?_;try go_frame)
    refine bQ 17 (by rfl) (by kernel_rfl) (fun K hK=>?_)
    rw [if_pos (by rfl)]
    refine aU _ _ _ rfl (L.gD t) sk (.int .i64 r.2.s) rfl rfl rfl rfl hHeld.2.2.2.2.2.1 (by kernel_rfl) ?_
    refine hK.out _ _ ?_ (fun hHeld=>?_)
    ·exact ⟨aH hHeld.1 (by first|exact .inr (by dsimp only;omega)|exact .inl (by assumption)|exact .inl (Ne.symm (by assumption))),aH hHeld.2.1 (by first|exact .inr (by dsimp only;omega)|exact .inl (by assumption)|exact .inl (Ne.symm (by assumption))),aH hHeld.2.2.1 (by first|exact .inr (by dsimp only;omega)|exact .inl (by assumption)|exact .inl (Ne.symm (by assumption))),aH hHeld.2.2.2.1 (by first|exact .inr (by dsimp only;omega)|exact .inl (by assumption)|exact .inl (Ne.symm (by assumption))),aH hHeld.2.2.2.2.1 (by first|exact .inr (by dsimp only;omega)|exact .inl (by assumption)|exact .inl (Ne.symm (by assumption))),cR hHeld.2.2.2.2.2.1 _ rfl _,cR hHeld.2.2.2.2.2.2 _ rfl _⟩
    clear hK K
    (try go_frame)
    refine wpAnyH_done (by kernel_rfl) ?_ _
    have hL3:=FN.out.next (aF.below FN.out.re (Below.bR cE))
    have hL4:=hL3.next (aF.of (hL3.re.fY t ht sk r.2.s) (Fr.set w3 (pF ht) _) rfl)
    have QH:=aA hL4
    clear hL3 hL4 cE
    (try go_wp2_with fail)
    go_meet
    case rel=>exact ⟨rfl,QH.out,hHeld.1,hHeld.2.1,hHeld.2.2.1,hHeld.2.2.2.2.1,hHeld.2.2.2.2.2.2⟩
   case rest =>
    obtain ⟨rfl,hL5,i0,i14,is0,ia1,ith⟩:=hcut
    have LB:=aA hL5
    clear hL5 g0 g14 gs0 ga0 ga1 th1 th2
    go_upto_region 4 with fail
    refine fR (S:=(fun w'=>w'.cell? ⟨L.g,t*28,none⟩=some (.pointer (some ⟨L.bS,0,none⟩))∧w'.cell? ⟨L.g,t*28+14,none⟩=some (.slice (some ⟨L.gD t,0,none⟩) (M.aQ L.n) (M.aQ L.n))∧w'.cell? ⟨L.bS,0,none⟩=some (.int .i64 (L.n:Int))∧w'.cell? ⟨b6,1,none⟩=some (.int .i64 r.2.v)∧w'.there (L.gD t) (vk) 1)) 18 rfl (by kernel_rfl) ?_ (fun hHeld=>?_)
    ·exact ⟨i0,i14,is0,ia1,ith⟩
    iterate 13 (refine tk 17 (by rfl) (by kernel_rfl) (by exact fun _ _ _ h=>h) (.inl ⟨by rfl,fun w hS=>by (try dsimp only at hS);go_simp;(try with_reducible rfl)⟩) (by assumption) ?_;try go_frame)
    iterate 2 (refine tk 18 (by rfl) (by kernel_rfl) (by exact fun _ _ _ h=>h) (.inl ⟨by rfl,fun w hS=>by (try dsimp only at hS);go_simp;(try with_reducible rfl)⟩) (by assumption) ?_;try go_frame)
    refine bQ 13 (by rfl) (by kernel_rfl) (fun K hK=>?_)
    go_simp
    refine (qB L.n k _ zF hn hk).mono ?_
    rintro e w7 ⟨rfl,CQ⟩
    rw [WI]
    go_wp2_with fail
    refine hK.out _ _ ?_ (fun hHeld=>?_)
    ·exact ⟨cell_later CQ hHeld.1,cell_later CQ hHeld.2.1,cell_later CQ hHeld.2.2.1,cell_later CQ hHeld.2.2.2.1,aT CQ hHeld.2.2.2.2⟩
    clear hK K
    (try go_frame)
    iterate 1 (refine tk 17 (by rfl) (by kernel_rfl) (by exact fun _ _ _ h=>h) (.inl ⟨by rfl,fun w hS=>by (try dsimp only at hS);go_simp;(try with_reducible rfl)⟩) (by assumption) ?_;try go_frame)
    refine bQ 17 (by rfl) (by kernel_rfl) (fun K hK=>?_)
    rw [if_pos (by rfl)]
    refine aU _ _ _ rfl (L.gD t) vk (.int .i64 r.2.v) rfl rfl rfl rfl hHeld.2.2.2.2 (by kernel_rfl) ?_
    refine hK.out _ _ ?_ (fun hHeld=>?_)
    ·exact ⟨aH hHeld.1 (by first|exact .inr (by dsimp only;omega)|exact .inl (by assumption)|exact .inl (Ne.symm (by assumption))),aH hHeld.2.1 (by first|exact .inr (by dsimp only;omega)|exact .inl (by assumption)|exact .inl (Ne.symm (by assumption))),aH hHeld.2.2.1 (by first|exact .inr (by dsimp only;omega)|exact .inl (by assumption)|exact .inl (Ne.symm (by assumption))),aH hHeld.2.2.2.1 (by first|exact .inr (by dsimp only;omega)|exact .inl (by assumption)|exact .inl (Ne.symm (by assumption))),cR hHeld.2.2.2.2 _ rfl _⟩
    clear hK K
    (try go_frame)
    refine wpAnyH_done (by kernel_rfl) ?_ _
    have hL7:=LB.out.next (aF.below LB.out.re (Below.bR CQ))
    have hL8:=hL7.next (aF.of (hL7.re.fY t ht vk r.2.v) (Fr.set w7 (pF ht) _) rfl)
    have HL8:=aA hL8
    clear hL7 hL8 CQ hHeld
    go_wp2
    refine bodyPost_end (v:=.tuple #[]) (by simp [results,Tryz.results230,Tryz.results281,Tryz.results355,go_sem]) rfl ⟨rfl,HL8.out.cast ?_⟩
    simp only [bM,aC]
    unfold aS.apply
    rw [HC.out.1]
    simp only [←lX.out,WH,WI]
theorem int.AM:kU:=yM.1
theorem list.AM:kU:=yM.2.1
theorem tree.AM:kU:=yM.2.2
theorem row.AM {σ:Type} {R:SR σ} {L:Lt} {S:Nat→Prop} {E:aK σ} {w:World} {t:Nat} {P:M.Plain σ} {fA:Nat} {rv:Value} (hA:bO R P L fA rv) (h:RE R L S E w) (ht:t<L.n) {k:Nat} (hk:k<L.n) {v f:cY σ} (hv:(E.th t).now=some v) (hf:(E.th t).cD=some f) (hsz:R.sz v.st≤1000000000000) :
  Calls Tryz.prog 318 #[.pointer (some ⟨L.g,t*30,none⟩),.int .i64 (k:Int)] w fun e w'=>e = .returned (.tuple #[])∧aF R L S w {E with th:=aI E.th t (aS.apply P L.n (E.th t) k)} w':=by
 obtain ⟨cv,cf,pv,hc,hcv,eD,-,hfz⟩:=h.cells ht rfl
 have sO:=hcv.2 v hv
 have hfr:=eD.2 f hf
 obtain ⟨x0,x1,xl,rfl⟩:∃ x0 x1 l,cv=[x0,x1]++[l]:=by obtain ⟨c0,c1,c2,rfl⟩:=aE hcv.1;exact ⟨_,_,_,rfl⟩
 obtain ⟨y0,y1,y2,rfl⟩:=aE eD.1
 have hn:=h.ok.n64
 have zF:=h.ok.n1
 have c0:w.cell? ⟨L.g,t*30,none⟩=some (.pointer (some ⟨L.bS,0,none⟩)):=hc 0 _ (by decide) rfl
 have s1:w.cell? ⟨L.bS,1,none⟩=some (.iface L.oT L.ov):=h.sh.cell_of rfl
 have xc0:=hc 15 _ (by decide) rfl
 have xc1:=hc 16 _ (by decide) rfl
 have hh0:=hc 23 _ (by decide) rfl
 have hh1:=hc 24 _ (by decide) rfl
 have hh2:=hc 25 _ (by decide) rfl
 have aBF:=fun ob=>dM hh0 ob
 have aBG:=fun ob=>dM hh1 ob
 have aBH:=fun ob=>dM hh2 ob
 have HH:=aA h
 have HV:=aA (And.intro sO hfr)
 have HC:=aA (And.intro hv hf)
 have HX:=aA (show ∀ j,j<2*(2+1)→w.cell? ⟨L.g,t*30+(15+j),none⟩=(([x0,x1]++[xl])++[y0,y1,y2])[j]? from fun j hj=>by
  have q:=jR (L:=L) (t:=t) (E.th t) ([x0,x1]++[xl]) [y0,y1,y2] pv hcv.1 eD.1 j hj
  obtain ⟨u,hu⟩:∃ u,(([x0,x1]++[xl])++[y0,y1,y2])[j]?=some u:=⟨_,List.getElem?_eq_getElem (by simp;omega)⟩
  rw [hu] at q ⊢
  exact hc (15+j) u (by omega) q)
 clear h hc hcv eD sO hfr hfz hv hf
 go_enter Tryz.func318,Tryz.ntmps318
 go_wp2
 go_region
 generalize tX:World.drew _=W1
 have kS:Below w.heap.size w W1:=by rw [←tX];exact Below.drew (aB w _)
 have hro:Row W1 w.heap.size 36 [.int .i64 ((E.th t).heard 0),.int .i64 ((E.th t).heard 1),.int .i64 ((E.th t).heard 2)]:=by rw [←tX];exact Row.new w [_,_,_] _
 have o0:W1.cell? ⟨w.heap.size,0,none⟩=some (.int .i64 ((E.th t).heard 0)):=hro.cell_of rfl
 have o1:W1.cell? ⟨w.heap.size,1,none⟩=some (.int .i64 ((E.th t).heard 1)):=hro.cell_of rfl
 have o2:W1.cell? ⟨w.heap.size,2,none⟩=some (.int .i64 ((E.th t).heard 2)):=hro.cell_of rfl
 have e0:=cell_later kS c0
 have e1:=cell_later kS s1
 have xe0:=cell_later kS xc0
 have xe1:=cell_later kS xc1
 have WE:R.rep (fun k=>S k∧¬L.own k) w v.st [x0,x1]:=by
  obtain ⟨sc,b,hsc,hr,-⟩:=HV.out.1
  have:sc=[x0,x1]:=(List.append_inj' hsc rfl).1.symm
  rw [←this];exact hr
 have zS:∀ k,(S k∧¬L.own k)→k<w.heap.size:=fun k hk=>HH.out.lt k hk.1
 obtain ⟨r,hr⟩:∃ r,r=P.apply v.st (M.fS (E.th t).heard):=⟨_,rfl⟩
 have YK:=aA (fun (W:World) (hW:Below w.heap.size w W)=>hA.ap (fun k=>S k∧¬L.own k) W v.st x0 x1 (M.fS (E.th t).heard) (R.stay (fun k hk hlt=>⟨hk,hW.block k hlt⟩) WE) hsz (fun k hk=>Nat.lt_of_lt_of_le (zS k hk) hW.size))
 rw [←hr] at YK
 have lX:=aA hr
 have hm:=hA.m
 have hcl:=hA.c
 have MG:L.g<w.heap.size:=HH.out.lt _ (HH.out.ow _ kH)
 have hSl:L.bS<w.heap.size:=HH.out.lt _ (HH.out.ow _ NR)
 have aG0:w.heap.size<W1.heap.size:=hro.lt
 clear tX hro WE hh0 hh1 hh2 aBF aBG aBH c0 s1 xc0 xc1 hr
 go_upto_region 1 with fail
 go_cut [5,6] (fun st an w'=>∃ (y0 y1:Value) (b5 b6:Nat),st = .pointer (some ⟨b5,0,none⟩)∧an = .pointer (some ⟨b6,0,none⟩)∧Row w' b6 94 [.int .i64 r.2.s,.int .i64 r.2.v]∧Below w.heap.size w w'∧w.heap.size≤b6∧R.rep (fun k=>(S k∧¬L.own k)∨(w.heap.size≤k∧k<w'.heap.size)) w' r.1 [y0,y1]∧Row w' b5 146 [y0,y1])
 case first =>
  refine aLq (S:=(fun w'=>Below w.heap.size w w'∧w'.cell? ⟨L.g,t*30,none⟩=some (.pointer (some ⟨L.bS,0,none⟩))∧w'.cell? ⟨L.bS,1,none⟩=some (.iface L.oT L.ov)∧w'.cell? ⟨L.g,t*30+15,none⟩=some x0∧w'.cell? ⟨L.g,t*30+16,none⟩=some x1∧w'.cell? ⟨w.heap.size,0,none⟩=some (.int .i64 ((E.th t).heard 0))∧w'.cell? ⟨w.heap.size,1,none⟩=some (.int .i64 ((E.th t).heard 1))∧w'.cell? ⟨w.heap.size,2,none⟩=some (.int .i64 ((E.th t).heard 2)))) 25 rfl (by kernel_rfl) ?_ (fun Wd hWd hHeld=>?_)
  ·exact ⟨Below.drew kS,e0,e1,xe0,xe1,o0,o1,o2⟩
  have zd1:Wd.heap.size≤W1.heap.size:=by rw [hWd];exact Nat.le_refl _
  have zd2:W1.heap.size≤Wd.heap.size:=by rw [hWd];exact Nat.le_refl _
  clear hWd
  iterate 17 (refine tk 24 (by rfl) (by kernel_rfl) (by exact fun _ _ _ h=>h) (.inl ⟨by rfl,fun w hS=>by (try dsimp only at hS);go_simp;(try with_reducible rfl)⟩) (by assumption) ?_;try go_frame)
  refine wpAnyH_ready (rs:=[17,21,22]) (by kernel_rfl) (by simp) (rc (by rfl) (fun K hK=>?_) (rc (by rfl) (fun K hK=>?_) (rc (by rfl) (fun K hK=>?_) AllReadyH.nil)))
  ·go_simp
   have zc:=hHeld.1.size
   refine (YK.out _ hHeld.1).mono ?_
   rintro e w2 ⟨z0,z1,rfl,hz,aZ⟩
   obtain ⟨q0,rfl⟩:=R.shape hz z0 (by simp)
   obtain ⟨q1,rfl⟩:=R.shape hz z1 (by simp)
   have z2:=aZ.size
   (try replace r5:=r5.old aZ)
   (try replace r6:=r6.old aZ)
   go_wp2_with fail
   refine hK.out _ _ ?_ (fun hHeld=>?_)
   ·exact fU aZ hHeld
   clear hK K
   (try go_frame)
   iterate 3 (refine tk 24 (by rfl) (by kernel_rfl) (by exact fun _ _ _ h=>h) (.inl ⟨by rfl,fun w hS=>by (try dsimp only at hS);go_simp;(try with_reducible rfl)⟩) (by assumption) ?_;try go_frame)
   refine wpAnyH_ready (rs:=[21,22]) (by kernel_rfl) (by simp) (rc (by rfl) (fun K hK=>?_) (rc (by rfl) (fun K hK=>?_) AllReadyH.nil))
   ·go_simp
    have l5:=hHeld.1.size
    generalize IA:World.alloc _ _=W5
    have r5:=fC (xs:=[.pointer none,.pointer none]) IA
    have AO:=dW IA
    have z5:=AO.size
    have x5:=r5.lt
    (try replace r6:=r6.old AO)
    (try replace hz:=R.stay (fun k hk hlt=>⟨hk,AO.block k hlt⟩) hz)
    clear IA
    refine hK.out _ _ ?_ (fun hHeld=>?_)
    ·exact fU AO hHeld
    clear hK K
    (try go_frame)
    refine bQ 22 (by rfl) (by kernel_rfl) (fun K hK=>?_)
    go_simp
    have l6:=hHeld.1.size
    generalize IB:World.alloc _ _=W6
    have r6:=fC (xs:=[.int .i64 0,.int .i64 0]) IB
    have AP:=dW IB
    have z6:=AP.size
    have x6:=r6.lt
    (try replace r5:=r5.old AP)
    (try replace hz:=R.stay (fun k hk hlt=>⟨hk,AP.block k hlt⟩) hz)
    clear IB
    refine hK.out _ _ ?_ (fun hHeld=>?_)
    ·exact fU AP hHeld
    clear hK K
    (try go_frame)
    refine bQ 23 (by rfl) (by kernel_rfl) (fun K hK=>?_)
    rw [if_pos (by rfl)]
    refine wp_store_mid _ _ _ rfl _ 0 #[.pointer q0,.pointer q1] rfl rfl (r5.there (by simp)) (by kernel_rfl) (by simp [Value.oneCell']) ?_
    have CR:=pJ r5 [.pointer q0,.pointer q1] (by omega) (by omega) (by omega) (by omega) hHeld
    replace hz:=uB r5 hz zS (by omega) (by omega) [.pointer q0,.pointer q1]
    replace r6:=Row.cH (Row.apart r6 r5 (by decide)) [.pointer q0,.pointer q1] 0 r6
    replace r5:=Row.CS r5 (x:=.pointer q0) (y:=.pointer q1)
    refine hK.out _ _ ?_ (fun hHeld=>?_)
    ·exact CR
    clear hK K
    (try go_frame)
    refine bQ 24 (by rfl) (by kernel_rfl) (fun K hK=>?_)
    rw [if_pos (by rfl)]
    refine wp_store_mid _ _ _ rfl _ 0 #[.int .i64 r.2.s,.int .i64 r.2.v] rfl rfl (r6.there (by simp)) (by kernel_rfl) (by simp [Value.oneCell']) ?_
    have CT:=pJ r6 [.int .i64 r.2.s,.int .i64 r.2.v] (by omega) (by omega) (by omega) (by omega) hHeld
    replace hz:=uB r6 hz zS (by omega) (by omega) [.int .i64 r.2.s,.int .i64 r.2.v]
    replace r5:=Row.cH (Row.apart r5 r6 (by decide)) [.int .i64 r.2.s,.int .i64 r.2.v] 0 r5
    replace r6:=Row.CS r6 (x:=.int .i64 r.2.s) (y:=.int .i64 r.2.v)
    refine hK.out _ _ ?_ (fun hHeld=>?_)
    ·exact CT
    clear hK K
    (try go_frame)
    refine wpAnyH_done (by kernel_rfl) ?_ _
    have zf:=hHeld.1.size
    (try go_wp2_with fail)
    go_meet
    case rel=>exact ⟨.pointer q0,.pointer q1,_,_,rfl,rfl,r6,hHeld.1,by omega,R.stay (fun k hk _=>⟨(by
      rcases hk with hk|hk
      ·exact .inl hk
      ·exact .inr ⟨by omega,Nat.lt_of_lt_of_le hk.2 (by rw [gY,gY];omega)⟩),rfl⟩) hz,r5⟩
   ·go_simp
    have l6:=hHeld.1.size
    generalize IB:World.alloc _ _=W6
    have r6:=fC (xs:=[.int .i64 0,.int .i64 0]) IB
    have AP:=dW IB
    have z6:=AP.size
    have x6:=r6.lt
    (try replace r5:=r5.old AP)
    (try replace hz:=R.stay (fun k hk hlt=>⟨hk,AP.block k hlt⟩) hz)
    clear IB
    refine hK.out _ _ ?_ (fun hHeld=>?_)
    ·exact fU AP hHeld
    clear hK K
    (try go_frame)
    refine bQ 21 (by rfl) (by kernel_rfl) (fun K hK=>?_)
    go_simp
    have l5:=hHeld.1.size
    generalize IA:World.alloc _ _=W5
    have r5:=fC (xs:=[.pointer none,.pointer none]) IA
    have AO:=dW IA
    have z5:=AO.size
    have x5:=r5.lt
    (try replace r6:=r6.old AO)
    (try replace hz:=R.stay (fun k hk hlt=>⟨hk,AO.block k hlt⟩) hz)
    clear IA
    refine hK.out _ _ ?_ (fun hHeld=>?_)
    ·exact fU AO hHeld
    clear hK K
    (try go_frame)
    refine bQ 23 (by rfl) (by kernel_rfl) (fun K hK=>?_)
    rw [if_pos (by rfl)]
    refine wp_store_mid _ _ _ rfl _ 0 #[.pointer q0,.pointer q1] rfl rfl (r5.there (by simp)) (by kernel_rfl) (by simp [Value.oneCell']) ?_
    have CR:=pJ r5 [.pointer q0,.pointer q1] (by omega) (by omega) (by omega) (by omega) hHeld
    replace hz:=uB r5 hz zS (by omega) (by omega) [.pointer q0,.pointer q1]
    replace r6:=Row.cH (Row.apart r6 r5 (by decide)) [.pointer q0,.pointer q1] 0 r6
    replace r5:=Row.CS r5 (x:=.pointer q0) (y:=.pointer q1)
    refine hK.out _ _ ?_ (fun hHeld=>?_)
    ·exact CR
    clear hK K
    (try go_frame)
    refine bQ 24 (by rfl) (by kernel_rfl) (fun K hK=>?_)
    rw [if_pos (by rfl)]
    refine wp_store_mid _ _ _ rfl _ 0 #[.int .i64 r.2.s,.int .i64 r.2.v] rfl rfl (r6.there (by simp)) (by kernel_rfl) (by simp [Value.oneCell']) ?_
    have CT:=pJ r6 [.int .i64 r.2.s,.int .i64 r.2.v] (by omega) (by omega) (by omega) (by omega) hHeld
    replace hz:=uB r6 hz zS (by omega) (by omega) [.int .i64 r.2.s,.int .i64 r.2.v]
    replace r5:=Row.cH (Row.apart r5 r6 (by decide)) [.int .i64 r.2.s,.int .i64 r.2.v] 0 r5
    replace r6:=Row.CS r6 (x:=.int .i64 r.2.s) (y:=.int .i64 r.2.v)
    refine hK.out _ _ ?_ (fun hHeld=>?_)
    ·exact CT
    clear hK K
    (try go_frame)
    refine wpAnyH_done (by kernel_rfl) ?_ _
    have zf:=hHeld.1.size
    (try go_wp2_with fail)
    go_meet
    case rel=>exact ⟨.pointer q0,.pointer q1,_,_,rfl,rfl,r6,hHeld.1,by omega,R.stay (fun k hk _=>⟨(by
      rcases hk with hk|hk
      ·exact .inl hk
      ·exact .inr ⟨by omega,Nat.lt_of_lt_of_le hk.2 (by rw [gY,gY];omega)⟩),rfl⟩) hz,r5⟩
  ·go_simp
   have l5:=hHeld.1.size
   generalize IA:World.alloc _ _=W5
   have r5:=fC (xs:=[.pointer none,.pointer none]) IA
   have AO:=dW IA
   have z5:=AO.size
   have x5:=r5.lt
   (try replace r6:=r6.old AO)
   (try replace hz:=R.stay (fun k hk hlt=>⟨hk,AO.block k hlt⟩) hz)
   clear IA
   refine hK.out _ _ ?_ (fun hHeld=>?_)
   ·exact fU AO hHeld
   clear hK K
   (try go_frame)
   refine wpAnyH_ready (rs:=[17,22]) (by kernel_rfl) (by simp) (rc (by rfl) (fun K hK=>?_) (rc (by rfl) (fun K hK=>?_) AllReadyH.nil))
   ·go_simp
    have zc:=hHeld.1.size
    refine (YK.out _ hHeld.1).mono ?_
    rintro e w2 ⟨z0,z1,rfl,hz,aZ⟩
    obtain ⟨q0,rfl⟩:=R.shape hz z0 (by simp)
    obtain ⟨q1,rfl⟩:=R.shape hz z1 (by simp)
    have z2:=aZ.size
    (try replace r5:=r5.old aZ)
    (try replace r6:=r6.old aZ)
    go_wp2_with fail
    refine hK.out _ _ ?_ (fun hHeld=>?_)
    ·exact fU aZ hHeld
    clear hK K
    (try go_frame)
    iterate 3 (refine tk 23 (by rfl) (by kernel_rfl) (by exact fun _ _ _ h=>h) (.inl ⟨by rfl,fun w hS=>by (try dsimp only at hS);go_simp;(try with_reducible rfl)⟩) (by assumption) ?_;try go_frame)
    refine bQ 22 (by rfl) (by kernel_rfl) (fun K hK=>?_)
    go_simp
    have l6:=hHeld.1.size
    generalize IB:World.alloc _ _=W6
    have r6:=fC (xs:=[.int .i64 0,.int .i64 0]) IB
    have AP:=dW IB
    have z6:=AP.size
    have x6:=r6.lt
    (try replace r5:=r5.old AP)
    (try replace hz:=R.stay (fun k hk hlt=>⟨hk,AP.block k hlt⟩) hz)
    clear IB
    refine hK.out _ _ ?_ (fun hHeld=>?_)
    ·exact fU AP hHeld
    clear hK K
    (try go_frame)
    refine bQ 23 (by rfl) (by kernel_rfl) (fun K hK=>?_)
    rw [if_pos (by rfl)]
    refine wp_store_mid _ _ _ rfl _ 0 #[.pointer q0,.pointer q1] rfl rfl (r5.there (by simp)) (by kernel_rfl) (by simp [Value.oneCell']) ?_
    have CR:=pJ r5 [.pointer q0,.pointer q1] (by omega) (by omega) (by omega) (by omega) hHeld
    replace hz:=uB r5 hz zS (by omega) (by omega) [.pointer q0,.pointer q1]
    replace r6:=Row.cH (Row.apart r6 r5 (by decide)) [.pointer q0,.pointer q1] 0 r6
    replace r5:=Row.CS r5 (x:=.pointer q0) (y:=.pointer q1)
    refine hK.out _ _ ?_ (fun hHeld=>?_)
    ·exact CR
    clear hK K
    (try go_frame)
    refine bQ 24 (by rfl) (by kernel_rfl) (fun K hK=>?_)
    rw [if_pos (by rfl)]
    refine wp_store_mid _ _ _ rfl _ 0 #[.int .i64 r.2.s,.int .i64 r.2.v] rfl rfl (r6.there (by simp)) (by kernel_rfl) (by simp [Value.oneCell']) ?_
    have CT:=pJ r6 [.int .i64 r.2.s,.int .i64 r.2.v] (by omega) (by omega) (by omega) (by omega) hHeld
    replace hz:=uB r6 hz zS (by omega) (by omega) [.int .i64 r.2.s,.int .i64 r.2.v]
    replace r5:=Row.cH (Row.apart r5 r6 (by decide)) [.int .i64 r.2.s,.int .i64 r.2.v] 0 r5
    replace r6:=Row.CS r6 (x:=.int .i64 r.2.s) (y:=.int .i64 r.2.v)
    refine hK.out _ _ ?_ (fun hHeld=>?_)
    ·exact CT
    clear hK K
    (try go_frame)
    refine wpAnyH_done (by kernel_rfl) ?_ _
    have zf:=hHeld.1.size
    (try go_wp2_with fail)
    go_meet
    case rel=>exact ⟨.pointer q0,.pointer q1,_,_,rfl,rfl,r6,hHeld.1,by omega,R.stay (fun k hk _=>⟨(by
      rcases hk with hk|hk
      ·exact .inl hk
      ·exact .inr ⟨by omega,Nat.lt_of_lt_of_le hk.2 (by rw [gY,gY];omega)⟩),rfl⟩) hz,r5⟩
   ·go_simp
    have l6:=hHeld.1.size
    generalize IB:World.alloc _ _=W6
    have r6:=fC (xs:=[.int .i64 0,.int .i64 0]) IB
    have AP:=dW IB
    have z6:=AP.size
    have x6:=r6.lt
    (try replace r5:=r5.old AP)
    (try replace hz:=R.stay (fun k hk hlt=>⟨hk,AP.block k hlt⟩) hz)
    clear IB
    refine hK.out _ _ ?_ (fun hHeld=>?_)
    ·exact fU AP hHeld
    clear hK K
    (try go_frame)
    refine bQ 17 (by rfl) (by kernel_rfl) (fun K hK=>?_)
    go_simp
    have zc:=hHeld.1.size
    refine (YK.out _ hHeld.1).mono ?_
    rintro e w2 ⟨z0,z1,rfl,hz,aZ⟩
    obtain ⟨q0,rfl⟩:=R.shape hz z0 (by simp)
    obtain ⟨q1,rfl⟩:=R.shape hz z1 (by simp)
    have z2:=aZ.size
    (try replace r5:=r5.old aZ)
    (try replace r6:=r6.old aZ)
    go_wp2_with fail
    refine hK.out _ _ ?_ (fun hHeld=>?_)
    ·exact fU aZ hHeld
    clear hK K
    (try go_frame)
    iterate 3 (refine tk 22 (by rfl) (by kernel_rfl) (by exact fun _ _ _ h=>h) (.inl ⟨by rfl,fun w hS=>by (try dsimp only at hS);go_simp;(try with_reducible rfl)⟩) (by assumption) ?_;try go_frame)
    refine bQ 23 (by rfl) (by kernel_rfl) (fun K hK=>?_)
    rw [if_pos (by rfl)]
    refine wp_store_mid _ _ _ rfl _ 0 #[.pointer q0,.pointer q1] rfl rfl (r5.there (by simp)) (by kernel_rfl) (by simp [Value.oneCell']) ?_
    have CR:=pJ r5 [.pointer q0,.pointer q1] (by omega) (by omega) (by omega) (by omega) hHeld
    replace hz:=uB r5 hz zS (by omega) (by omega) [.pointer q0,.pointer q1]
    replace r6:=Row.cH (Row.apart r6 r5 (by decide)) [.pointer q0,.pointer q1] 0 r6
    replace r5:=Row.CS r5 (x:=.pointer q0) (y:=.pointer q1)
    refine hK.out _ _ ?_ (fun hHeld=>?_)
    ·exact CR
    clear hK K
    (try go_frame)
    refine bQ 24 (by rfl) (by kernel_rfl) (fun K hK=>?_)
    rw [if_pos (by rfl)]
    refine wp_store_mid _ _ _ rfl _ 0 #[.int .i64 r.2.s,.int .i64 r.2.v] rfl rfl (r6.there (by simp)) (by kernel_rfl) (by simp [Value.oneCell']) ?_
    have CT:=pJ r6 [.int .i64 r.2.s,.int .i64 r.2.v] (by omega) (by omega) (by omega) (by omega) hHeld
    replace hz:=uB r6 hz zS (by omega) (by omega) [.int .i64 r.2.s,.int .i64 r.2.v]
    replace r5:=Row.cH (Row.apart r5 r6 (by decide)) [.int .i64 r.2.s,.int .i64 r.2.v] 0 r5
    replace r6:=Row.CS r6 (x:=.int .i64 r.2.s) (y:=.int .i64 r.2.v)
    refine hK.out _ _ ?_ (fun hHeld=>?_)
    ·exact CT
    clear hK K
    (try go_frame)
    refine wpAnyH_done (by kernel_rfl) ?_ _
    have zf:=hHeld.1.size
    (try go_wp2_with fail)
    go_meet
    case rel=>exact ⟨.pointer q0,.pointer q1,_,_,rfl,rfl,r6,hHeld.1,by omega,R.stay (fun k hk _=>⟨(by
      rcases hk with hk|hk
      ·exact .inl hk
      ·exact .inr ⟨by omega,Nat.lt_of_lt_of_le hk.2 (by rw [gY,gY];omega)⟩),rfl⟩) hz,r5⟩
  ·go_simp
   have l6:=hHeld.1.size
   generalize IB:World.alloc _ _=W6
   have r6:=fC (xs:=[.int .i64 0,.int .i64 0]) IB
   have AP:=dW IB
   have z6:=AP.size
   have x6:=r6.lt
   (try replace r5:=r5.old AP)
   (try replace hz:=R.stay (fun k hk hlt=>⟨hk,AP.block k hlt⟩) hz)
   clear IB
   refine hK.out _ _ ?_ (fun hHeld=>?_)
   ·exact fU AP hHeld
   clear hK K
   (try go_frame)
   refine wpAnyH_ready (rs:=[17,21]) (by kernel_rfl) (by simp) (rc (by rfl) (fun K hK=>?_) (rc (by rfl) (fun K hK=>?_) AllReadyH.nil))
   ·go_simp
    have zc:=hHeld.1.size
    refine (YK.out _ hHeld.1).mono ?_
    rintro e w2 ⟨z0,z1,rfl,hz,aZ⟩
    obtain ⟨q0,rfl⟩:=R.shape hz z0 (by simp)
    obtain ⟨q1,rfl⟩:=R.shape hz z1 (by simp)
    have z2:=aZ.size
    (try replace r5:=r5.old aZ)
    (try replace r6:=r6.old aZ)
    go_wp2_with fail
    refine hK.out _ _ ?_ (fun hHeld=>?_)
    ·exact fU aZ hHeld
    clear hK K
    (try go_frame)
    iterate 3 (refine tk 23 (by rfl) (by kernel_rfl) (by exact fun _ _ _ h=>h) (.inl ⟨by rfl,fun w hS=>by (try dsimp only at hS);go_simp;(try with_reducible rfl)⟩) (by assumption) ?_;try go_frame)
    refine bQ 21 (by rfl) (by kernel_rfl) (fun K hK=>?_)
    go_simp
    have l5:=hHeld.1.size
    generalize IA:World.alloc _ _=W5
    have r5:=fC (xs:=[.pointer none,.pointer none]) IA
    have AO:=dW IA
    have z5:=AO.size
    have x5:=r5.lt
    (try replace r6:=r6.old AO)
    (try replace hz:=R.stay (fun k hk hlt=>⟨hk,AO.block k hlt⟩) hz)
    clear IA
    refine hK.out _ _ ?_ (fun hHeld=>?_)
    ·exact fU AO hHeld
    clear hK K
    (try go_frame)
    refine bQ 23 (by rfl) (by kernel_rfl) (fun K hK=>?_)
    rw [if_pos (by rfl)]
    refine wp_store_mid _ _ _ rfl _ 0 #[.pointer q0,.pointer q1] rfl rfl (r5.there (by simp)) (by kernel_rfl) (by simp [Value.oneCell']) ?_
    have CR:=pJ r5 [.pointer q0,.pointer q1] (by omega) (by omega) (by omega) (by omega) hHeld
    replace hz:=uB r5 hz zS (by omega) (by omega) [.pointer q0,.pointer q1]
    replace r6:=Row.cH (Row.apart r6 r5 (by decide)) [.pointer q0,.pointer q1] 0 r6
    replace r5:=Row.CS r5 (x:=.pointer q0) (y:=.pointer q1)
    refine hK.out _ _ ?_ (fun hHeld=>?_)
    ·exact CR
    clear hK K
    (try go_frame)
    refine bQ 24 (by rfl) (by kernel_rfl) (fun K hK=>?_)
    rw [if_pos (by rfl)]
    refine wp_store_mid _ _ _ rfl _ 0 #[.int .i64 r.2.s,.int .i64 r.2.v] rfl rfl (r6.there (by simp)) (by kernel_rfl) (by simp [Value.oneCell']) ?_
    have CT:=pJ r6 [.int .i64 r.2.s,.int .i64 r.2.v] (by omega) (by omega) (by omega) (by omega) hHeld
    replace hz:=uB r6 hz zS (by omega) (by omega) [.int .i64 r.2.s,.int .i64 r.2.v]
    replace r5:=Row.cH (Row.apart r5 r6 (by decide)) [.int .i64 r.2.s,.int .i64 r.2.v] 0 r5
    replace r6:=Row.CS r6 (x:=.int .i64 r.2.s) (y:=.int .i64 r.2.v)
    refine hK.out _ _ ?_ (fun hHeld=>?_)
    ·exact CT
    clear hK K
    (try go_frame)
    refine wpAnyH_done (by kernel_rfl) ?_ _
    have zf:=hHeld.1.size
    (try go_wp2_with fail)
    go_meet
    case rel=>exact ⟨.pointer q0,.pointer q1,_,_,rfl,rfl,r6,hHeld.1,by omega,R.stay (fun k hk _=>⟨(by
      rcases hk with hk|hk
      ·exact .inl hk
      ·exact .inr ⟨by omega,Nat.lt_of_lt_of_le hk.2 (by rw [gY,gY];omega)⟩),rfl⟩) hz,r5⟩
   ·go_simp
    have l5:=hHeld.1.size
    generalize IA:World.alloc _ _=W5
    have r5:=fC (xs:=[.pointer none,.pointer none]) IA
    have AO:=dW IA
    have z5:=AO.size
    have x5:=r5.lt
    (try replace r6:=r6.old AO)
    (try replace hz:=R.stay (fun k hk hlt=>⟨hk,AO.block k hlt⟩) hz)
    clear IA
    refine hK.out _ _ ?_ (fun hHeld=>?_)
    ·exact fU AO hHeld
    clear hK K
    (try go_frame)
    refine bQ 17 (by rfl) (by kernel_rfl) (fun K hK=>?_)
    go_simp
    have zc:=hHeld.1.size
    refine (YK.out _ hHeld.1).mono ?_
    rintro e w2 ⟨z0,z1,rfl,hz,aZ⟩
    obtain ⟨q0,rfl⟩:=R.shape hz z0 (by simp)
    obtain ⟨q1,rfl⟩:=R.shape hz z1 (by simp)
    have z2:=aZ.size
    (try replace r5:=r5.old aZ)
    (try replace r6:=r6.old aZ)
    go_wp2_with fail
    refine hK.out _ _ ?_ (fun hHeld=>?_)
    ·exact fU aZ hHeld
    clear hK K
    (try go_frame)
    iterate 3 (refine tk 22 (by rfl) (by kernel_rfl) (by exact fun _ _ _ h=>h) (.inl ⟨by rfl,fun w hS=>by (try dsimp only at hS);go_simp;(try with_reducible rfl)⟩) (by assumption) ?_;try go_frame)
    refine bQ 23 (by rfl) (by kernel_rfl) (fun K hK=>?_)
    rw [if_pos (by rfl)]
    refine wp_store_mid _ _ _ rfl _ 0 #[.pointer q0,.pointer q1] rfl rfl (r5.there (by simp)) (by kernel_rfl) (by simp [Value.oneCell']) ?_
    have CR:=pJ r5 [.pointer q0,.pointer q1] (by omega) (by omega) (by omega) (by omega) hHeld
    replace hz:=uB r5 hz zS (by omega) (by omega) [.pointer q0,.pointer q1]
    replace r6:=Row.cH (Row.apart r6 r5 (by decide)) [.pointer q0,.pointer q1] 0 r6
    replace r5:=Row.CS r5 (x:=.pointer q0) (y:=.pointer q1)
    refine hK.out _ _ ?_ (fun hHeld=>?_)
    ·exact CR
    clear hK K
    (try go_frame)
    refine bQ 24 (by rfl) (by kernel_rfl) (fun K hK=>?_)
    rw [if_pos (by rfl)]
    refine wp_store_mid _ _ _ rfl _ 0 #[.int .i64 r.2.s,.int .i64 r.2.v] rfl rfl (r6.there (by simp)) (by kernel_rfl) (by simp [Value.oneCell']) ?_
    have CT:=pJ r6 [.int .i64 r.2.s,.int .i64 r.2.v] (by omega) (by omega) (by omega) (by omega) hHeld
    replace hz:=uB r6 hz zS (by omega) (by omega) [.int .i64 r.2.s,.int .i64 r.2.v]
    replace r5:=Row.cH (Row.apart r5 r6 (by decide)) [.int .i64 r.2.s,.int .i64 r.2.v] 0 r5
    replace r6:=Row.CS r6 (x:=.int .i64 r.2.s) (y:=.int .i64 r.2.v)
    refine hK.out _ _ ?_ (fun hHeld=>?_)
    ·exact CT
    clear hK K
    (try go_frame)
    refine wpAnyH_done (by kernel_rfl) ?_ _
    have zf:=hHeld.1.size
    (try go_wp2_with fail)
    go_meet
    case rel=>exact ⟨.pointer q0,.pointer q1,_,_,rfl,rfl,r6,hHeld.1,by omega,R.stay (fun k hk _=>⟨(by
      rcases hk with hk|hk
      ·exact .inl hk
      ·exact .inr ⟨by omega,Nat.lt_of_lt_of_le hk.2 (by rw [gY,gY];omega)⟩),rfl⟩) hz,r5⟩
 case rest =>
  obtain ⟨z0,z1,b5,b6,rfl,rfl,ZV,hbc,h6,ES,WJ⟩:=hcut
  obtain ⟨q0,rfl⟩:=R.shape ES z0 (by simp)
  obtain ⟨q1,rfl⟩:=R.shape ES z1 (by simp)
  have hst:∀ k,(S k∧¬L.own k)→k<w.heap.size→(grown S w wc k∧¬L.own k)∧wc.heap[k]?=w.heap[k]?:=fun k hk hlt=>⟨⟨.inl hk.1,hk.2⟩,hbc.block k hlt⟩
  have ZW:R.rep (fun k=>grown S w wc k∧¬L.own k) wc r.1 [.pointer q0,.pointer q1]:=R.stay (fun k (hk:(S k∧¬L.own k)∨(w.heap.size≤k∧k<wc.heap.size)) _=>⟨by
   rcases hk with hk|hk
   ·exact ⟨.inl hk.1,hk.2⟩
   ·exact ⟨.inr hk,fun q=>by have:=HH.out.lt _ (HH.out.ow _ q);omega⟩,rfl⟩) ES
  have vr:aV R (fun k=>grown S w wc k∧¬L.own k) wc {v with st:=r.1} ([.pointer q0,.pointer q1]++[xl]):=by
   obtain ⟨sc,b,hsc,-,hbb⟩:=HV.out.1
   have e:=(List.append_inj' hsc rfl).2
   exact ⟨[.pointer q0,.pointer q1],b,by rw [e],ZW,cP.stay hst zS _ _ hbb⟩
  have fr:=aV.stay hst zS HV.out.2
  have WG:=aF.below HH.out hbc
  obtain ⟨r2,k2⟩:=WG.re.jQ ht [.pointer q0,.pointer q1] 0 (by simp) (by simp) vr fr (fun j hj=>by
   by_cases q:j<2
   ·rw [if_pos ⟨Nat.zero_le _,by simpa using q⟩,List.append_assoc,List.getElem?_append_left (by simpa using q)]
    rfl
   ·rw [if_neg (by simpa using q),hbc.cell (p:=⟨L.g,t*30+(15+j),none⟩) MG,HX.out j hj]
    exact AL (c:=2) [x0,x1] [.pointer q0,.pointer q1] [xl] [y0,y1,y2] rfl rfl (by omega)) {E.th t with now:=some {v with st:=r.1}} (by rw [←HC.out.2])
  have yL:=WG.next (aF.of r2 k2 rfl)
  obtain ⟨cv5,cf5,pv5,TM,CJ,CL,-,TN⟩:=WG.re.cells ht rfl
  obtain ⟨c0,c1,c2,rfl⟩:=aE CJ.1
  obtain ⟨d0,d1,d2,rfl⟩:=aE CL.1
  have oc0:=TM 15 _ (by decide) rfl
  have of0:=TN (t*30+15)
  have oc1:=TM 16 _ (by decide) rfl
  have of1:=TN (t*30+16)
  have FN:=aA yL
  have YL:=aA (And.intro ZV h6)
  have HBC:=aA hbc
  have s50:=WJ.cell_of (i:=0) rfl
  have s51:=WJ.cell_of (i:=1) rfl
  clear WJ
  clear hst ZW vr fr WG r2 k2 yL TM CJ CL TN ZV ES hbc hm hcl
  go_upto_region 3 with fail
  generalize kE:World.setCell _ _ _=W2
  have yL:aF R L S w {E with th:=aI E.th t {E.th t with now:=some {v with st:=r.1}}} W2:=by rw [←kE];exact FN.out
  have FH:Row W2 b6 94 [.int .i64 r.2.s,.int .i64 r.2.v]:=by rw [←kE];exact (show Row (wc.setCells L.g (t*30+(15+0)) [.pointer q0,.pointer q1]) b6 94 _ from Row.cH (by omega) _ _ YL.out.1)
  clear kE FN
  obtain ⟨cv6,cf6,pv6,hc6,-,-,-,-⟩:=yL.re.cells ht (aC _ _ _)
  have g0:W2.cell? ⟨L.g,t*30,none⟩=some (.pointer (some ⟨L.bS,0,none⟩)):=hc6 0 _ (by decide) rfl
  have g14:=hc6 14 _ (by decide) rfl
  have gs0:W2.cell? ⟨L.bS,0,none⟩=some (.int .i64 (L.n:Int)):=yL.re.sh.cell_of rfl
  have ga0:W2.cell? ⟨b6,0,none⟩=some (.int .i64 r.2.s):=FH.cell_of rfl
  have ga1:W2.cell? ⟨b6,1,none⟩=some (.int .i64 r.2.v):=FH.cell_of rfl
  have hsk:M.aL L.n k<M.aQ L.n:=by unfold M.aL M.aQ;omega
  have hvk:M.aN L.n k<M.aQ L.n:=by unfold M.aN M.aQ;omega
  have KW:M.aQ L.n≤200:=by unfold M.aQ M.tw;omega
  have th1:W2.there (L.gD t) (M.aL L.n k) 1:=(yL.re.gd t ht).there hsk
  have th2:W2.there (L.gD t) (M.aN L.n k) 1:=(yL.re.gd t ht).there hvk
  have ngD:L.g≠L.gD t:=by obtain ⟨T,q,-⟩:=HH.out.th;exact Row.apart q (HH.out.gd t ht) (by decide)
  have nSD:L.bS≠L.gD t:=Row.apart HH.out.sh (HH.out.gd t ht) (by decide)
  have n6D:b6≠L.gD t:=fun q=>by have:=HH.out.lt _ (HH.out.ow _ (pF ht));have:=YL.out.2;omega
  have FN:=aA yL
  generalize WH:M.aL L.n k=sk at *
  generalize WI:M.aN L.n k=vk at *
  have aG3:(sk:Int)<(M.aQ L.n:Int):=by omega
  have aG4:(vk:Int)<(M.aQ L.n:Int):=by omega
  clear yL FH hc6
  go_cut [6] (fun an w'=>an = .pointer (some ⟨b6,0,none⟩)∧aF R L S w {E with th:=aI (aI E.th t {E.th t with now:=some {v with st:=r.1}}) t {(aI E.th t {E.th t with now:=some {v with st:=r.1}}) t with dw:=aI ((aI E.th t {E.th t with now:=some {v with st:=r.1}}) t).dw sk r.2.s}} w'∧w'.cell? ⟨L.g,t*30,none⟩=some (.pointer (some ⟨L.bS,0,none⟩))∧w'.cell? ⟨L.g,t*30+14,none⟩=some (.slice (some ⟨L.gD t,0,none⟩) (M.aQ L.n) (M.aQ L.n))∧w'.cell? ⟨L.bS,0,none⟩=some (.int .i64 (L.n:Int))∧w'.cell? ⟨b6,1,none⟩=some (.int .i64 r.2.v)∧w'.there (L.gD t) vk 1)
  case first =>
   refine fR (S:=(fun w'=>w'.cell? ⟨L.g,t*30,none⟩=some (.pointer (some ⟨L.bS,0,none⟩))∧w'.cell? ⟨L.g,t*30+14,none⟩=some (.slice (some ⟨L.gD t,0,none⟩) (M.aQ L.n) (M.aQ L.n))∧w'.cell? ⟨L.bS,0,none⟩=some (.int .i64 (L.n:Int))∧w'.cell? ⟨b6,0,none⟩=some (.int .i64 r.2.s)∧w'.cell? ⟨b6,1,none⟩=some (.int .i64 r.2.v)∧w'.there (L.gD t) (sk) 1∧w'.there (L.gD t) (vk) 1)) 18 rfl (by kernel_rfl) ?_ (fun hHeld=>?_)
   ·exact ⟨g0,g14,gs0,ga0,ga1,th1,th2⟩
   iterate 13 (refine tk 17 (by rfl) (by kernel_rfl) (by exact fun _ _ _ h=>h) (.inl ⟨by rfl,fun w hS=>by (try dsimp only at hS);go_simp;(try with_reducible rfl)⟩) (by assumption) ?_;try go_frame)
   iterate 2 (refine tk 18 (by rfl) (by kernel_rfl) (by exact fun _ _ _ h=>h) (.inl ⟨by rfl,fun w hS=>by (try dsimp only at hS);go_simp;(try with_reducible rfl)⟩) (by assumption) ?_;try go_frame)
   refine bQ 13 (by rfl) (by kernel_rfl) (fun K hK=>?_)
   go_simp
   refine (sL L.n k _ zF hn hk).mono ?_
   rintro e w3 ⟨rfl,cE⟩
   rw [WH]
   go_wp2_with fail
   refine hK.out _ _ ?_ (fun hHeld=>?_)
   ·exact ⟨cell_later cE hHeld.1,cell_later cE hHeld.2.1,cell_later cE hHeld.2.2.1,cell_later cE hHeld.2.2.2.1,cell_later cE hHeld.2.2.2.2.1,aT cE hHeld.2.2.2.2.2.1,aT cE hHeld.2.2.2.2.2.2⟩
   clear hK K
   (try go_frame)
   iterate 1 (refine tk 17 (by rfl) (by kernel_rfl) (by exact fun _ _ _ h=>h) (.inl ⟨by rfl,fun w hS=>by (try dsimp only at hS);go_simp;(try with_reducible rfl)⟩) (by assumption) ?_;try go_frame)
   refine bQ 17 (by rfl) (by kernel_rfl) (fun K hK=>?_)
   rw [if_pos (by rfl)]
   refine aU _ _ _ rfl (L.gD t) sk (.int .i64 r.2.s) rfl rfl rfl rfl hHeld.2.2.2.2.2.1 (by kernel_rfl) ?_
   refine hK.out _ _ ?_ (fun hHeld=>?_)
   ·exact ⟨aH hHeld.1 (by first|exact .inr (by dsimp only;omega)|exact .inl (by assumption)|exact .inl (Ne.symm (by assumption))),aH hHeld.2.1 (by first|exact .inr (by dsimp only;omega)|exact .inl (by assumption)|exact .inl (Ne.symm (by assumption))),aH hHeld.2.2.1 (by first|exact .inr (by dsimp only;omega)|exact .inl (by assumption)|exact .inl (Ne.symm (by assumption))),aH hHeld.2.2.2.1 (by first|exact .inr (by dsimp only;omega)|exact .inl (by assumption)|exact .inl (Ne.symm (by assumption))),aH hHeld.2.2.2.2.1 (by first|exact .inr (by dsimp only;omega)|exact .inl (by assumption)|exact .inl (Ne.symm (by assumption))),cR hHeld.2.2.2.2.2.1 _ rfl _,cR hHeld.2.2.2.2.2.2 _ rfl _⟩
   clear hK K
   (try go_frame)
   refine wpAnyH_done (by kernel_rfl) ?_ _
   have hL3:=FN.out.next (aF.below FN.out.re (Below.bR cE))
   have hL4:=hL3.next (aF.of (hL3.re.fY t ht sk r.2.s) (Fr.set w3 (pF ht) _) rfl)
   have QH:=aA hL4
   clear hL3 hL4 cE
   (try go_wp2_with fail)
   go_meet
   case rel=>exact ⟨rfl,QH.out,hHeld.1,hHeld.2.1,hHeld.2.2.1,hHeld.2.2.2.2.1,hHeld.2.2.2.2.2.2⟩
  case rest =>
   obtain ⟨rfl,hL5,i0,i14,is0,ia1,ith⟩:=hcut
   have LB:=aA hL5
   clear hL5 g0 g14 gs0 ga0 ga1 th1 th2
   go_upto_region 4 with fail
   refine fR (S:=(fun w'=>w'.cell? ⟨L.g,t*30,none⟩=some (.pointer (some ⟨L.bS,0,none⟩))∧w'.cell? ⟨L.g,t*30+14,none⟩=some (.slice (some ⟨L.gD t,0,none⟩) (M.aQ L.n) (M.aQ L.n))∧w'.cell? ⟨L.bS,0,none⟩=some (.int .i64 (L.n:Int))∧w'.cell? ⟨b6,1,none⟩=some (.int .i64 r.2.v)∧w'.there (L.gD t) (vk) 1)) 18 rfl (by kernel_rfl) ?_ (fun hHeld=>?_)
   ·exact ⟨i0,i14,is0,ia1,ith⟩
   iterate 13 (refine tk 17 (by rfl) (by kernel_rfl) (by exact fun _ _ _ h=>h) (.inl ⟨by rfl,fun w hS=>by (try dsimp only at hS);go_simp;(try with_reducible rfl)⟩) (by assumption) ?_;try go_frame)
   iterate 2 (refine tk 18 (by rfl) (by kernel_rfl) (by exact fun _ _ _ h=>h) (.inl ⟨by rfl,fun w hS=>by (try dsimp only at hS);go_simp;(try with_reducible rfl)⟩) (by assumption) ?_;try go_frame)
   refine bQ 13 (by rfl) (by kernel_rfl) (fun K hK=>?_)
   go_simp
   refine (qB L.n k _ zF hn hk).mono ?_
   rintro e w7 ⟨rfl,CQ⟩
   rw [WI]
   go_wp2_with fail
   refine hK.out _ _ ?_ (fun hHeld=>?_)
   ·exact ⟨cell_later CQ hHeld.1,cell_later CQ hHeld.2.1,cell_later CQ hHeld.2.2.1,cell_later CQ hHeld.2.2.2.1,aT CQ hHeld.2.2.2.2⟩
   clear hK K
   (try go_frame)
   iterate 1 (refine tk 17 (by rfl) (by kernel_rfl) (by exact fun _ _ _ h=>h) (.inl ⟨by rfl,fun w hS=>by (try dsimp only at hS);go_simp;(try with_reducible rfl)⟩) (by assumption) ?_;try go_frame)
   refine bQ 17 (by rfl) (by kernel_rfl) (fun K hK=>?_)
   rw [if_pos (by rfl)]
   refine aU _ _ _ rfl (L.gD t) vk (.int .i64 r.2.v) rfl rfl rfl rfl hHeld.2.2.2.2 (by kernel_rfl) ?_
   refine hK.out _ _ ?_ (fun hHeld=>?_)
   ·exact ⟨aH hHeld.1 (by first|exact .inr (by dsimp only;omega)|exact .inl (by assumption)|exact .inl (Ne.symm (by assumption))),aH hHeld.2.1 (by first|exact .inr (by dsimp only;omega)|exact .inl (by assumption)|exact .inl (Ne.symm (by assumption))),aH hHeld.2.2.1 (by first|exact .inr (by dsimp only;omega)|exact .inl (by assumption)|exact .inl (Ne.symm (by assumption))),aH hHeld.2.2.2.1 (by first|exact .inr (by dsimp only;omega)|exact .inl (by assumption)|exact .inl (Ne.symm (by assumption))),cR hHeld.2.2.2.2 _ rfl _⟩
   clear hK K
   (try go_frame)
   refine wpAnyH_done (by kernel_rfl) ?_ _
   have hL7:=LB.out.next (aF.below LB.out.re (Below.bR CQ))
   have hL8:=hL7.next (aF.of (hL7.re.fY t ht vk r.2.v) (Fr.set w7 (pF ht) _) rfl)
   have HL8:=aA hL8
   clear hL7 hL8 CQ hHeld
   go_wp2
   refine bodyPost_end (v:=.tuple #[]) (by simp [results,Tryz.results318,go_sem]) rfl ⟨rfl,HL8.out.cast ?_⟩
   simp only [bM,aC]
   unfold aS.apply
   rw [HC.out.1]
   simp only [←lX.out,WH,WI]
end Go.Proofs.YtefjhnhdagolhaaGreat
