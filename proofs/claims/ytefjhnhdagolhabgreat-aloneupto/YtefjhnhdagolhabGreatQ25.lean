import Derived.Test.YtefjhnhdagolhabGreatQ10
import Derived.Test.YtefjhnhdagolhabGreatQ24
set_option maxHeartbeats 16000000
set_option maxRecDepth 20000
namespace Go.Proofs.YtefjhnhdagolhabGreat
open int list tree
open Go.RowKit
open M (aH aC aE Op cY aS aK aR aL aM)
attribute [local go_sem ↓] Go.wp_at_zero Go.wp_at_succ
theorem int.fR {w W W2:World} {b1 b2 o1 o2 b3:Nat} {u1 u2 u3 u4 u5 v0:Value} (hb:Below W.heap.size W W2) (h:Below w.heap.size w W∧W.cell? ⟨b1,o1,none⟩=some u1∧W.cell? ⟨b2,o2,none⟩=some u2∧W.cell? ⟨b1,o1+15,none⟩=some v0∧W.cell? ⟨b3,0,none⟩=some u3∧W.cell? ⟨b3,1,none⟩=some u4∧W.cell? ⟨b3,2,none⟩=some u5) :
  Below w.heap.size w W2∧W2.cell? ⟨b1,o1,none⟩=some u1∧W2.cell? ⟨b2,o2,none⟩=some u2∧W2.cell? ⟨b1,o1+15,none⟩=some v0∧W2.cell? ⟨b3,0,none⟩=some u3∧W2.cell? ⟨b3,1,none⟩=some u4∧W2.cell? ⟨b3,2,none⟩=some u5:=by
 obtain ⟨h0,h1,h2,k0,h3,h4,h5⟩:=h
 exact ⟨Below.next h0 hb h0.size,cell_later hb h1,cell_later hb h2,cell_later hb k0,cell_later hb h3,cell_later hb h4,cell_later hb h5⟩
theorem list.fR {w W W2:World} {b1 b2 o1 o2 b3:Nat} {u1 u2 u3 u4 u5 v0:Value} (hb:Below W.heap.size W W2) (h:Below w.heap.size w W∧W.cell? ⟨b1,o1,none⟩=some u1∧W.cell? ⟨b2,o2,none⟩=some u2∧W.cell? ⟨b1,o1+15,none⟩=some v0∧W.cell? ⟨b3,0,none⟩=some u3∧W.cell? ⟨b3,1,none⟩=some u4∧W.cell? ⟨b3,2,none⟩=some u5) :
  Below w.heap.size w W2∧W2.cell? ⟨b1,o1,none⟩=some u1∧W2.cell? ⟨b2,o2,none⟩=some u2∧W2.cell? ⟨b1,o1+15,none⟩=some v0∧W2.cell? ⟨b3,0,none⟩=some u3∧W2.cell? ⟨b3,1,none⟩=some u4∧W2.cell? ⟨b3,2,none⟩=some u5:=by
 obtain ⟨h0,h1,h2,k0,h3,h4,h5⟩:=h
 exact ⟨Below.next h0 hb h0.size,cell_later hb h1,cell_later hb h2,cell_later hb k0,cell_later hb h3,cell_later hb h4,cell_later hb h5⟩
theorem tree.fR {w W W2:World} {b1 b2 o1 o2 b3:Nat} {u1 u2 u3 u4 u5 v0:Value} (hb:Below W.heap.size W W2) (h:Below w.heap.size w W∧W.cell? ⟨b1,o1,none⟩=some u1∧W.cell? ⟨b2,o2,none⟩=some u2∧W.cell? ⟨b1,o1+15,none⟩=some v0∧W.cell? ⟨b3,0,none⟩=some u3∧W.cell? ⟨b3,1,none⟩=some u4∧W.cell? ⟨b3,2,none⟩=some u5) :
  Below w.heap.size w W2∧W2.cell? ⟨b1,o1,none⟩=some u1∧W2.cell? ⟨b2,o2,none⟩=some u2∧W2.cell? ⟨b1,o1+15,none⟩=some v0∧W2.cell? ⟨b3,0,none⟩=some u3∧W2.cell? ⟨b3,1,none⟩=some u4∧W2.cell? ⟨b3,2,none⟩=some u5:=by
 obtain ⟨h0,h1,h2,k0,h3,h4,h5⟩:=h
 exact ⟨Below.next h0 hb h0.size,cell_later hb h1,cell_later hb h2,cell_later hb k0,cell_later hb h3,cell_later hb h4,cell_later hb h5⟩
theorem row.fR {w W W2:World} {b1 b2 o1 o2 b3:Nat} {u1 u2 u3 u4 u5 v0 v1:Value} (hb:Below W.heap.size W W2) (h:Below w.heap.size w W∧W.cell? ⟨b1,o1,none⟩=some u1∧W.cell? ⟨b2,o2,none⟩=some u2∧W.cell? ⟨b1,o1+15,none⟩=some v0∧W.cell? ⟨b1,o1+16,none⟩=some v1∧W.cell? ⟨b3,0,none⟩=some u3∧W.cell? ⟨b3,1,none⟩=some u4∧W.cell? ⟨b3,2,none⟩=some u5) :
  Below w.heap.size w W2∧W2.cell? ⟨b1,o1,none⟩=some u1∧W2.cell? ⟨b2,o2,none⟩=some u2∧W2.cell? ⟨b1,o1+15,none⟩=some v0∧W2.cell? ⟨b1,o1+16,none⟩=some v1∧W2.cell? ⟨b3,0,none⟩=some u3∧W2.cell? ⟨b3,1,none⟩=some u4∧W2.cell? ⟨b3,2,none⟩=some u5:=by
 obtain ⟨h0,h1,h2,k0,k1,h3,h4,h5⟩:=h
 exact ⟨Below.next h0 hb h0.size,cell_later hb h1,cell_later hb h2,cell_later hb k0,cell_later hb k1,cell_later hb h3,cell_later hb h4,cell_later hb h5⟩
theorem int.QZ {σ:Type} {R:SR σ} {I:Nat→Prop} {w W w2 w3:World} {b6:Nat} {s:σ} {c:List Value} (hz:R.rep (fun k=>I k∨(W.heap.size≤k∧k<w2.heap.size)) w2 s c) (hI:∀ k,I k→k<w.heap.size) (hwW:w.heap.size≤W.heap.size) (RA:w.heap.size≤b6) (EZ:b6<W.heap.size∨w2.heap.size≤b6)
  (h3:∀ k,k<w2.heap.size→k≠b6→w3.heap[k]?=w2.heap[k]?) (hs:w2.heap.size≤w3.heap.size):R.rep (fun k=>I k∨(w.heap.size≤k∧k<w3.heap.size)) w3 s c:=by
 refine R.stay (fun k hk hlt=>?_) hz
 rcases hk with hk|hk
 ·have:=hI k hk
  exact ⟨.inl hk,h3 k hlt (by omega)⟩
 ·exact ⟨.inr ⟨by omega,by omega⟩,h3 k hlt (by omega)⟩
theorem list.QZ {σ:Type} {R:SR σ} {I:Nat→Prop} {w W w2 w3:World} {b6:Nat} {s:σ} {c:List Value} (hz:R.rep (fun k=>I k∨(W.heap.size≤k∧k<w2.heap.size)) w2 s c) (hI:∀ k,I k→k<w.heap.size) (hwW:w.heap.size≤W.heap.size) (RA:w.heap.size≤b6) (EZ:b6<W.heap.size∨w2.heap.size≤b6)
  (h3:∀ k,k<w2.heap.size→k≠b6→w3.heap[k]?=w2.heap[k]?) (hs:w2.heap.size≤w3.heap.size):R.rep (fun k=>I k∨(w.heap.size≤k∧k<w3.heap.size)) w3 s c:=by
 refine R.stay (fun k hk hlt=>?_) hz
 rcases hk with hk|hk
 ·have:=hI k hk
  exact ⟨.inl hk,h3 k hlt (by omega)⟩
 ·exact ⟨.inr ⟨by omega,by omega⟩,h3 k hlt (by omega)⟩
theorem tree.QZ {σ:Type} {R:SR σ} {I:Nat→Prop} {w W w2 w3:World} {b6:Nat} {s:σ} {c:List Value} (hz:R.rep (fun k=>I k∨(W.heap.size≤k∧k<w2.heap.size)) w2 s c) (hI:∀ k,I k→k<w.heap.size) (hwW:w.heap.size≤W.heap.size) (RA:w.heap.size≤b6) (EZ:b6<W.heap.size∨w2.heap.size≤b6)
  (h3:∀ k,k<w2.heap.size→k≠b6→w3.heap[k]?=w2.heap[k]?) (hs:w2.heap.size≤w3.heap.size):R.rep (fun k=>I k∨(w.heap.size≤k∧k<w3.heap.size)) w3 s c:=by
 refine R.stay (fun k hk hlt=>?_) hz
 rcases hk with hk|hk
 ·have:=hI k hk
  exact ⟨.inl hk,h3 k hlt (by omega)⟩
 ·exact ⟨.inr ⟨by omega,by omega⟩,h3 k hlt (by omega)⟩
theorem int.GJ {w W:World} {b1 b2 o1 o2 b3 b6:Nat} {u1 u2 u3 u4 u5 v0:Value} (vs:List Value) (q6:w.heap.size≤b6) (q1:b1<b6) (q2:b2<b6) (q3:b3<b6) (h:Below w.heap.size w W∧W.cell? ⟨b1,o1,none⟩=some u1∧W.cell? ⟨b2,o2,none⟩=some u2∧W.cell? ⟨b1,o1+15,none⟩=some v0∧W.cell? ⟨b3,0,none⟩=some u3∧W.cell? ⟨b3,1,none⟩=some u4∧W.cell? ⟨b3,2,none⟩=some u5) :
  Below w.heap.size w (W.setCells b6 0 vs)∧(W.setCells b6 0 vs).cell? ⟨b1,o1,none⟩=some u1∧(W.setCells b6 0 vs).cell? ⟨b2,o2,none⟩=some u2∧(W.setCells b6 0 vs).cell? ⟨b1,o1+15,none⟩=some v0∧(W.setCells b6 0 vs).cell? ⟨b3,0,none⟩=some u3∧(W.setCells b6 0 vs).cell? ⟨b3,1,none⟩=some u4∧(W.setCells b6 0 vs).cell? ⟨b3,2,none⟩=some u5:=by
 obtain ⟨h0,h1,h2,k0,h3,h4,h5⟩:=h
 have out:∀ {b o:Nat} {u:Value},b<b6→W.cell? ⟨b,o,none⟩=some u→(W.setCells b6 0 vs).cell? ⟨b,o,none⟩=some u:=fun hb hu=>by
  rw [World.cell?_setCells_out b6 vs 0 W _ (fun q _=>by dsimp only at q;omega)]
  exact hu
 exact ⟨dS q6 vs 0 W h0,out q1 h1,out q2 h2,out q1 k0,out q3 h3,out q3 h4,out q3 h5⟩
theorem row.GJ {w W:World} {b1 b2 o1 o2 b3 b6:Nat} {u1 u2 u3 u4 u5 v0 v1:Value} (vs:List Value) (q6:w.heap.size≤b6) (q1:b1<b6) (q2:b2<b6) (q3:b3<b6) (h:Below w.heap.size w W∧W.cell? ⟨b1,o1,none⟩=some u1∧W.cell? ⟨b2,o2,none⟩=some u2∧W.cell? ⟨b1,o1+15,none⟩=some v0∧W.cell? ⟨b1,o1+16,none⟩=some v1∧W.cell? ⟨b3,0,none⟩=some u3∧W.cell? ⟨b3,1,none⟩=some u4∧W.cell? ⟨b3,2,none⟩=some u5) :
  Below w.heap.size w (W.setCells b6 0 vs)∧(W.setCells b6 0 vs).cell? ⟨b1,o1,none⟩=some u1∧(W.setCells b6 0 vs).cell? ⟨b2,o2,none⟩=some u2∧(W.setCells b6 0 vs).cell? ⟨b1,o1+15,none⟩=some v0∧(W.setCells b6 0 vs).cell? ⟨b1,o1+16,none⟩=some v1∧(W.setCells b6 0 vs).cell? ⟨b3,0,none⟩=some u3∧(W.setCells b6 0 vs).cell? ⟨b3,1,none⟩=some u4∧(W.setCells b6 0 vs).cell? ⟨b3,2,none⟩=some u5:=by
 obtain ⟨h0,h1,h2,k0,k1,h3,h4,h5⟩:=h
 have out:∀ {b o:Nat} {u:Value},b<b6→W.cell? ⟨b,o,none⟩=some u→(W.setCells b6 0 vs).cell? ⟨b,o,none⟩=some u:=fun hb hu=>by
  rw [World.cell?_setCells_out b6 vs 0 W _ (fun q _=>by dsimp only at q;omega)]
  exact hu
 exact ⟨dS q6 vs 0 W h0,out q1 h1,out q2 h2,out q1 k0,out q1 k1,out q3 h3,out q3 h4,out q3 h5⟩
theorem int.jL {σ:Type} {L:Lt} {t:Nat} (e:aS σ) (cv cf:List Value) (pv:Value) (hv:cv.length=1+1) (hf:cf.length=1+1) (j:Nat) (hj:j<2*(1+1)):(aO L t e cv cf pv)[15+j]?=(cv++cf)[j]?:=by
 unfold aO
 rw [List.getElem?_append_left (by simp [hv,hf];omega),List.append_assoc,List.getElem?_append_right (by simp)]
 simp
theorem list.jL {σ:Type} {L:Lt} {t:Nat} (e:aS σ) (cv cf:List Value) (pv:Value) (hv:cv.length=1+1) (hf:cf.length=1+1) (j:Nat) (hj:j<2*(1+1)):(aO L t e cv cf pv)[15+j]?=(cv++cf)[j]?:=by
 unfold aO
 rw [List.getElem?_append_left (by simp [hv,hf];omega),List.append_assoc,List.getElem?_append_right (by simp)]
 simp
theorem tree.jL {σ:Type} {L:Lt} {t:Nat} (e:aS σ) (cv cf:List Value) (pv:Value) (hv:cv.length=1+1) (hf:cf.length=1+1) (j:Nat) (hj:j<2*(1+1)):(aO L t e cv cf pv)[15+j]?=(cv++cf)[j]?:=by
 unfold aO
 rw [List.getElem?_append_left (by simp [hv,hf];omega),List.append_assoc,List.getElem?_append_right (by simp)]
 simp
theorem row.jL {σ:Type} {L:Lt} {t:Nat} (e:aS σ) (cv cf:List Value) (pv:Value) (hv:cv.length=2+1) (hf:cf.length=2+1) (j:Nat) (hj:j<2*(2+1)):(aO L t e cv cf pv)[15+j]?=(cv++cf)[j]?:=by
 unfold aO
 rw [List.getElem?_append_left (by simp [hv,hf];omega),List.append_assoc,List.getElem?_append_right (by simp)]
 simp
theorem int.zZ (l1 l2 m n:List Value) {j c:Nat} (h1:l1.length=c) (h2:l2.length=c) (hj:c≤j):((l1++m)++n)[j]?=((l2++m)++n)[j]?:=by
 have e:∀ l:List Value,l.length=c→((l++m)++n)[j]?=(m++n)[j-c]?:=fun l hl=>by rw [List.append_assoc,List.getElem?_append_right (by omega),hl]
 rw [e l1 h1,e l2 h2]
theorem row.KO {b:Nat}:∀ (vs:List Value) (o:Nat) (W:World) (k:Nat),k≠b→(W.setCells b o vs).heap[k]?=W.heap[k]?
 |[],_,_,_,_=>rfl
 |v::vs,o,W,k,hk=>by
  show ((W.setCell ⟨b,o,none⟩ v).setCells b (o+1) vs).heap[k]?=_
  rw [KO vs (o+1) _ k hk,Below.heap_setCell _ _ _ k hk]
theorem row.fG {b:Nat}:∀ (vs:List Value) (o:Nat) (W:World),(W.setCells b o vs).heap.size=W.heap.size
 |[],_,_=>rfl
 |v::vs,o,W=>by
  show ((W.setCell ⟨b,o,none⟩ v).setCells b (o+1) vs).heap.size=_
  rw [fG vs (o+1) _]
  simp [World.setCell]
theorem row.Row.zJ {w:World} {b:Nat} {t:TypeId} {u v x y:Value} (h:Row w b t [u,v]):Row (w.setCells b 0 [x,y]) b t [x,y]:=(h.set 0 x).set 1 y
theorem row.aFD {P:Program} {ops:Array Oper} {Q:Exit→Act→World→Prop} {S:World→Prop} {a:Act} {w:World} {id:Nat} (n:Nat) (hn:ops.size=n) (hm:P.follows .mixedOrders=true) (hS:S w.drew)
  (h:∀ W,W=w.drew→S W→wpAnyH P .any ops Q S n (Array.replicate n false) a W):(Code.region id ops true).wp P Q a w:=fQ n hn hm hS (h _ rfl)
theorem row.dI {w W:World} {o:Obj} (h:w.alloc o=W):Below w.heap.size w W:=by subst h;exact aB _ _
theorem row.eK {w W:World} {xs:List Value} {t:TypeId} (h:w.alloc (.cells xs.toArray t)=W):Row W w.heap.size t xs:=by subst h;exact Row.new' rfl
theorem row.nH {w W:World} {tt:TypeId} {xs:List Value} {b1 b2 o1 o2 b3 b6:Nat} {u1 u2 u3 u4 u5 v0 v1:Value} (_:Row W b6 tt xs) (vs:List Value) (q6:w.heap.size≤b6) (q1:b1<b6) (q2:b2<b6) (q3:b3<b6) (h:Below w.heap.size w W∧W.cell? ⟨b1,o1,none⟩=some u1∧W.cell? ⟨b2,o2,none⟩=some u2∧W.cell? ⟨b1,o1+15,none⟩=some v0∧W.cell? ⟨b1,o1+16,none⟩=some v1∧W.cell? ⟨b3,0,none⟩=some u3∧W.cell? ⟨b3,1,none⟩=some u4∧W.cell? ⟨b3,2,none⟩=some u5) :
  Below w.heap.size w (W.setCells b6 0 vs)∧(W.setCells b6 0 vs).cell? ⟨b1,o1,none⟩=some u1∧(W.setCells b6 0 vs).cell? ⟨b2,o2,none⟩=some u2∧(W.setCells b6 0 vs).cell? ⟨b1,o1+15,none⟩=some v0∧(W.setCells b6 0 vs).cell? ⟨b1,o1+16,none⟩=some v1∧(W.setCells b6 0 vs).cell? ⟨b3,0,none⟩=some u3∧(W.setCells b6 0 vs).cell? ⟨b3,1,none⟩=some u4∧(W.setCells b6 0 vs).cell? ⟨b3,2,none⟩=some u5:=GJ vs q6 q1 q2 q3 h
theorem row.sR {σ:Type} {R:SR σ} {I:Nat→Prop} {w W w2 w3:World} {b:Nat} {s:σ} {c:List Value} {tt:TypeId} {xs:List Value} (_:Row w3 b tt xs) (hz:R.rep (fun k=>I k∨(W.heap.size≤k∧k<w2.heap.size)) w3 s c) (hI:∀ k,I k→k<w.heap.size) (h5:w.heap.size≤b) (h5':b<W.heap.size∨w2.heap.size≤b) (vs:List Value):R.rep (fun k=>I k∨(W.heap.size≤k∧k<w2.heap.size)) (w3.setCells b 0 vs) s c :=
 R.stay (fun k hk _=>⟨hk,KO vs 0 w3 k (by
  rcases hk with hk|hk
  ·have:=hI k hk;omega
  ·omega)⟩) hz
structure int.cE {σ:Type} (R:SR σ) (P:M.Plain σ) (L:Lt) (fA:Nat) (rv:Value):Prop where
 z:M.oQ R.sz P
 m:∀ W,(method 466 L.oT L.ov "Apply").run Tryz.prog W = .ok (fA,rv) W
 c:∀ (s o:Value) (W:World),(callFunc fA #[rv,s,o]).run Tryz.prog W = .ok (.enter fA #[rv,s,o]) W
 ap:∀ (I:Nat→Prop) (W:World) (s:σ) (x0:Value) (op:M.Op),R.rep I W s [x0]→R.sz s≤1000000000000→(∀ k,I k→k<W.heap.size) →
  Calls Tryz.prog fA #[rv,x0,.agg #[.int .i64 op.c,.int .i64 op.a,.int .i64 op.b]] W fun e w'=>∃ y0:Value,e = .returned (.tuple #[y0,.agg #[.int .i64 (P.apply s op).2.s,.int .i64 (P.apply s op).2.v]]) ∧
   R.rep (fun k=>I k∨(W.heap.size≤k∧k<w'.heap.size)) w' (P.apply s op).1 [y0]∧Below W.heap.size W w'
structure list.cE {σ:Type} (R:SR σ) (P:M.Plain σ) (L:Lt) (fA:Nat) (rv:Value):Prop where
 z:M.oQ R.sz P
 m:∀ W,(method 466 L.oT L.ov "Apply").run Tryz.prog W = .ok (fA,rv) W
 c:∀ (s o:Value) (W:World),(callFunc fA #[rv,s,o]).run Tryz.prog W = .ok (.enter fA #[rv,s,o]) W
 ap:∀ (I:Nat→Prop) (W:World) (s:σ) (x0:Value) (op:M.Op),R.rep I W s [x0]→R.sz s≤1000000000000→(∀ k,I k→k<W.heap.size) →
  Calls Tryz.prog fA #[rv,x0,.agg #[.int .i64 op.c,.int .i64 op.a,.int .i64 op.b]] W fun e w'=>∃ y0:Value,e = .returned (.tuple #[y0,.agg #[.int .i64 (P.apply s op).2.s,.int .i64 (P.apply s op).2.v]]) ∧
   R.rep (fun k=>I k∨(W.heap.size≤k∧k<w'.heap.size)) w' (P.apply s op).1 [y0]∧Below W.heap.size W w'
structure tree.cE {σ:Type} (R:SR σ) (P:M.Plain σ) (L:Lt) (fA:Nat) (rv:Value):Prop where
 z:M.oQ R.sz P
 m:∀ W,(method 466 L.oT L.ov "Apply").run Tryz.prog W = .ok (fA,rv) W
 c:∀ (s o:Value) (W:World),(callFunc fA #[rv,s,o]).run Tryz.prog W = .ok (.enter fA #[rv,s,o]) W
 ap:∀ (I:Nat→Prop) (W:World) (s:σ) (x0:Value) (op:M.Op),R.rep I W s [x0]→R.sz s≤1000000000000→(∀ k,I k→k<W.heap.size) →
  Calls Tryz.prog fA #[rv,x0,.agg #[.int .i64 op.c,.int .i64 op.a,.int .i64 op.b]] W fun e w'=>∃ y0:Value,e = .returned (.tuple #[y0,.agg #[.int .i64 (P.apply s op).2.s,.int .i64 (P.apply s op).2.v]]) ∧
   R.rep (fun k=>I k∨(W.heap.size≤k∧k<w'.heap.size)) w' (P.apply s op).1 [y0]∧Below W.heap.size W w'
structure row.cE {σ:Type} (R:SR σ) (P:M.Plain σ) (L:Lt) (fA:Nat) (rv:Value):Prop where
 z:M.oQ R.sz P
 m:∀ W,(method 466 L.oT L.ov "Apply").run Tryz.prog W = .ok (fA,rv) W
 c:∀ (s o:Value) (W:World),(callFunc fA #[rv,s,o]).run Tryz.prog W = .ok (.enter fA #[rv,s,o]) W
 ap:∀ (I:Nat→Prop) (W:World) (s:σ) (x0 x1:Value) (op:M.Op),R.rep I W s [x0,x1]→R.sz s≤1000000000000→(∀ k,I k→k<W.heap.size) →
  Calls Tryz.prog fA #[rv,.agg #[x0,x1],.agg #[.int .i64 op.c,.int .i64 op.a,.int .i64 op.b]] W fun e w'=>∃ y0 y1:Value,e = .returned (.tuple #[.agg #[y0,y1],.agg #[.int .i64 (P.apply s op).2.s,.int .i64 (P.apply s op).2.v]]) ∧
   R.rep (fun k=>I k∨(W.heap.size≤k∧k<w'.heap.size)) w' (P.apply s op).1 [y0,y1]∧Below W.heap.size W w'
def int.kR:Prop:=∀ {σ:Type} {R:SR σ} {L:Lt} {S:Nat→Prop} {E:aK σ} {w:World} {t:Nat} {P:M.Plain σ} {fA:Nat} {rv:Value} (_hA:cE R P L fA rv) (_h:RE R L S E w) (_ht:t<L.n) {k:Nat} (_hk:k<L.n) {v f:cY σ} (_hv:(E.th t).now=some v) (_hf:(E.th t).cC=some f) (_RB:R.sz v.st≤1000000000000),Calls Tryz.prog 142 #[.pointer (some ⟨L.g,t*28,none⟩),.int .i64 (k:Int)] w fun e w'=>e = .returned (.tuple #[])∧aF R L S w {E with th:=aH E.th t (aS.apply P L.n (E.th t) k)} w'
def list.kR:Prop:=∀ {σ:Type} {R:SR σ} {L:Lt} {S:Nat→Prop} {E:aK σ} {w:World} {t:Nat} {P:M.Plain σ} {fA:Nat} {rv:Value} (_hA:cE R P L fA rv) (_h:RE R L S E w) (_ht:t<L.n) {k:Nat} (_hk:k<L.n) {v f:cY σ} (_hv:(E.th t).now=some v) (_hf:(E.th t).cC=some f) (_RB:R.sz v.st≤1000000000000),Calls Tryz.prog 193 #[.pointer (some ⟨L.g,t*28,none⟩),.int .i64 (k:Int)] w fun e w'=>e = .returned (.tuple #[])∧aF R L S w {E with th:=aH E.th t (aS.apply P L.n (E.th t) k)} w'
def tree.kR:Prop:=∀ {σ:Type} {R:SR σ} {L:Lt} {S:Nat→Prop} {E:aK σ} {w:World} {t:Nat} {P:M.Plain σ} {fA:Nat} {rv:Value} (_hA:cE R P L fA rv) (_h:RE R L S E w) (_ht:t<L.n) {k:Nat} (_hk:k<L.n) {v f:cY σ} (_hv:(E.th t).now=some v) (_hf:(E.th t).cC=some f) (_RB:R.sz v.st≤1000000000000),Calls Tryz.prog 267 #[.pointer (some ⟨L.g,t*28,none⟩),.int .i64 (k:Int)] w fun e w'=>e = .returned (.tuple #[])∧aF R L S w {E with th:=aH E.th t (aS.apply P L.n (E.th t) k)} w'
theorem xT:int.kR∧list.kR∧tree.kR:=by
 refine ⟨@mkK _ 0 ?_,@mkK _ 1 ?_,@mkK _ 2 ?_⟩<;>intro kk σ R L S E w t P fA rv hA h ht k hk v f hv hf hsz
 all_goals
  obtain ⟨cv,cf,pv,hc,hcv,eE,-,hfz⟩:=h.cells ht rfl
  have sB:=hcv.2 v hv
  have hfr:=eE.2 f hf
  obtain ⟨x0,xl,rfl⟩:∃ x0 l,cv=[x0]++[l]:=by obtain ⟨c0,c1,rfl⟩:=aD hcv.1;exact ⟨_,_,rfl⟩
  obtain ⟨y0,y1,rfl⟩:=aD eE.1
  have hn:=h.ok.n64
  have yS:=h.ok.n1
  have c0:w.cell? ⟨L.g,t*28,none⟩=some (.pointer (some ⟨L.bS,0,none⟩)):=hc 0 _ (by decide) rfl
  have s1:w.cell? ⟨L.bS,1,none⟩=some (.iface L.oT L.ov):=h.sh.cell_of rfl
  have xc0:=hc 15 _ (by decide) rfl
  have hh0:=hc 21 _ (by decide) rfl
  have hh1:=hc 22 _ (by decide) rfl
  have hh2:=hc 23 _ (by decide) rfl
  have aAP:=fun ob=>dM hh0 ob
  have aAQ:=fun ob=>dM hh1 ob
  have aAR:=fun ob=>dM hh2 ob
  have HH:=aA h
  have HV:=aA (And.intro sB hfr)
  have HC:=aA (And.intro hv hf)
  have HX:=aA (show ∀ j,j<2*(1+1)→w.cell? ⟨L.g,t*28+(15+j),none⟩=(([x0]++[xl])++[y0,y1])[j]? from fun j hj=>by
   first|(have _:Kn 0:=kk;have q:=int.jL (L:=L) (t:=t) (E.th t) ([x0]++[xl]) [y0,y1] pv hcv.1 eE.1 j hj)|(have _:Kn 1:=kk;have q:=list.jL (L:=L) (t:=t) (E.th t) ([x0]++[xl]) [y0,y1] pv hcv.1 eE.1 j hj)|(have _:Kn 2:=kk;have q:=tree.jL (L:=L) (t:=t) (E.th t) ([x0]++[xl]) [y0,y1] pv hcv.1 eE.1 j hj)
   obtain ⟨u,hu⟩:∃ u,(([x0]++[xl])++[y0,y1])[j]?=some u:=⟨_,List.getElem?_eq_getElem (by simp;omega)⟩
   rw [hu] at q ⊢
   exact hc (15+j) u (by omega) q)
  clear h hc hcv eE sB hfr hfz hv hf
  first|(have _:Kn 0:=kk;go_enter Tryz.func142,Tryz.ntmps142)|(have _:Kn 1:=kk;go_enter Tryz.func193,Tryz.ntmps193)|(have _:Kn 2:=kk;go_enter Tryz.func267,Tryz.ntmps267)
  go_wp2
  go_region
  generalize tG:World.drew _=W1
  have lW:Below w.heap.size w W1:=by rw [←tG];exact Below.drew (aB w _)
  have hro:Row W1 w.heap.size 46 [.int .i64 ((E.th t).heard 0),.int .i64 ((E.th t).heard 1),.int .i64 ((E.th t).heard 2)]:=by rw [←tG];exact Row.new w [_,_,_] _
  have o0:W1.cell? ⟨w.heap.size,0,none⟩=some (.int .i64 ((E.th t).heard 0)):=hro.cell_of rfl
  have o1:W1.cell? ⟨w.heap.size,1,none⟩=some (.int .i64 ((E.th t).heard 1)):=hro.cell_of rfl
  have o2:W1.cell? ⟨w.heap.size,2,none⟩=some (.int .i64 ((E.th t).heard 2)):=hro.cell_of rfl
  have e0:=cell_later lW c0
  have e1:=cell_later lW s1
  have xe0:=cell_later lW xc0
  have UZ:R.rep (fun k=>S k∧¬L.own k) w v.st [x0]:=by
   obtain ⟨sc,b,hsc,hr,-⟩:=HV.out.1
   have:sc=[x0]:=(List.append_inj' hsc rfl).1.symm
   rw [←this];exact hr
  have zK:∀ k,(S k∧¬L.own k)→k<w.heap.size:=fun k hk=>HH.out.lt k hk.1
  obtain ⟨r,hr⟩:∃ r,r=P.apply v.st (M.fP (E.th t).heard):=⟨_,rfl⟩
  have WX:=aA (fun (W:World) (hW:Below w.heap.size w W)=>hA.ap (fun k=>S k∧¬L.own k) W v.st x0 (M.fP (E.th t).heard) (R.stay (fun k hk hlt=>⟨hk,hW.block k hlt⟩) UZ) hsz (fun k hk=>Nat.lt_of_lt_of_le (zK k hk) hW.size))
  rw [←hr] at WX
  have lX:=aA hr
  have hm:=hA.m
  have hcl:=hA.c
  have GI:L.g<w.heap.size:=HH.out.lt _ (HH.out.ow _ kE)
  have hSl:L.bS<w.heap.size:=HH.out.lt _ (HH.out.ow _ NB)
  have aFF:w.heap.size<W1.heap.size:=hro.lt
  clear tG hro UZ hh0 hh1 hh2 aAP aAQ aAR c0 s1 xc0 hr
  go_upto_region 1 with fail
  go_cut [5,6] (fun st an w'=>∃ (y0:Value) (b6:Nat),st=y0∧an = .pointer (some ⟨b6,0,none⟩)∧Row w' b6 38 [.int .i64 r.2.s,.int .i64 r.2.v]∧Below w.heap.size w w'∧w.heap.size≤b6∧R.rep (fun k=>(S k∧¬L.own k)∨(w.heap.size≤k∧k<w'.heap.size)) w' r.1 [y0])
  case first =>
   refine fQ (S:=(fun w'=>Below w.heap.size w w'∧w'.cell? ⟨L.g,t*28,none⟩=some (.pointer (some ⟨L.bS,0,none⟩))∧w'.cell? ⟨L.bS,1,none⟩=some (.iface L.oT L.ov)∧w'.cell? ⟨L.g,t*28+15,none⟩=some x0∧w'.cell? ⟨w.heap.size,0,none⟩=some (.int .i64 ((E.th t).heard 0))∧w'.cell? ⟨w.heap.size,1,none⟩=some (.int .i64 ((E.th t).heard 1))∧w'.cell? ⟨w.heap.size,2,none⟩=some (.int .i64 ((E.th t).heard 2)))) 24 rfl (by kernel_rfl) ?_ (fun hHeld=>?_)
   ·exact ⟨Below.drew lW,e0,e1,xe0,o0,o1,o2⟩
   iterate 17 (refine tk 23 (by rfl) (by kernel_rfl) (by exact fun _ _ _ h=>h) (.inl ⟨by rfl,fun w hS=>by (try dsimp only at hS);go_simp;(try with_reducible rfl)⟩) (by assumption) ?_;try go_frame)
   refine wpAnyH_ready (rs:=[17,21]) (by kernel_rfl) (by simp) (rc (by rfl) (fun K hK=>?_) (rc (by rfl) (fun K hK=>?_) AllReadyH.nil))
   ·go_simp
    refine (WX.out _ hHeld.1).mono ?_
    rintro e w2 ⟨z0,rfl,hz,bA⟩
    go_wp2_with fail
    refine hK.out _ _ ?_ (fun hHeld=>?_)
    ·first|(have _:Kn 0:=kk;exact int.fR bA hHeld)|(have _:Kn 1:=kk;exact list.fR bA hHeld)|(have _:Kn 2:=kk;exact tree.fR bA hHeld)
    clear hK K
    (try go_frame)
    iterate 3 (refine tk 23 (by rfl) (by kernel_rfl) (by exact fun _ _ _ h=>h) (.inl ⟨by rfl,fun w hS=>by (try dsimp only at hS);go_simp;(try with_reducible rfl)⟩) (by assumption) ?_;try go_frame)
    refine bK 21 (by rfl) (by kernel_rfl) (fun K hK=>?_)
    go_simp
    refine hK.out _ _ ?_ (fun hHeld=>?_)
    ·first|(have _:Kn 0:=kk;exact int.fR (aB _ _) hHeld)|(have _:Kn 1:=kk;exact list.fR (aB _ _) hHeld)|(have _:Kn 2:=kk;exact tree.fR (aB _ _) hHeld)
    clear hK K
    (try go_frame)
    iterate 1 (refine tk 23 (by rfl) (by kernel_rfl) (by exact fun _ _ _ h=>h) (.inl ⟨by rfl,fun w hS=>by (try dsimp only at hS);go_simp;(try with_reducible rfl)⟩) (by assumption) ?_;try go_frame)
    refine bK 23 (by rfl) (by kernel_rfl) (fun K hK=>?_)
    rw [if_pos (by rfl)]
    have JJ:W1.heap.size≤w2.heap.size:=by have q:=bA.size;simp at q;omega
    refine wp_store_mid _ _ _ rfl _ 0 #[.int .i64 r.2.s,.int .i64 r.2.v] rfl rfl ?_ (by kernel_rfl) (by simp [Value.oneCell']) ?_
    ·first|exact Row.there (Row.new _ [_,_] _) (by simp)|exact aU bA (Row.there (Row.new _ [_,_] _) (by simp))
    refine hK.out _ _ ?_ (fun hHeld=>?_)
    ·exact GJ _ (by omega) (by omega) (by omega) (by omega) hHeld
    clear hK K
    (try go_frame)
    refine wpAnyH_done (by kernel_rfl) ?_ _
    (try go_wp2_with fail)
    go_meet
    case rel =>
     first
      |exact ⟨z0,w2.heap.size,rfl,rfl,((Row.new' rfl).set 0 _).set 1 _,hHeld.1,by omega,QZ (b6:=w2.heap.size) hz zK (by simp;omega) (by omega) (.inr (Nat.le_refl _)) (fun k hk hne=>((Below.heap_setCell _ _ _ k hne).trans (Below.heap_setCell _ _ _ k hne)).trans (Below.heap_alloc w2 _ k hk)) (by simp [World.setCells,World.setCell])⟩
      |exact ⟨z0,W1.heap.size,rfl,rfl,(((show Row (W1.alloc _).drew W1.heap.size 38 [_,_] from Row.new W1 [_,_] _).old bA).set 0 _).set 1 _,hHeld.1,by omega,QZ (b6:=W1.heap.size) hz zK (by simp;omega) (by omega) (.inl (by simp)) (fun k hk hne=>(Below.heap_setCell _ _ _ k hne).trans (Below.heap_setCell _ _ _ k hne)) (by simp [World.setCells,World.setCell])⟩
   ·go_simp
    refine hK.out _ _ ?_ (fun hHeld=>?_)
    ·first|(have _:Kn 0:=kk;exact int.fR (aB _ _) hHeld)|(have _:Kn 1:=kk;exact list.fR (aB _ _) hHeld)|(have _:Kn 2:=kk;exact tree.fR (aB _ _) hHeld)
    clear hK K
    (try go_frame)
    refine bK 17 (by rfl) (by kernel_rfl) (fun K hK=>?_)
    go_simp
    refine (WX.out _ hHeld.1).mono ?_
    rintro e w2 ⟨z0,rfl,hz,bA⟩
    go_wp2_with fail
    refine hK.out _ _ ?_ (fun hHeld=>?_)
    ·first|(have _:Kn 0:=kk;exact int.fR bA hHeld)|(have _:Kn 1:=kk;exact list.fR bA hHeld)|(have _:Kn 2:=kk;exact tree.fR bA hHeld)
    clear hK K
    (try go_frame)
    iterate 3 (refine tk 22 (by rfl) (by kernel_rfl) (by exact fun _ _ _ h=>h) (.inl ⟨by rfl,fun w hS=>by (try dsimp only at hS);go_simp;(try with_reducible rfl)⟩) (by assumption) ?_;try go_frame)
    iterate 1 (refine tk 23 (by rfl) (by kernel_rfl) (by exact fun _ _ _ h=>h) (.inl ⟨by rfl,fun w hS=>by (try dsimp only at hS);go_simp;(try with_reducible rfl)⟩) (by assumption) ?_;try go_frame)
    refine bK 23 (by rfl) (by kernel_rfl) (fun K hK=>?_)
    rw [if_pos (by rfl)]
    have JJ:W1.heap.size≤w2.heap.size:=by have q:=bA.size;simp at q;omega
    refine wp_store_mid _ _ _ rfl _ 0 #[.int .i64 r.2.s,.int .i64 r.2.v] rfl rfl ?_ (by kernel_rfl) (by simp [Value.oneCell']) ?_
    ·first|exact Row.there (Row.new _ [_,_] _) (by simp)|exact aU bA (Row.there (Row.new _ [_,_] _) (by simp))
    refine hK.out _ _ ?_ (fun hHeld=>?_)
    ·exact GJ _ (by omega) (by omega) (by omega) (by omega) hHeld
    clear hK K
    (try go_frame)
    refine wpAnyH_done (by kernel_rfl) ?_ _
    (try go_wp2_with fail)
    go_meet
    case rel =>
     first
      |exact ⟨z0,w2.heap.size,rfl,rfl,((Row.new' rfl).set 0 _).set 1 _,hHeld.1,by omega,QZ (b6:=w2.heap.size) hz zK (by simp;omega) (by omega) (.inr (Nat.le_refl _)) (fun k hk hne=>((Below.heap_setCell _ _ _ k hne).trans (Below.heap_setCell _ _ _ k hne)).trans (Below.heap_alloc w2 _ k hk)) (by simp [World.setCells,World.setCell])⟩
      |exact ⟨z0,W1.heap.size,rfl,rfl,(((show Row (W1.alloc _).drew W1.heap.size 38 [_,_] from Row.new W1 [_,_] _).old bA).set 0 _).set 1 _,hHeld.1,by omega,QZ (b6:=W1.heap.size) hz zK (by simp;omega) (by omega) (.inl (by simp)) (fun k hk hne=>(Below.heap_setCell _ _ _ k hne).trans (Below.heap_setCell _ _ _ k hne)) (by simp [World.setCells,World.setCell])⟩
  case rest =>
   obtain ⟨_,b6,rfl,rfl,hr6,hbc,h6,ED⟩:=hcut
   obtain ⟨q0,rfl⟩:=R.shape ED u5 (by simp)
   have hst:∀ k,(S k∧¬L.own k)→k<w.heap.size→(grown S w wc k∧¬L.own k)∧wc.heap[k]?=w.heap[k]?:=fun k hk hlt=>⟨⟨.inl hk.1,hk.2⟩,hbc.block k hlt⟩
   first
    |have _:Kn 0:=kk
     have YM:R.rep (fun k=>grown S w wc k∧¬L.own k) wc r.1 [.int .i64 q0]:=R.stay (fun k (hk:(S k∧¬L.own k)∨(w.heap.size≤k∧k<wc.heap.size)) _=>⟨by
      rcases hk with hk|hk
      ·exact ⟨.inl hk.1,hk.2⟩
      ·exact ⟨.inr hk,fun q=>by have:=HH.out.lt _ (HH.out.ow _ q);omega⟩,rfl⟩) ED
    |have _:Kn 1:=kk
     have YM:R.rep (fun k=>grown S w wc k∧¬L.own k) wc r.1 [.pointer q0]:=R.stay (fun k (hk:(S k∧¬L.own k)∨(w.heap.size≤k∧k<wc.heap.size)) _=>⟨by
      rcases hk with hk|hk
      ·exact ⟨.inl hk.1,hk.2⟩
      ·exact ⟨.inr hk,fun q=>by have:=HH.out.lt _ (HH.out.ow _ q);omega⟩,rfl⟩) ED
    |have _:Kn 2:=kk
     have YM:R.rep (fun k=>grown S w wc k∧¬L.own k) wc r.1 [.pointer q0]:=R.stay (fun k (hk:(S k∧¬L.own k)∨(w.heap.size≤k∧k<wc.heap.size)) _=>⟨by
      rcases hk with hk|hk
      ·exact ⟨.inl hk.1,hk.2⟩
      ·exact ⟨.inr hk,fun q=>by have:=HH.out.lt _ (HH.out.ow _ q);omega⟩,rfl⟩) ED
   first|(have _:Kn 0:=kk;refine (have vr:int.aV R (fun k=>grown S w wc k∧¬L.own k) wc {v with st:=r.1} ([.int .i64 q0]++[xl]):=?_;?_))|(have _:Kn 1:=kk;refine (have vr:list.aV R (fun k=>grown S w wc k∧¬L.own k) wc {v with st:=r.1} ([.pointer q0]++[xl]):=?_;?_))|(have _:Kn 2:=kk;refine (have vr:tree.aV R (fun k=>grown S w wc k∧¬L.own k) wc {v with st:=r.1} ([.pointer q0]++[xl]):=?_;?_))
   ·obtain ⟨sc,b,hsc,-,EZ⟩:=HV.out.1
    have e:=(List.append_inj' hsc rfl).2
    first|(have _:Kn 0:=kk;exact ⟨[.int .i64 q0],b,by rw [e],YM,int.cO.stay hst zK _ _ EZ⟩)|(have _:Kn 1:=kk;exact ⟨[.pointer q0],b,by rw [e],YM,list.cO.stay hst zK _ _ EZ⟩)|(have _:Kn 2:=kk;exact ⟨[.pointer q0],b,by rw [e],YM,tree.cO.stay hst zK _ _ EZ⟩)
   have fr:=aV.stay hst zK HV.out.2
   have VA:=aF.below HH.out hbc
   first
    |have _:Kn 0:=kk
     obtain ⟨r2,k2⟩:=VA.re.jK ht [.int .i64 q0] 0 (by simp) (by simp) vr fr (fun j hj=>by
      by_cases q:j<1
      ·rw [if_pos ⟨Nat.zero_le _,by simpa using q⟩,List.append_assoc,List.getElem?_append_left (by simpa using q)]
       rfl
      ·rw [if_neg (by simpa using q),hbc.cell (p:=⟨L.g,t*28+(15+j),none⟩) GI,HX.out j hj]
       exact zZ (c:=1) [x0] [.int .i64 q0] [xl] [y0,y1] rfl rfl (by omega)) {E.th t with now:=some {v with st:=r.1}} (by rw [←HC.out.2])
    |have _:Kn 1:=kk
     obtain ⟨r2,k2⟩:=VA.re.jK ht [.pointer q0] 0 (by simp) (by simp) vr fr (fun j hj=>by
      by_cases q:j<1
      ·rw [if_pos ⟨Nat.zero_le _,by simpa using q⟩,List.append_assoc,List.getElem?_append_left (by simpa using q)]
       rfl
      ·rw [if_neg (by simpa using q),hbc.cell (p:=⟨L.g,t*28+(15+j),none⟩) GI,HX.out j hj]
       exact zZ (c:=1) [x0] [.pointer q0] [xl] [y0,y1] rfl rfl (by omega)) {E.th t with now:=some {v with st:=r.1}} (by rw [←HC.out.2])
    |have _:Kn 2:=kk
     obtain ⟨r2,k2⟩:=VA.re.jK ht [.pointer q0] 0 (by simp) (by simp) vr fr (fun j hj=>by
      by_cases q:j<1
      ·rw [if_pos ⟨Nat.zero_le _,by simpa using q⟩,List.append_assoc,List.getElem?_append_left (by simpa using q)]
       rfl
      ·rw [if_neg (by simpa using q),hbc.cell (p:=⟨L.g,t*28+(15+j),none⟩) GI,HX.out j hj]
       exact zZ (c:=1) [x0] [.pointer q0] [xl] [y0,y1] rfl rfl (by omega)) {E.th t with now:=some {v with st:=r.1}} (by rw [←HC.out.2])
   have xS:=VA.next (aF.of r2 k2 rfl)
   obtain ⟨cv5,cf5,pv5,SJ,BX,BZ,-,vC⟩:=VA.re.cells ht rfl
   obtain ⟨c0,c1,rfl⟩:=aD BX.1
   obtain ⟨d0,d1,rfl⟩:=aD BZ.1
   have oc0:=SJ 15 _ (by decide) rfl
   have of0:=vC (t*28+15)
   have EY:=aA xS
   have WY:=aA (And.intro hr6 h6)
   have HBC:=aA hbc
   clear hst YM vr fr VA r2 k2 xS SJ BX BZ vC hr6 ED hbc hm hcl
   go_upto_region 3 with fail
   generalize kS:World.setCell _ _ _=W2
   have xS:aF R L S w {E with th:=aH E.th t {E.th t with now:=some {v with st:=r.1}}} W2:=by rw [←kS];exact EY.out
   first|(have _:Kn 0:=kk;have AA:Row W2 b6 38 [.int .i64 r.2.s,.int .i64 r.2.v]:=by rw [←kS];exact (show Row (wc.setCells L.g (t*28+(15+0)) [.int .i64 q0]) b6 38 _ from Row.cI (by omega) _ _ WY.out.1))|(have _:Kn 1:=kk;have AA:Row W2 b6 38 [.int .i64 r.2.s,.int .i64 r.2.v]:=by rw [←kS];exact (show Row (wc.setCells L.g (t*28+(15+0)) [.pointer q0]) b6 38 _ from Row.cI (by omega) _ _ WY.out.1))|(have _:Kn 2:=kk;have AA:Row W2 b6 38 [.int .i64 r.2.s,.int .i64 r.2.v]:=by rw [←kS];exact (show Row (wc.setCells L.g (t*28+(15+0)) [.pointer q0]) b6 38 _ from Row.cI (by omega) _ _ WY.out.1))
   clear kS EY
   obtain ⟨cv6,cf6,pv6,hc6,-,-,-,-⟩:=xS.re.cells ht (aC _ _ _)
   have g0:W2.cell? ⟨L.g,t*28,none⟩=some (.pointer (some ⟨L.bS,0,none⟩)):=hc6 0 _ (by decide) rfl
   have g14:=hc6 14 _ (by decide) rfl
   have gs0:W2.cell? ⟨L.bS,0,none⟩=some (.int .i64 (L.n:Int)):=xS.re.sh.cell_of rfl
   have ga0:W2.cell? ⟨b6,0,none⟩=some (.int .i64 r.2.s):=AA.cell_of rfl
   have ga1:W2.cell? ⟨b6,1,none⟩=some (.int .i64 r.2.v):=AA.cell_of rfl
   have hsk:M.aL L.n k<M.aR L.n:=by unfold M.aL M.aR;omega
   have hvk:M.aM L.n k<M.aR L.n:=by unfold M.aM M.aR;omega
   have PM:M.aR L.n≤200:=by unfold M.aR M.tw;omega
   have th1:W2.there (L.gD t) (M.aL L.n k) 1:=(xS.re.gd t ht).there hsk
   have th2:W2.there (L.gD t) (M.aM L.n k) 1:=(xS.re.gd t ht).there hvk
   have ngD:L.g≠L.gD t:=by obtain ⟨T,q,-⟩:=HH.out.th;exact Row.apart q (HH.out.gd t ht) (by decide)
   have nSD:L.bS≠L.gD t:=Row.apart HH.out.sh (HH.out.gd t ht) (by decide)
   have n6D:b6≠L.gD t:=fun q=>by have:=HH.out.lt _ (HH.out.ow _ (oV ht));have:=WY.out.2;omega
   have EY:=aA xS
   generalize VB:M.aL L.n k=sk at *
   generalize VC:M.aM L.n k=vk at *
   have aFI:(sk:Int)<(M.aR L.n:Int):=by omega
   have aFJ:(vk:Int)<(M.aR L.n:Int):=by omega
   clear xS AA hc6
   go_cut [6] (fun an w'=>an = .pointer (some ⟨b6,0,none⟩)∧aF R L S w {E with th:=aH (aH E.th t {E.th t with now:=some {v with st:=r.1}}) t {(aH E.th t {E.th t with now:=some {v with st:=r.1}}) t with dw:=aH ((aH E.th t {E.th t with now:=some {v with st:=r.1}}) t).dw sk r.2.s}} w'∧w'.cell? ⟨L.g,t*28,none⟩=some (.pointer (some ⟨L.bS,0,none⟩))∧w'.cell? ⟨L.g,t*28+14,none⟩=some (.slice (some ⟨L.gD t,0,none⟩) (M.aR L.n) (M.aR L.n))∧w'.cell? ⟨L.bS,0,none⟩=some (.int .i64 (L.n:Int))∧w'.cell? ⟨b6,1,none⟩=some (.int .i64 r.2.v)∧w'.there (L.gD t) vk 1)
   case first =>
    refine fQ (S:=(fun w'=>w'.cell? ⟨L.g,t*28,none⟩=some (.pointer (some ⟨L.bS,0,none⟩))∧w'.cell? ⟨L.g,t*28+14,none⟩=some (.slice (some ⟨L.gD t,0,none⟩) (M.aR L.n) (M.aR L.n))∧w'.cell? ⟨L.bS,0,none⟩=some (.int .i64 (L.n:Int))∧w'.cell? ⟨b6,0,none⟩=some (.int .i64 r.2.s)∧w'.cell? ⟨b6,1,none⟩=some (.int .i64 r.2.v)∧w'.there (L.gD t) (sk) 1∧w'.there (L.gD t) (vk) 1)) 18 rfl (by kernel_rfl) ?_ (fun hHeld=>?_)
    ·exact ⟨g0,g14,gs0,ga0,ga1,th1,th2⟩
    iterate 13 (refine tk 17 (by rfl) (by kernel_rfl) (by exact fun _ _ _ h=>h) (.inl ⟨by rfl,fun w hS=>by (try dsimp only at hS);go_simp;(try with_reducible rfl)⟩) (by assumption) ?_;try go_frame)
    iterate 2 (refine tk 18 (by rfl) (by kernel_rfl) (by exact fun _ _ _ h=>h) (.inl ⟨by rfl,fun w hS=>by (try dsimp only at hS);go_simp;(try with_reducible rfl)⟩) (by assumption) ?_;try go_frame)
    refine bK 13 (by rfl) (by kernel_rfl) (fun K hK=>?_)
    go_simp
    refine (rV L.n k _ yS hn hk).mono ?_
    rintro e w3 ⟨rfl,cH⟩
    rw [VB]
    go_wp2_with fail
    refine hK.out _ _ ?_ (fun hHeld=>?_)
    ·exact ⟨cell_later cH hHeld.1,cell_later cH hHeld.2.1,cell_later cH hHeld.2.2.1,cell_later cH hHeld.2.2.2.1,cell_later cH hHeld.2.2.2.2.1,aU cH hHeld.2.2.2.2.2.1,aU cH hHeld.2.2.2.2.2.2⟩
    clear hK K
    (try go_frame)
    iterate 1 (refine tk 17 (by rfl) (by kernel_rfl) (by exact fun _ _ _ h=>h) (.inl ⟨by rfl,fun w hS=>by (try dsimp only at hS);go_simp;(try with_reducible rfl)⟩) (by assumption) ?_;try go_frame)
    refine bK 17 (by rfl) (by kernel_rfl) (fun K hK=>?_)
    rw [if_pos (by rfl)]
    refine aP _ _ _ rfl (L.gD t) sk (.int .i64 r.2.s) rfl rfl rfl rfl hHeld.2.2.2.2.2.1 (by kernel_rfl) ?_
    refine hK.out _ _ ?_ (fun hHeld=>?_)
    ·exact ⟨aJ hHeld.1 (by first|exact .inr (by dsimp only;omega)|exact .inl (by assumption)|exact .inl (Ne.symm (by assumption))),aJ hHeld.2.1 (by first|exact .inr (by dsimp only;omega)|exact .inl (by assumption)|exact .inl (Ne.symm (by assumption))),aJ hHeld.2.2.1 (by first|exact .inr (by dsimp only;omega)|exact .inl (by assumption)|exact .inl (Ne.symm (by assumption))),aJ hHeld.2.2.2.1 (by first|exact .inr (by dsimp only;omega)|exact .inl (by assumption)|exact .inl (Ne.symm (by assumption))),aJ hHeld.2.2.2.2.1 (by first|exact .inr (by dsimp only;omega)|exact .inl (by assumption)|exact .inl (Ne.symm (by assumption))),bM hHeld.2.2.2.2.2.1 _ rfl _,bM hHeld.2.2.2.2.2.2 _ rfl _⟩
    clear hK K
    (try go_frame)
    refine wpAnyH_done (by kernel_rfl) ?_ _
    have hL3:=EY.out.next (aF.below EY.out.re (Below.bU cH))
    have hL4:=hL3.next (aF.of (hL3.re.fX t ht sk r.2.s) (Fr.set w3 (oV ht) _) rfl)
    have PN:=aA hL4
    clear hL3 hL4 cH
    (try go_wp2_with fail)
    go_meet
    case rel=>exact ⟨rfl,PN.out,hHeld.1,hHeld.2.1,hHeld.2.2.1,hHeld.2.2.2.2.1,hHeld.2.2.2.2.2.2⟩
   case rest =>
    obtain ⟨rfl,hL5,i0,i14,is0,ia1,ith⟩:=hcut
    have KP:=aA hL5
    clear hL5 g0 g14 gs0 ga0 ga1 th1 th2
    go_upto_region 4 with fail
    refine fQ (S:=(fun w'=>w'.cell? ⟨L.g,t*28,none⟩=some (.pointer (some ⟨L.bS,0,none⟩))∧w'.cell? ⟨L.g,t*28+14,none⟩=some (.slice (some ⟨L.gD t,0,none⟩) (M.aR L.n) (M.aR L.n))∧w'.cell? ⟨L.bS,0,none⟩=some (.int .i64 (L.n:Int))∧w'.cell? ⟨b6,1,none⟩=some (.int .i64 r.2.v)∧w'.there (L.gD t) (vk) 1)) 18 rfl (by kernel_rfl) ?_ (fun hHeld=>?_)
    ·exact ⟨i0,i14,is0,ia1,ith⟩
    iterate 13 (refine tk 17 (by rfl) (by kernel_rfl) (by exact fun _ _ _ h=>h) (.inl ⟨by rfl,fun w hS=>by (try dsimp only at hS);go_simp;(try with_reducible rfl)⟩) (by assumption) ?_;try go_frame)
    iterate 2 (refine tk 18 (by rfl) (by kernel_rfl) (by exact fun _ _ _ h=>h) (.inl ⟨by rfl,fun w hS=>by (try dsimp only at hS);go_simp;(try with_reducible rfl)⟩) (by assumption) ?_;try go_frame)
    refine bK 13 (by rfl) (by kernel_rfl) (fun K hK=>?_)
    go_simp
    refine (pR L.n k _ yS hn hk).mono ?_
    rintro e w7 ⟨rfl,AB⟩
    rw [VC]
    go_wp2_with fail
    refine hK.out _ _ ?_ (fun hHeld=>?_)
    ·exact ⟨cell_later AB hHeld.1,cell_later AB hHeld.2.1,cell_later AB hHeld.2.2.1,cell_later AB hHeld.2.2.2.1,aU AB hHeld.2.2.2.2⟩
    clear hK K
    (try go_frame)
    iterate 1 (refine tk 17 (by rfl) (by kernel_rfl) (by exact fun _ _ _ h=>h) (.inl ⟨by rfl,fun w hS=>by (try dsimp only at hS);go_simp;(try with_reducible rfl)⟩) (by assumption) ?_;try go_frame)
    refine bK 17 (by rfl) (by kernel_rfl) (fun K hK=>?_)
    rw [if_pos (by rfl)]
    refine aP _ _ _ rfl (L.gD t) vk (.int .i64 r.2.v) rfl rfl rfl rfl hHeld.2.2.2.2 (by kernel_rfl) ?_
    refine hK.out _ _ ?_ (fun hHeld=>?_)
    ·exact ⟨aJ hHeld.1 (by first|exact .inr (by dsimp only;omega)|exact .inl (by assumption)|exact .inl (Ne.symm (by assumption))),aJ hHeld.2.1 (by first|exact .inr (by dsimp only;omega)|exact .inl (by assumption)|exact .inl (Ne.symm (by assumption))),aJ hHeld.2.2.1 (by first|exact .inr (by dsimp only;omega)|exact .inl (by assumption)|exact .inl (Ne.symm (by assumption))),aJ hHeld.2.2.2.1 (by first|exact .inr (by dsimp only;omega)|exact .inl (by assumption)|exact .inl (Ne.symm (by assumption))),bM hHeld.2.2.2.2 _ rfl _⟩
    clear hK K
    (try go_frame)
    refine wpAnyH_done (by kernel_rfl) ?_ _
    have hL7:=KP.out.next (aF.below KP.out.re (Below.bU AB))
    have hL8:=hL7.next (aF.of (hL7.re.fX t ht vk r.2.v) (Fr.set w7 (oV ht) _) rfl)
    have HL8:=aA hL8
    clear hL7 hL8 AB hHeld
    go_wp2
    refine bodyPost_end (v:=.tuple #[]) (by simp [results,Tryz.results142,Tryz.results193,Tryz.results267,go_sem]) rfl ⟨rfl,HL8.out.cast ?_⟩
    simp only [bR,aC]
    unfold aS.apply
    rw [HC.out.1]
    simp only [←lX.out,VB,VC]
theorem int.AD:kR:=xT.1
theorem list.AD:kR:=xT.2.1
theorem tree.AD:kR:=xT.2.2
theorem row.AD {σ:Type} {R:SR σ} {L:Lt} {S:Nat→Prop} {E:aK σ} {w:World} {t:Nat} {P:M.Plain σ} {fA:Nat} {rv:Value} (hA:cE R P L fA rv) (h:RE R L S E w) (ht:t<L.n) {k:Nat} (hk:k<L.n) {v f:cY σ} (hv:(E.th t).now=some v) (hf:(E.th t).cC=some f) (hsz:R.sz v.st≤1000000000000) :
  Calls Tryz.prog 230 #[.pointer (some ⟨L.g,t*30,none⟩),.int .i64 (k:Int)] w fun e w'=>e = .returned (.tuple #[])∧aF R L S w {E with th:=aH E.th t (aS.apply P L.n (E.th t) k)} w':=by
 obtain ⟨cv,cf,pv,hc,hcv,eE,-,hfz⟩:=h.cells ht rfl
 have sB:=hcv.2 v hv
 have hfr:=eE.2 f hf
 obtain ⟨x0,x1,xl,rfl⟩:∃ x0 x1 l,cv=[x0,x1]++[l]:=by obtain ⟨c0,c1,c2,rfl⟩:=aD hcv.1;exact ⟨_,_,_,rfl⟩
 obtain ⟨y0,y1,y2,rfl⟩:=aD eE.1
 have hn:=h.ok.n64
 have yS:=h.ok.n1
 have c0:w.cell? ⟨L.g,t*30,none⟩=some (.pointer (some ⟨L.bS,0,none⟩)):=hc 0 _ (by decide) rfl
 have s1:w.cell? ⟨L.bS,1,none⟩=some (.iface L.oT L.ov):=h.sh.cell_of rfl
 have xc0:=hc 15 _ (by decide) rfl
 have xc1:=hc 16 _ (by decide) rfl
 have hh0:=hc 23 _ (by decide) rfl
 have hh1:=hc 24 _ (by decide) rfl
 have hh2:=hc 25 _ (by decide) rfl
 have aAP:=fun ob=>dM hh0 ob
 have aAQ:=fun ob=>dM hh1 ob
 have aAR:=fun ob=>dM hh2 ob
 have HH:=aA h
 have HV:=aA (And.intro sB hfr)
 have HC:=aA (And.intro hv hf)
 have HX:=aA (show ∀ j,j<2*(2+1)→w.cell? ⟨L.g,t*30+(15+j),none⟩=(([x0,x1]++[xl])++[y0,y1,y2])[j]? from fun j hj=>by
  have q:=jL (L:=L) (t:=t) (E.th t) ([x0,x1]++[xl]) [y0,y1,y2] pv hcv.1 eE.1 j hj
  obtain ⟨u,hu⟩:∃ u,(([x0,x1]++[xl])++[y0,y1,y2])[j]?=some u:=⟨_,List.getElem?_eq_getElem (by simp;omega)⟩
  rw [hu] at q ⊢
  exact hc (15+j) u (by omega) q)
 clear h hc hcv eE sB hfr hfz hv hf
 go_enter Tryz.func230,Tryz.ntmps230
 go_wp2
 go_region
 generalize tG:World.drew _=W1
 have lW:Below w.heap.size w W1:=by rw [←tG];exact Below.drew (aB w _)
 have hro:Row W1 w.heap.size 46 [.int .i64 ((E.th t).heard 0),.int .i64 ((E.th t).heard 1),.int .i64 ((E.th t).heard 2)]:=by rw [←tG];exact Row.new w [_,_,_] _
 have o0:W1.cell? ⟨w.heap.size,0,none⟩=some (.int .i64 ((E.th t).heard 0)):=hro.cell_of rfl
 have o1:W1.cell? ⟨w.heap.size,1,none⟩=some (.int .i64 ((E.th t).heard 1)):=hro.cell_of rfl
 have o2:W1.cell? ⟨w.heap.size,2,none⟩=some (.int .i64 ((E.th t).heard 2)):=hro.cell_of rfl
 have e0:=cell_later lW c0
 have e1:=cell_later lW s1
 have xe0:=cell_later lW xc0
 have xe1:=cell_later lW xc1
 have UZ:R.rep (fun k=>S k∧¬L.own k) w v.st [x0,x1]:=by
  obtain ⟨sc,b,hsc,hr,-⟩:=HV.out.1
  have:sc=[x0,x1]:=(List.append_inj' hsc rfl).1.symm
  rw [←this];exact hr
 have zK:∀ k,(S k∧¬L.own k)→k<w.heap.size:=fun k hk=>HH.out.lt k hk.1
 obtain ⟨r,hr⟩:∃ r,r=P.apply v.st (M.fP (E.th t).heard):=⟨_,rfl⟩
 have WX:=aA (fun (W:World) (hW:Below w.heap.size w W)=>hA.ap (fun k=>S k∧¬L.own k) W v.st x0 x1 (M.fP (E.th t).heard) (R.stay (fun k hk hlt=>⟨hk,hW.block k hlt⟩) UZ) hsz (fun k hk=>Nat.lt_of_lt_of_le (zK k hk) hW.size))
 rw [←hr] at WX
 have lX:=aA hr
 have hm:=hA.m
 have hcl:=hA.c
 have GI:L.g<w.heap.size:=HH.out.lt _ (HH.out.ow _ kE)
 have hSl:L.bS<w.heap.size:=HH.out.lt _ (HH.out.ow _ NB)
 have aFF:w.heap.size<W1.heap.size:=hro.lt
 clear tG hro UZ hh0 hh1 hh2 aAP aAQ aAR c0 s1 xc0 xc1 hr
 go_upto_region 1 with fail
 go_cut [5,6] (fun st an w'=>∃ (y0 y1:Value) (b5 b6:Nat),st = .pointer (some ⟨b5,0,none⟩)∧an = .pointer (some ⟨b6,0,none⟩)∧Row w' b6 38 [.int .i64 r.2.s,.int .i64 r.2.v]∧Below w.heap.size w w'∧w.heap.size≤b6∧R.rep (fun k=>(S k∧¬L.own k)∨(w.heap.size≤k∧k<w'.heap.size)) w' r.1 [y0,y1]∧Row w' b5 68 [y0,y1])
 case first =>
  refine aFD (S:=(fun w'=>Below w.heap.size w w'∧w'.cell? ⟨L.g,t*30,none⟩=some (.pointer (some ⟨L.bS,0,none⟩))∧w'.cell? ⟨L.bS,1,none⟩=some (.iface L.oT L.ov)∧w'.cell? ⟨L.g,t*30+15,none⟩=some x0∧w'.cell? ⟨L.g,t*30+16,none⟩=some x1∧w'.cell? ⟨w.heap.size,0,none⟩=some (.int .i64 ((E.th t).heard 0))∧w'.cell? ⟨w.heap.size,1,none⟩=some (.int .i64 ((E.th t).heard 1))∧w'.cell? ⟨w.heap.size,2,none⟩=some (.int .i64 ((E.th t).heard 2)))) 25 rfl (by kernel_rfl) ?_ (fun Wd hWd hHeld=>?_)
  ·exact ⟨Below.drew lW,e0,e1,xe0,xe1,o0,o1,o2⟩
  have zd1:Wd.heap.size≤W1.heap.size:=by rw [hWd];exact Nat.le_refl _
  have zd2:W1.heap.size≤Wd.heap.size:=by rw [hWd];exact Nat.le_refl _
  clear hWd
  iterate 17 (refine tk 24 (by rfl) (by kernel_rfl) (by exact fun _ _ _ h=>h) (.inl ⟨by rfl,fun w hS=>by (try dsimp only at hS);go_simp;(try with_reducible rfl)⟩) (by assumption) ?_;try go_frame)
  refine wpAnyH_ready (rs:=[17,21,22]) (by kernel_rfl) (by simp) (rc (by rfl) (fun K hK=>?_) (rc (by rfl) (fun K hK=>?_) (rc (by rfl) (fun K hK=>?_) AllReadyH.nil)))
  ·go_simp
   have zc:=hHeld.1.size
   refine (WX.out _ hHeld.1).mono ?_
   rintro e w2 ⟨z0,z1,rfl,hz,bA⟩
   obtain ⟨q0,rfl⟩:=R.shape hz z0 (by simp)
   obtain ⟨q1,rfl⟩:=R.shape hz z1 (by simp)
   have z2:=bA.size
   (try replace r5:=r5.old bA)
   (try replace r6:=r6.old bA)
   go_wp2_with fail
   refine hK.out _ _ ?_ (fun hHeld=>?_)
   ·exact fR bA hHeld
   clear hK K
   (try go_frame)
   iterate 3 (refine tk 24 (by rfl) (by kernel_rfl) (by exact fun _ _ _ h=>h) (.inl ⟨by rfl,fun w hS=>by (try dsimp only at hS);go_simp;(try with_reducible rfl)⟩) (by assumption) ?_;try go_frame)
   refine wpAnyH_ready (rs:=[21,22]) (by kernel_rfl) (by simp) (rc (by rfl) (fun K hK=>?_) (rc (by rfl) (fun K hK=>?_) AllReadyH.nil))
   ·go_simp
    have l5:=hHeld.1.size
    generalize GK:World.alloc _ _=W5
    have r5:=eK (xs:=[.pointer none,.pointer none]) GK
    have AE:=dI GK
    have z5:=AE.size
    have x5:=r5.lt
    (try replace r6:=r6.old AE)
    (try replace hz:=R.stay (fun k hk hlt=>⟨hk,AE.block k hlt⟩) hz)
    clear GK
    refine hK.out _ _ ?_ (fun hHeld=>?_)
    ·exact fR AE hHeld
    clear hK K
    (try go_frame)
    refine bK 22 (by rfl) (by kernel_rfl) (fun K hK=>?_)
    go_simp
    have l6:=hHeld.1.size
    generalize GL:World.alloc _ _=W6
    have r6:=eK (xs:=[.int .i64 0,.int .i64 0]) GL
    have AG:=dI GL
    have z6:=AG.size
    have x6:=r6.lt
    (try replace r5:=r5.old AG)
    (try replace hz:=R.stay (fun k hk hlt=>⟨hk,AG.block k hlt⟩) hz)
    clear GL
    refine hK.out _ _ ?_ (fun hHeld=>?_)
    ·exact fR AG hHeld
    clear hK K
    (try go_frame)
    refine bK 23 (by rfl) (by kernel_rfl) (fun K hK=>?_)
    rw [if_pos (by rfl)]
    refine wp_store_mid _ _ _ rfl _ 0 #[.pointer q0,.pointer q1] rfl rfl (r5.there (by simp)) (by kernel_rfl) (by simp [Value.oneCell']) ?_
    have CE:=nH r5 [.pointer q0,.pointer q1] (by omega) (by omega) (by omega) (by omega) hHeld
    replace hz:=sR r5 hz zK (by omega) (by omega) [.pointer q0,.pointer q1]
    replace r6:=Row.cI (Row.apart r6 r5 (by decide)) [.pointer q0,.pointer q1] 0 r6
    replace r5:=Row.zJ r5 (x:=.pointer q0) (y:=.pointer q1)
    refine hK.out _ _ ?_ (fun hHeld=>?_)
    ·exact CE
    clear hK K
    (try go_frame)
    refine bK 24 (by rfl) (by kernel_rfl) (fun K hK=>?_)
    rw [if_pos (by rfl)]
    refine wp_store_mid _ _ _ rfl _ 0 #[.int .i64 r.2.s,.int .i64 r.2.v] rfl rfl (r6.there (by simp)) (by kernel_rfl) (by simp [Value.oneCell']) ?_
    have CG:=nH r6 [.int .i64 r.2.s,.int .i64 r.2.v] (by omega) (by omega) (by omega) (by omega) hHeld
    replace hz:=sR r6 hz zK (by omega) (by omega) [.int .i64 r.2.s,.int .i64 r.2.v]
    replace r5:=Row.cI (Row.apart r5 r6 (by decide)) [.int .i64 r.2.s,.int .i64 r.2.v] 0 r5
    replace r6:=Row.zJ r6 (x:=.int .i64 r.2.s) (y:=.int .i64 r.2.v)
    refine hK.out _ _ ?_ (fun hHeld=>?_)
    ·exact CG
    clear hK K
    (try go_frame)
    refine wpAnyH_done (by kernel_rfl) ?_ _
    have zf:=hHeld.1.size
    (try go_wp2_with fail)
    go_meet
    case rel=>exact ⟨.pointer q0,.pointer q1,_,_,rfl,rfl,r6,hHeld.1,by omega,R.stay (fun k hk _=>⟨(by
      rcases hk with hk|hk
      ·exact .inl hk
      ·exact .inr ⟨by omega,Nat.lt_of_lt_of_le hk.2 (by rw [fG,fG];omega)⟩),rfl⟩) hz,r5⟩
   ·go_simp
    have l6:=hHeld.1.size
    generalize GL:World.alloc _ _=W6
    have r6:=eK (xs:=[.int .i64 0,.int .i64 0]) GL
    have AG:=dI GL
    have z6:=AG.size
    have x6:=r6.lt
    (try replace r5:=r5.old AG)
    (try replace hz:=R.stay (fun k hk hlt=>⟨hk,AG.block k hlt⟩) hz)
    clear GL
    refine hK.out _ _ ?_ (fun hHeld=>?_)
    ·exact fR AG hHeld
    clear hK K
    (try go_frame)
    refine bK 21 (by rfl) (by kernel_rfl) (fun K hK=>?_)
    go_simp
    have l5:=hHeld.1.size
    generalize GK:World.alloc _ _=W5
    have r5:=eK (xs:=[.pointer none,.pointer none]) GK
    have AE:=dI GK
    have z5:=AE.size
    have x5:=r5.lt
    (try replace r6:=r6.old AE)
    (try replace hz:=R.stay (fun k hk hlt=>⟨hk,AE.block k hlt⟩) hz)
    clear GK
    refine hK.out _ _ ?_ (fun hHeld=>?_)
    ·exact fR AE hHeld
    clear hK K
    (try go_frame)
    refine bK 23 (by rfl) (by kernel_rfl) (fun K hK=>?_)
    rw [if_pos (by rfl)]
    refine wp_store_mid _ _ _ rfl _ 0 #[.pointer q0,.pointer q1] rfl rfl (r5.there (by simp)) (by kernel_rfl) (by simp [Value.oneCell']) ?_
    have CE:=nH r5 [.pointer q0,.pointer q1] (by omega) (by omega) (by omega) (by omega) hHeld
    replace hz:=sR r5 hz zK (by omega) (by omega) [.pointer q0,.pointer q1]
    replace r6:=Row.cI (Row.apart r6 r5 (by decide)) [.pointer q0,.pointer q1] 0 r6
    replace r5:=Row.zJ r5 (x:=.pointer q0) (y:=.pointer q1)
    refine hK.out _ _ ?_ (fun hHeld=>?_)
    ·exact CE
    clear hK K
    (try go_frame)
    refine bK 24 (by rfl) (by kernel_rfl) (fun K hK=>?_)
    rw [if_pos (by rfl)]
    refine wp_store_mid _ _ _ rfl _ 0 #[.int .i64 r.2.s,.int .i64 r.2.v] rfl rfl (r6.there (by simp)) (by kernel_rfl) (by simp [Value.oneCell']) ?_
    have CG:=nH r6 [.int .i64 r.2.s,.int .i64 r.2.v] (by omega) (by omega) (by omega) (by omega) hHeld
    replace hz:=sR r6 hz zK (by omega) (by omega) [.int .i64 r.2.s,.int .i64 r.2.v]
    replace r5:=Row.cI (Row.apart r5 r6 (by decide)) [.int .i64 r.2.s,.int .i64 r.2.v] 0 r5
    replace r6:=Row.zJ r6 (x:=.int .i64 r.2.s) (y:=.int .i64 r.2.v)
    refine hK.out _ _ ?_ (fun hHeld=>?_)
    ·exact CG
    clear hK K
    (try go_frame)
    refine wpAnyH_done (by kernel_rfl) ?_ _
    have zf:=hHeld.1.size
    (try go_wp2_with fail)
    go_meet
    case rel=>exact ⟨.pointer q0,.pointer q1,_,_,rfl,rfl,r6,hHeld.1,by omega,R.stay (fun k hk _=>⟨(by
      rcases hk with hk|hk
      ·exact .inl hk
      ·exact .inr ⟨by omega,Nat.lt_of_lt_of_le hk.2 (by rw [fG,fG];omega)⟩),rfl⟩) hz,r5⟩
  ·go_simp
   have l5:=hHeld.1.size
   generalize GK:World.alloc _ _=W5
   have r5:=eK (xs:=[.pointer none,.pointer none]) GK
   have AE:=dI GK
   have z5:=AE.size
   have x5:=r5.lt
   (try replace r6:=r6.old AE)
   (try replace hz:=R.stay (fun k hk hlt=>⟨hk,AE.block k hlt⟩) hz)
   clear GK
   refine hK.out _ _ ?_ (fun hHeld=>?_)
   ·exact fR AE hHeld
   clear hK K
   (try go_frame)
   refine wpAnyH_ready (rs:=[17,22]) (by kernel_rfl) (by simp) (rc (by rfl) (fun K hK=>?_) (rc (by rfl) (fun K hK=>?_) AllReadyH.nil))
   ·go_simp
    have zc:=hHeld.1.size
    refine (WX.out _ hHeld.1).mono ?_
    rintro e w2 ⟨z0,z1,rfl,hz,bA⟩
    obtain ⟨q0,rfl⟩:=R.shape hz z0 (by simp)
    obtain ⟨q1,rfl⟩:=R.shape hz z1 (by simp)
    have z2:=bA.size
    (try replace r5:=r5.old bA)
    (try replace r6:=r6.old bA)
    go_wp2_with fail
    refine hK.out _ _ ?_ (fun hHeld=>?_)
    ·exact fR bA hHeld
    clear hK K
    (try go_frame)
    iterate 3 (refine tk 23 (by rfl) (by kernel_rfl) (by exact fun _ _ _ h=>h) (.inl ⟨by rfl,fun w hS=>by (try dsimp only at hS);go_simp;(try with_reducible rfl)⟩) (by assumption) ?_;try go_frame)
    refine bK 22 (by rfl) (by kernel_rfl) (fun K hK=>?_)
    go_simp
    have l6:=hHeld.1.size
    generalize GL:World.alloc _ _=W6
    have r6:=eK (xs:=[.int .i64 0,.int .i64 0]) GL
    have AG:=dI GL
    have z6:=AG.size
    have x6:=r6.lt
    (try replace r5:=r5.old AG)
    (try replace hz:=R.stay (fun k hk hlt=>⟨hk,AG.block k hlt⟩) hz)
    clear GL
    refine hK.out _ _ ?_ (fun hHeld=>?_)
    ·exact fR AG hHeld
    clear hK K
    (try go_frame)
    refine bK 23 (by rfl) (by kernel_rfl) (fun K hK=>?_)
    rw [if_pos (by rfl)]
    refine wp_store_mid _ _ _ rfl _ 0 #[.pointer q0,.pointer q1] rfl rfl (r5.there (by simp)) (by kernel_rfl) (by simp [Value.oneCell']) ?_
    have CE:=nH r5 [.pointer q0,.pointer q1] (by omega) (by omega) (by omega) (by omega) hHeld
    replace hz:=sR r5 hz zK (by omega) (by omega) [.pointer q0,.pointer q1]
    replace r6:=Row.cI (Row.apart r6 r5 (by decide)) [.pointer q0,.pointer q1] 0 r6
    replace r5:=Row.zJ r5 (x:=.pointer q0) (y:=.pointer q1)
    refine hK.out _ _ ?_ (fun hHeld=>?_)
    ·exact CE
    clear hK K
    (try go_frame)
    refine bK 24 (by rfl) (by kernel_rfl) (fun K hK=>?_)
    rw [if_pos (by rfl)]
    refine wp_store_mid _ _ _ rfl _ 0 #[.int .i64 r.2.s,.int .i64 r.2.v] rfl rfl (r6.there (by simp)) (by kernel_rfl) (by simp [Value.oneCell']) ?_
    have CG:=nH r6 [.int .i64 r.2.s,.int .i64 r.2.v] (by omega) (by omega) (by omega) (by omega) hHeld
    replace hz:=sR r6 hz zK (by omega) (by omega) [.int .i64 r.2.s,.int .i64 r.2.v]
    replace r5:=Row.cI (Row.apart r5 r6 (by decide)) [.int .i64 r.2.s,.int .i64 r.2.v] 0 r5
    replace r6:=Row.zJ r6 (x:=.int .i64 r.2.s) (y:=.int .i64 r.2.v)
    refine hK.out _ _ ?_ (fun hHeld=>?_)
    ·exact CG
    clear hK K
    (try go_frame)
    refine wpAnyH_done (by kernel_rfl) ?_ _
    have zf:=hHeld.1.size
    (try go_wp2_with fail)
    go_meet
    case rel=>exact ⟨.pointer q0,.pointer q1,_,_,rfl,rfl,r6,hHeld.1,by omega,R.stay (fun k hk _=>⟨(by
      rcases hk with hk|hk
      ·exact .inl hk
      ·exact .inr ⟨by omega,Nat.lt_of_lt_of_le hk.2 (by rw [fG,fG];omega)⟩),rfl⟩) hz,r5⟩
   ·go_simp
    have l6:=hHeld.1.size
    generalize GL:World.alloc _ _=W6
    have r6:=eK (xs:=[.int .i64 0,.int .i64 0]) GL
    have AG:=dI GL
    have z6:=AG.size
    have x6:=r6.lt
    (try replace r5:=r5.old AG)
    (try replace hz:=R.stay (fun k hk hlt=>⟨hk,AG.block k hlt⟩) hz)
    clear GL
    refine hK.out _ _ ?_ (fun hHeld=>?_)
    ·exact fR AG hHeld
    clear hK K
    (try go_frame)
    refine bK 17 (by rfl) (by kernel_rfl) (fun K hK=>?_)
    go_simp
    have zc:=hHeld.1.size
    refine (WX.out _ hHeld.1).mono ?_
    rintro e w2 ⟨z0,z1,rfl,hz,bA⟩
    obtain ⟨q0,rfl⟩:=R.shape hz z0 (by simp)
    obtain ⟨q1,rfl⟩:=R.shape hz z1 (by simp)
    have z2:=bA.size
    (try replace r5:=r5.old bA)
    (try replace r6:=r6.old bA)
    go_wp2_with fail
    refine hK.out _ _ ?_ (fun hHeld=>?_)
    ·exact fR bA hHeld
    clear hK K
    (try go_frame)
    iterate 3 (refine tk 22 (by rfl) (by kernel_rfl) (by exact fun _ _ _ h=>h) (.inl ⟨by rfl,fun w hS=>by (try dsimp only at hS);go_simp;(try with_reducible rfl)⟩) (by assumption) ?_;try go_frame)
    refine bK 23 (by rfl) (by kernel_rfl) (fun K hK=>?_)
    rw [if_pos (by rfl)]
    refine wp_store_mid _ _ _ rfl _ 0 #[.pointer q0,.pointer q1] rfl rfl (r5.there (by simp)) (by kernel_rfl) (by simp [Value.oneCell']) ?_
    have CE:=nH r5 [.pointer q0,.pointer q1] (by omega) (by omega) (by omega) (by omega) hHeld
    replace hz:=sR r5 hz zK (by omega) (by omega) [.pointer q0,.pointer q1]
    replace r6:=Row.cI (Row.apart r6 r5 (by decide)) [.pointer q0,.pointer q1] 0 r6
    replace r5:=Row.zJ r5 (x:=.pointer q0) (y:=.pointer q1)
    refine hK.out _ _ ?_ (fun hHeld=>?_)
    ·exact CE
    clear hK K
    (try go_frame)
    refine bK 24 (by rfl) (by kernel_rfl) (fun K hK=>?_)
    rw [if_pos (by rfl)]
    refine wp_store_mid _ _ _ rfl _ 0 #[.int .i64 r.2.s,.int .i64 r.2.v] rfl rfl (r6.there (by simp)) (by kernel_rfl) (by simp [Value.oneCell']) ?_
    have CG:=nH r6 [.int .i64 r.2.s,.int .i64 r.2.v] (by omega) (by omega) (by omega) (by omega) hHeld
    replace hz:=sR r6 hz zK (by omega) (by omega) [.int .i64 r.2.s,.int .i64 r.2.v]
    replace r5:=Row.cI (Row.apart r5 r6 (by decide)) [.int .i64 r.2.s,.int .i64 r.2.v] 0 r5
    replace r6:=Row.zJ r6 (x:=.int .i64 r.2.s) (y:=.int .i64 r.2.v)
    refine hK.out _ _ ?_ (fun hHeld=>?_)
    ·exact CG
    clear hK K
    (try go_frame)
    refine wpAnyH_done (by kernel_rfl) ?_ _
    have zf:=hHeld.1.size
    (try go_wp2_with fail)
    go_meet
    case rel=>exact ⟨.pointer q0,.pointer q1,_,_,rfl,rfl,r6,hHeld.1,by omega,R.stay (fun k hk _=>⟨(by
      rcases hk with hk|hk
      ·exact .inl hk
      ·exact .inr ⟨by omega,Nat.lt_of_lt_of_le hk.2 (by rw [fG,fG];omega)⟩),rfl⟩) hz,r5⟩
  ·go_simp
   have l6:=hHeld.1.size
   generalize GL:World.alloc _ _=W6
   have r6:=eK (xs:=[.int .i64 0,.int .i64 0]) GL
   have AG:=dI GL
   have z6:=AG.size
   have x6:=r6.lt
   (try replace r5:=r5.old AG)
   (try replace hz:=R.stay (fun k hk hlt=>⟨hk,AG.block k hlt⟩) hz)
   clear GL
   refine hK.out _ _ ?_ (fun hHeld=>?_)
   ·exact fR AG hHeld
   clear hK K
   (try go_frame)
   refine wpAnyH_ready (rs:=[17,21]) (by kernel_rfl) (by simp) (rc (by rfl) (fun K hK=>?_) (rc (by rfl) (fun K hK=>?_) AllReadyH.nil))
   ·go_simp
    have zc:=hHeld.1.size
    refine (WX.out _ hHeld.1).mono ?_
    rintro e w2 ⟨z0,z1,rfl,hz,bA⟩
    obtain ⟨q0,rfl⟩:=R.shape hz z0 (by simp)
    obtain ⟨q1,rfl⟩:=R.shape hz z1 (by simp)
    have z2:=bA.size
    (try replace r5:=r5.old bA)
    (try replace r6:=r6.old bA)
    go_wp2_with fail
    refine hK.out _ _ ?_ (fun hHeld=>?_)
    ·exact fR bA hHeld
    clear hK K
    (try go_frame)
    iterate 3 (refine tk 23 (by rfl) (by kernel_rfl) (by exact fun _ _ _ h=>h) (.inl ⟨by rfl,fun w hS=>by (try dsimp only at hS);go_simp;(try with_reducible rfl)⟩) (by assumption) ?_;try go_frame)
    refine bK 21 (by rfl) (by kernel_rfl) (fun K hK=>?_)
    go_simp
    have l5:=hHeld.1.size
    generalize GK:World.alloc _ _=W5
    have r5:=eK (xs:=[.pointer none,.pointer none]) GK
    have AE:=dI GK
    have z5:=AE.size
    have x5:=r5.lt
    (try replace r6:=r6.old AE)
    (try replace hz:=R.stay (fun k hk hlt=>⟨hk,AE.block k hlt⟩) hz)
    clear GK
    refine hK.out _ _ ?_ (fun hHeld=>?_)
    ·exact fR AE hHeld
    clear hK K
    (try go_frame)
    refine bK 23 (by rfl) (by kernel_rfl) (fun K hK=>?_)
    rw [if_pos (by rfl)]
    refine wp_store_mid _ _ _ rfl _ 0 #[.pointer q0,.pointer q1] rfl rfl (r5.there (by simp)) (by kernel_rfl) (by simp [Value.oneCell']) ?_
    have CE:=nH r5 [.pointer q0,.pointer q1] (by omega) (by omega) (by omega) (by omega) hHeld
    replace hz:=sR r5 hz zK (by omega) (by omega) [.pointer q0,.pointer q1]
    replace r6:=Row.cI (Row.apart r6 r5 (by decide)) [.pointer q0,.pointer q1] 0 r6
    replace r5:=Row.zJ r5 (x:=.pointer q0) (y:=.pointer q1)
    refine hK.out _ _ ?_ (fun hHeld=>?_)
    ·exact CE
    clear hK K
    (try go_frame)
    refine bK 24 (by rfl) (by kernel_rfl) (fun K hK=>?_)
    rw [if_pos (by rfl)]
    refine wp_store_mid _ _ _ rfl _ 0 #[.int .i64 r.2.s,.int .i64 r.2.v] rfl rfl (r6.there (by simp)) (by kernel_rfl) (by simp [Value.oneCell']) ?_
    have CG:=nH r6 [.int .i64 r.2.s,.int .i64 r.2.v] (by omega) (by omega) (by omega) (by omega) hHeld
    replace hz:=sR r6 hz zK (by omega) (by omega) [.int .i64 r.2.s,.int .i64 r.2.v]
    replace r5:=Row.cI (Row.apart r5 r6 (by decide)) [.int .i64 r.2.s,.int .i64 r.2.v] 0 r5
    replace r6:=Row.zJ r6 (x:=.int .i64 r.2.s) (y:=.int .i64 r.2.v)
    refine hK.out _ _ ?_ (fun hHeld=>?_)
    ·exact CG
    clear hK K
    (try go_frame)
    refine wpAnyH_done (by kernel_rfl) ?_ _
    have zf:=hHeld.1.size
    (try go_wp2_with fail)
    go_meet
    case rel=>exact ⟨.pointer q0,.pointer q1,_,_,rfl,rfl,r6,hHeld.1,by omega,R.stay (fun k hk _=>⟨(by
      rcases hk with hk|hk
      ·exact .inl hk
      ·exact .inr ⟨by omega,Nat.lt_of_lt_of_le hk.2 (by rw [fG,fG];omega)⟩),rfl⟩) hz,r5⟩
   ·go_simp
    have l5:=hHeld.1.size
    generalize GK:World.alloc _ _=W5
    have r5:=eK (xs:=[.pointer none,.pointer none]) GK
    have AE:=dI GK
    have z5:=AE.size
    have x5:=r5.lt
    (try replace r6:=r6.old AE)
    (try replace hz:=R.stay (fun k hk hlt=>⟨hk,AE.block k hlt⟩) hz)
    clear GK
    refine hK.out _ _ ?_ (fun hHeld=>?_)
    ·exact fR AE hHeld
    clear hK K
    (try go_frame)
    refine bK 17 (by rfl) (by kernel_rfl) (fun K hK=>?_)
    go_simp
    have zc:=hHeld.1.size
    refine (WX.out _ hHeld.1).mono ?_
    rintro e w2 ⟨z0,z1,rfl,hz,bA⟩
    obtain ⟨q0,rfl⟩:=R.shape hz z0 (by simp)
    obtain ⟨q1,rfl⟩:=R.shape hz z1 (by simp)
    have z2:=bA.size
    (try replace r5:=r5.old bA)
    (try replace r6:=r6.old bA)
    go_wp2_with fail
    refine hK.out _ _ ?_ (fun hHeld=>?_)
    ·exact fR bA hHeld
    clear hK K
    (try go_frame)
    iterate 3 (refine tk 22 (by rfl) (by kernel_rfl) (by exact fun _ _ _ h=>h) (.inl ⟨by rfl,fun w hS=>by (try dsimp only at hS);go_simp;(try with_reducible rfl)⟩) (by assumption) ?_;try go_frame)
    refine bK 23 (by rfl) (by kernel_rfl) (fun K hK=>?_)
    rw [if_pos (by rfl)]
    refine wp_store_mid _ _ _ rfl _ 0 #[.pointer q0,.pointer q1] rfl rfl (r5.there (by simp)) (by kernel_rfl) (by simp [Value.oneCell']) ?_
    have CE:=nH r5 [.pointer q0,.pointer q1] (by omega) (by omega) (by omega) (by omega) hHeld
    replace hz:=sR r5 hz zK (by omega) (by omega) [.pointer q0,.pointer q1]
    replace r6:=Row.cI (Row.apart r6 r5 (by decide)) [.pointer q0,.pointer q1] 0 r6
    replace r5:=Row.zJ r5 (x:=.pointer q0) (y:=.pointer q1)
    refine hK.out _ _ ?_ (fun hHeld=>?_)
    ·exact CE
    clear hK K
    (try go_frame)
    refine bK 24 (by rfl) (by kernel_rfl) (fun K hK=>?_)
    rw [if_pos (by rfl)]
    refine wp_store_mid _ _ _ rfl _ 0 #[.int .i64 r.2.s,.int .i64 r.2.v] rfl rfl (r6.there (by simp)) (by kernel_rfl) (by simp [Value.oneCell']) ?_
    have CG:=nH r6 [.int .i64 r.2.s,.int .i64 r.2.v] (by omega) (by omega) (by omega) (by omega) hHeld
    replace hz:=sR r6 hz zK (by omega) (by omega) [.int .i64 r.2.s,.int .i64 r.2.v]
    replace r5:=Row.cI (Row.apart r5 r6 (by decide)) [.int .i64 r.2.s,.int .i64 r.2.v] 0 r5
    replace r6:=Row.zJ r6 (x:=.int .i64 r.2.s) (y:=.int .i64 r.2.v)
    refine hK.out _ _ ?_ (fun hHeld=>?_)
    ·exact CG
    clear hK K
    (try go_frame)
    refine wpAnyH_done (by kernel_rfl) ?_ _
    have zf:=hHeld.1.size
    (try go_wp2_with fail)
    go_meet
    case rel=>exact ⟨.pointer q0,.pointer q1,_,_,rfl,rfl,r6,hHeld.1,by omega,R.stay (fun k hk _=>⟨(by
      rcases hk with hk|hk
      ·exact .inl hk
      ·exact .inr ⟨by omega,Nat.lt_of_lt_of_le hk.2 (by rw [fG,fG];omega)⟩),rfl⟩) hz,r5⟩
 case rest =>
  obtain ⟨z0,z1,b5,b6,rfl,rfl,hr6,hbc,h6,ED,VD⟩:=hcut
  obtain ⟨q0,rfl⟩:=R.shape ED z0 (by simp)
  obtain ⟨q1,rfl⟩:=R.shape ED z1 (by simp)
  have hst:∀ k,(S k∧¬L.own k)→k<w.heap.size→(grown S w wc k∧¬L.own k)∧wc.heap[k]?=w.heap[k]?:=fun k hk hlt=>⟨⟨.inl hk.1,hk.2⟩,hbc.block k hlt⟩
  have YM:R.rep (fun k=>grown S w wc k∧¬L.own k) wc r.1 [.pointer q0,.pointer q1]:=R.stay (fun k (hk:(S k∧¬L.own k)∨(w.heap.size≤k∧k<wc.heap.size)) _=>⟨by
   rcases hk with hk|hk
   ·exact ⟨.inl hk.1,hk.2⟩
   ·exact ⟨.inr hk,fun q=>by have:=HH.out.lt _ (HH.out.ow _ q);omega⟩,rfl⟩) ED
  have vr:aV R (fun k=>grown S w wc k∧¬L.own k) wc {v with st:=r.1} ([.pointer q0,.pointer q1]++[xl]):=by
   obtain ⟨sc,b,hsc,-,EZ⟩:=HV.out.1
   have e:=(List.append_inj' hsc rfl).2
   exact ⟨[.pointer q0,.pointer q1],b,by rw [e],YM,cO.stay hst zK _ _ EZ⟩
  have fr:=aV.stay hst zK HV.out.2
  have VA:=aF.below HH.out hbc
  obtain ⟨r2,k2⟩:=VA.re.jK ht [.pointer q0,.pointer q1] 0 (by simp) (by simp) vr fr (fun j hj=>by
   by_cases q:j<2
   ·rw [if_pos ⟨Nat.zero_le _,by simpa using q⟩,List.append_assoc,List.getElem?_append_left (by simpa using q)]
    rfl
   ·rw [if_neg (by simpa using q),hbc.cell (p:=⟨L.g,t*30+(15+j),none⟩) GI,HX.out j hj]
    exact zZ (c:=2) [x0,x1] [.pointer q0,.pointer q1] [xl] [y0,y1,y2] rfl rfl (by omega)) {E.th t with now:=some {v with st:=r.1}} (by rw [←HC.out.2])
  have xS:=VA.next (aF.of r2 k2 rfl)
  obtain ⟨cv5,cf5,pv5,SJ,BX,BZ,-,vC⟩:=VA.re.cells ht rfl
  obtain ⟨c0,c1,c2,rfl⟩:=aD BX.1
  obtain ⟨d0,d1,d2,rfl⟩:=aD BZ.1
  have oc0:=SJ 15 _ (by decide) rfl
  have of0:=vC (t*30+15)
  have oc1:=SJ 16 _ (by decide) rfl
  have of1:=vC (t*30+16)
  have EY:=aA xS
  have WY:=aA (And.intro hr6 h6)
  have HBC:=aA hbc
  have s50:=VD.cell_of (i:=0) rfl
  have s51:=VD.cell_of (i:=1) rfl
  clear VD
  clear hst YM vr fr VA r2 k2 xS SJ BX BZ vC hr6 ED hbc hm hcl
  go_upto_region 3 with fail
  generalize kS:World.setCell _ _ _=W2
  have xS:aF R L S w {E with th:=aH E.th t {E.th t with now:=some {v with st:=r.1}}} W2:=by rw [←kS];exact EY.out
  have AA:Row W2 b6 38 [.int .i64 r.2.s,.int .i64 r.2.v]:=by rw [←kS];exact (show Row (wc.setCells L.g (t*30+(15+0)) [.pointer q0,.pointer q1]) b6 38 _ from Row.cI (by omega) _ _ WY.out.1)
  clear kS EY
  obtain ⟨cv6,cf6,pv6,hc6,-,-,-,-⟩:=xS.re.cells ht (aC _ _ _)
  have g0:W2.cell? ⟨L.g,t*30,none⟩=some (.pointer (some ⟨L.bS,0,none⟩)):=hc6 0 _ (by decide) rfl
  have g14:=hc6 14 _ (by decide) rfl
  have gs0:W2.cell? ⟨L.bS,0,none⟩=some (.int .i64 (L.n:Int)):=xS.re.sh.cell_of rfl
  have ga0:W2.cell? ⟨b6,0,none⟩=some (.int .i64 r.2.s):=AA.cell_of rfl
  have ga1:W2.cell? ⟨b6,1,none⟩=some (.int .i64 r.2.v):=AA.cell_of rfl
  have hsk:M.aL L.n k<M.aR L.n:=by unfold M.aL M.aR;omega
  have hvk:M.aM L.n k<M.aR L.n:=by unfold M.aM M.aR;omega
  have PM:M.aR L.n≤200:=by unfold M.aR M.tw;omega
  have th1:W2.there (L.gD t) (M.aL L.n k) 1:=(xS.re.gd t ht).there hsk
  have th2:W2.there (L.gD t) (M.aM L.n k) 1:=(xS.re.gd t ht).there hvk
  have ngD:L.g≠L.gD t:=by obtain ⟨T,q,-⟩:=HH.out.th;exact Row.apart q (HH.out.gd t ht) (by decide)
  have nSD:L.bS≠L.gD t:=Row.apart HH.out.sh (HH.out.gd t ht) (by decide)
  have n6D:b6≠L.gD t:=fun q=>by have:=HH.out.lt _ (HH.out.ow _ (oV ht));have:=WY.out.2;omega
  have EY:=aA xS
  generalize VB:M.aL L.n k=sk at *
  generalize VC:M.aM L.n k=vk at *
  have aFI:(sk:Int)<(M.aR L.n:Int):=by omega
  have aFJ:(vk:Int)<(M.aR L.n:Int):=by omega
  clear xS AA hc6
  go_cut [6] (fun an w'=>an = .pointer (some ⟨b6,0,none⟩)∧aF R L S w {E with th:=aH (aH E.th t {E.th t with now:=some {v with st:=r.1}}) t {(aH E.th t {E.th t with now:=some {v with st:=r.1}}) t with dw:=aH ((aH E.th t {E.th t with now:=some {v with st:=r.1}}) t).dw sk r.2.s}} w'∧w'.cell? ⟨L.g,t*30,none⟩=some (.pointer (some ⟨L.bS,0,none⟩))∧w'.cell? ⟨L.g,t*30+14,none⟩=some (.slice (some ⟨L.gD t,0,none⟩) (M.aR L.n) (M.aR L.n))∧w'.cell? ⟨L.bS,0,none⟩=some (.int .i64 (L.n:Int))∧w'.cell? ⟨b6,1,none⟩=some (.int .i64 r.2.v)∧w'.there (L.gD t) vk 1)
  case first =>
   refine fQ (S:=(fun w'=>w'.cell? ⟨L.g,t*30,none⟩=some (.pointer (some ⟨L.bS,0,none⟩))∧w'.cell? ⟨L.g,t*30+14,none⟩=some (.slice (some ⟨L.gD t,0,none⟩) (M.aR L.n) (M.aR L.n))∧w'.cell? ⟨L.bS,0,none⟩=some (.int .i64 (L.n:Int))∧w'.cell? ⟨b6,0,none⟩=some (.int .i64 r.2.s)∧w'.cell? ⟨b6,1,none⟩=some (.int .i64 r.2.v)∧w'.there (L.gD t) (sk) 1∧w'.there (L.gD t) (vk) 1)) 18 rfl (by kernel_rfl) ?_ (fun hHeld=>?_)
   ·exact ⟨g0,g14,gs0,ga0,ga1,th1,th2⟩
   iterate 13 (refine tk 17 (by rfl) (by kernel_rfl) (by exact fun _ _ _ h=>h) (.inl ⟨by rfl,fun w hS=>by (try dsimp only at hS);go_simp;(try with_reducible rfl)⟩) (by assumption) ?_;try go_frame)
   iterate 2 (refine tk 18 (by rfl) (by kernel_rfl) (by exact fun _ _ _ h=>h) (.inl ⟨by rfl,fun w hS=>by (try dsimp only at hS);go_simp;(try with_reducible rfl)⟩) (by assumption) ?_;try go_frame)
   refine bK 13 (by rfl) (by kernel_rfl) (fun K hK=>?_)
   go_simp
   refine (rV L.n k _ yS hn hk).mono ?_
   rintro e w3 ⟨rfl,cH⟩
   rw [VB]
   go_wp2_with fail
   refine hK.out _ _ ?_ (fun hHeld=>?_)
   ·exact ⟨cell_later cH hHeld.1,cell_later cH hHeld.2.1,cell_later cH hHeld.2.2.1,cell_later cH hHeld.2.2.2.1,cell_later cH hHeld.2.2.2.2.1,aU cH hHeld.2.2.2.2.2.1,aU cH hHeld.2.2.2.2.2.2⟩
   clear hK K
   (try go_frame)
   iterate 1 (refine tk 17 (by rfl) (by kernel_rfl) (by exact fun _ _ _ h=>h) (.inl ⟨by rfl,fun w hS=>by (try dsimp only at hS);go_simp;(try with_reducible rfl)⟩) (by assumption) ?_;try go_frame)
   refine bK 17 (by rfl) (by kernel_rfl) (fun K hK=>?_)
   rw [if_pos (by rfl)]
   refine aP _ _ _ rfl (L.gD t) sk (.int .i64 r.2.s) rfl rfl rfl rfl hHeld.2.2.2.2.2.1 (by kernel_rfl) ?_
   refine hK.out _ _ ?_ (fun hHeld=>?_)
   ·exact ⟨aJ hHeld.1 (by first|exact .inr (by dsimp only;omega)|exact .inl (by assumption)|exact .inl (Ne.symm (by assumption))),aJ hHeld.2.1 (by first|exact .inr (by dsimp only;omega)|exact .inl (by assumption)|exact .inl (Ne.symm (by assumption))),aJ hHeld.2.2.1 (by first|exact .inr (by dsimp only;omega)|exact .inl (by assumption)|exact .inl (Ne.symm (by assumption))),aJ hHeld.2.2.2.1 (by first|exact .inr (by dsimp only;omega)|exact .inl (by assumption)|exact .inl (Ne.symm (by assumption))),aJ hHeld.2.2.2.2.1 (by first|exact .inr (by dsimp only;omega)|exact .inl (by assumption)|exact .inl (Ne.symm (by assumption))),bM hHeld.2.2.2.2.2.1 _ rfl _,bM hHeld.2.2.2.2.2.2 _ rfl _⟩
   clear hK K
   (try go_frame)
   refine wpAnyH_done (by kernel_rfl) ?_ _
   have hL3:=EY.out.next (aF.below EY.out.re (Below.bU cH))
   have hL4:=hL3.next (aF.of (hL3.re.fX t ht sk r.2.s) (Fr.set w3 (oV ht) _) rfl)
   have PN:=aA hL4
   clear hL3 hL4 cH
   (try go_wp2_with fail)
   go_meet
   case rel=>exact ⟨rfl,PN.out,hHeld.1,hHeld.2.1,hHeld.2.2.1,hHeld.2.2.2.2.1,hHeld.2.2.2.2.2.2⟩
  case rest =>
   obtain ⟨rfl,hL5,i0,i14,is0,ia1,ith⟩:=hcut
   have KP:=aA hL5
   clear hL5 g0 g14 gs0 ga0 ga1 th1 th2
   go_upto_region 4 with fail
   refine fQ (S:=(fun w'=>w'.cell? ⟨L.g,t*30,none⟩=some (.pointer (some ⟨L.bS,0,none⟩))∧w'.cell? ⟨L.g,t*30+14,none⟩=some (.slice (some ⟨L.gD t,0,none⟩) (M.aR L.n) (M.aR L.n))∧w'.cell? ⟨L.bS,0,none⟩=some (.int .i64 (L.n:Int))∧w'.cell? ⟨b6,1,none⟩=some (.int .i64 r.2.v)∧w'.there (L.gD t) (vk) 1)) 18 rfl (by kernel_rfl) ?_ (fun hHeld=>?_)
   ·exact ⟨i0,i14,is0,ia1,ith⟩
   iterate 13 (refine tk 17 (by rfl) (by kernel_rfl) (by exact fun _ _ _ h=>h) (.inl ⟨by rfl,fun w hS=>by (try dsimp only at hS);go_simp;(try with_reducible rfl)⟩) (by assumption) ?_;try go_frame)
   iterate 2 (refine tk 18 (by rfl) (by kernel_rfl) (by exact fun _ _ _ h=>h) (.inl ⟨by rfl,fun w hS=>by (try dsimp only at hS);go_simp;(try with_reducible rfl)⟩) (by assumption) ?_;try go_frame)
   refine bK 13 (by rfl) (by kernel_rfl) (fun K hK=>?_)
   go_simp
   refine (pR L.n k _ yS hn hk).mono ?_
   rintro e w7 ⟨rfl,AB⟩
   rw [VC]
   go_wp2_with fail
   refine hK.out _ _ ?_ (fun hHeld=>?_)
   ·exact ⟨cell_later AB hHeld.1,cell_later AB hHeld.2.1,cell_later AB hHeld.2.2.1,cell_later AB hHeld.2.2.2.1,aU AB hHeld.2.2.2.2⟩
   clear hK K
   (try go_frame)
   iterate 1 (refine tk 17 (by rfl) (by kernel_rfl) (by exact fun _ _ _ h=>h) (.inl ⟨by rfl,fun w hS=>by (try dsimp only at hS);go_simp;(try with_reducible rfl)⟩) (by assumption) ?_;try go_frame)
   refine bK 17 (by rfl) (by kernel_rfl) (fun K hK=>?_)
   rw [if_pos (by rfl)]
   refine aP _ _ _ rfl (L.gD t) vk (.int .i64 r.2.v) rfl rfl rfl rfl hHeld.2.2.2.2 (by kernel_rfl) ?_
   refine hK.out _ _ ?_ (fun hHeld=>?_)
   ·exact ⟨aJ hHeld.1 (by first|exact .inr (by dsimp only;omega)|exact .inl (by assumption)|exact .inl (Ne.symm (by assumption))),aJ hHeld.2.1 (by first|exact .inr (by dsimp only;omega)|exact .inl (by assumption)|exact .inl (Ne.symm (by assumption))),aJ hHeld.2.2.1 (by first|exact .inr (by dsimp only;omega)|exact .inl (by assumption)|exact .inl (Ne.symm (by assumption))),aJ hHeld.2.2.2.1 (by first|exact .inr (by dsimp only;omega)|exact .inl (by assumption)|exact .inl (Ne.symm (by assumption))),bM hHeld.2.2.2.2 _ rfl _⟩
   clear hK K
   (try go_frame)
   refine wpAnyH_done (by kernel_rfl) ?_ _
   have hL7:=KP.out.next (aF.below KP.out.re (Below.bU AB))
   have hL8:=hL7.next (aF.of (hL7.re.fX t ht vk r.2.v) (Fr.set w7 (oV ht) _) rfl)
   have HL8:=aA hL8
   clear hL7 hL8 AB hHeld
   go_wp2
   refine bodyPost_end (v:=.tuple #[]) (by simp [results,Tryz.results230,go_sem]) rfl ⟨rfl,HL8.out.cast ?_⟩
   simp only [bR,aC]
   unfold aS.apply
   rw [HC.out.1]
   simp only [←lX.out,VB,VC]
end Go.Proofs.YtefjhnhdagolhabGreat
