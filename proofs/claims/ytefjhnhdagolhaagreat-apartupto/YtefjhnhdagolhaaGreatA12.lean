import Derived.Test.YtefjhnhdagolhaaGreatA09
import Derived.Test.YtefjhnhdagolhaaGreatA10
import Derived.Test.YtefjhnhdagolhaaGreatA11
import Derived.Test.YtefjhnhdagolhaaGreatA02
import Derived.Test.YtefjhnhdagolhaaGreatA01
set_option maxHeartbeats 1000000
set_option maxRecDepth 20000
namespace Go.Proofs.YtefjhnhdagolhaaGreat
open Tryz
open int list tree
open Go.RowKit
attribute [local go_sem ↓] Go.wp_at_zero Go.wp_at_succ
theorem int.jY (bS n:Nat) (most:Int) (gD gG:Nat→Nat):∀ (k t j:Nat),t<k→j<28→(dK bS n most gD gG k)[t*28+j]?=(cE bS (t:Int) most (gD t) (mW n) (gG t) (tw n))[j]?
 |0,t,j,h,_=>absurd h (by omega)
 |k+1,t,j,h,hj=>by
  have hl:∀ k,(dK bS n most gD gG k).length=k*28:=fun k=>by
   unfold dK
   induction k with
   |zero=>rfl
   |succ k ih=>rw [pR,List.flatMap_append,eD,ih];simp [kQ];omega
  have hs:dK bS n most gD gG (k+1)=dK bS n most gD gG k++cE bS (k:Int) most (gD k) (mW n) (gG k) (tw n):=by
   unfold dK;rw [pR,List.flatMap_append];simp
  rw [hs]
  by_cases e:t=k
  ·subst e
   rw [vI (by rw [hl];omega),hl];congr 1;omega
  ·have q:t+1≤k:=by omega
   have q2:=Nat.mul_le_mul_right 28 q;rw [pP (by rw [hl];omega)];exact jY bS n most gD gG k t j (by omega) hj
theorem list.jY (bS n:Nat) (most:Int) (gD gG:Nat→Nat):∀ (k t j:Nat),t<k→j<28→(dK bS n most gD gG k)[t*28+j]?=(cE bS (t:Int) most (gD t) (mW n) (gG t) (tw n))[j]?
 |0,t,j,h,_=>absurd h (by omega)
 |k+1,t,j,h,hj=>by
  have hl:∀ k,(dK bS n most gD gG k).length=k*28:=fun k=>by
   unfold dK
   induction k with
   |zero=>rfl
   |succ k ih=>rw [pR,List.flatMap_append,eD,ih];simp [kQ];omega
  have hs:dK bS n most gD gG (k+1)=dK bS n most gD gG k++cE bS (k:Int) most (gD k) (mW n) (gG k) (tw n):=by
   unfold dK;rw [pR,List.flatMap_append];simp
  rw [hs]
  by_cases e:t=k
  ·subst e
   rw [vI (by rw [hl];omega),hl];congr 1;omega
  ·have q:t+1≤k:=by omega
   have q2:=Nat.mul_le_mul_right 28 q;rw [pP (by rw [hl];omega)];exact jY bS n most gD gG k t j (by omega) hj
theorem tree.jY (bS n:Nat) (most:Int) (gD gG:Nat→Nat):∀ (k t j:Nat),t<k→j<28→(dK bS n most gD gG k)[t*28+j]?=(cE bS (t:Int) most (gD t) (mW n) (gG t) (tw n))[j]?
 |0,t,j,h,_=>absurd h (by omega)
 |k+1,t,j,h,hj=>by
  have hl:∀ k,(dK bS n most gD gG k).length=k*28:=fun k=>by
   unfold dK
   induction k with
   |zero=>rfl
   |succ k ih=>rw [pR,List.flatMap_append,eD,ih];simp [kQ];omega
  have hs:dK bS n most gD gG (k+1)=dK bS n most gD gG k++cE bS (k:Int) most (gD k) (mW n) (gG k) (tw n):=by
   unfold dK;rw [pR,List.flatMap_append];simp
  rw [hs]
  by_cases e:t=k
  ·subst e
   rw [vI (by rw [hl];omega),hl];congr 1;omega
  ·have q:t+1≤k:=by omega
   have q2:=Nat.mul_le_mul_right 28 q;rw [pP (by rw [hl];omega)];exact jY bS n most gD gG k t j (by omega) hj
theorem row.jY (bS n:Nat) (most:Int) (gD gG:Nat→Nat):∀ (k t j:Nat),t<k→j<30→(dK bS n most gD gG k)[t*30+j]?=(cE bS (t:Int) most (gD t) (mW n) (gG t) (tw n))[j]?
 |0,t,j,h,_=>absurd h (by omega)
 |k+1,t,j,h,hj=>by
  have hl:∀ k,(dK bS n most gD gG k).length=k*30:=fun k=>by
   unfold dK
   induction k with
   |zero=>rfl
   |succ k ih=>rw [pR,List.flatMap_append,eD,ih];simp [kQ];omega
  have hs:dK bS n most gD gG (k+1)=dK bS n most gD gG k++cE bS (k:Int) most (gD k) (mW n) (gG k) (tw n):=by
   unfold dK;rw [pR,List.flatMap_append];simp
  rw [hs]
  by_cases e:t=k
  ·subst e
   rw [vI (by rw [hl];omega),hl];congr 1;omega
  ·have q:t+1≤k:=by omega
   have q2:=Nat.mul_le_mul_right 30 q;rw [pP (by rw [hl];omega)];exact jY bS n most gD gG k t j (by omega) hj
theorem int.YL:(prog.info? 223).map (fun i=>(i.zero,i.size,i.bytes))=some (some (.pointer none),1,8):=by kernel_rfl
end Go.Proofs.YtefjhnhdagolhaaGreat
namespace Go.Proofs.YtefjhnhdagolhaaGreat
open Tryz
namespace int
end int
namespace list
end list
namespace tree
end tree
namespace row
end row
open int list tree
open Go.RowKit
open M (aM aC aD Op eX bU bD tw bC)
structure int.Lt where
 n:Nat
 cap:Nat
 oT:TypeId
 ov:Value
 bE:Nat
 bS:Nat
 cS:Nat
 cQ:Nat
 bP:Nat
 bW:Nat→Nat
 g:Nat
 gc:Nat
 gD:Nat→Nat
 gG:Nat→Nat
abbrev lA (SR:Type→Type):={σ:Type}→SR σ→int.Lt→(Nat→Prop)→M.bD σ→World→Prop
abbrev BX (SR:Type→Type):={σ:Type}→SR σ→int.Lt→(Nat→Prop)→World→M.bD σ→World→Prop
abbrev RF (SR:Type→Type):={σ:Type}→SR σ→M.Plain σ→int.Lt→Nat→Value→Prop
def int.Lt.own (L:Lt) (k:Nat):Prop:=k=L.bS∨k=L.cS∨k=L.cQ∨k=L.bP∨(∃ r,r<2*L.n+1∧k=L.bW r)∨k=L.g∨∃ t,t<L.n∧(k=L.gD t∨k=L.gG t)
structure int.Lt.Ok (L:Lt):Prop where
 n1:1≤L.n
 n64:L.n≤64
 RK:L.cap≤64
 gn:L.n≤L.gc
 tw:∀ r,r<2*L.n+1→L.cS≠L.bW r
 ww:∀ r s,r<2*L.n+1→s<2*L.n+1→L.bW r=L.bW s→r=s
 dg:∀ t u,t<L.n→u<L.n→L.gD t≠L.gG u
 dd:∀ t u,t<L.n→u<L.n→L.gD t=L.gD u→t=u
 gg:∀ t u,t<L.n→u<L.n→L.gG t=L.gG u→t=u
structure int.SR (σ:Type) where
 sz:σ→Nat
 rep:(Nat→Prop)→World→σ→List Value→Prop
 len:∀ {I w s c},rep I w s c→c.length=1
 shape:∀ {I w s c},rep I w s c→∀ v∈c,∃ z,v=(Value.int .i64) z
 stay:∀ {I I':Nat→Prop} {w w':World} {s c},(∀ k,I k→k<w.heap.size→I' k∧w'.heap[k]?=w.heap[k]?)→rep I w s c→rep I' w' s c
structure list.SR (σ:Type) where
 sz:σ→Nat
 rep:(Nat→Prop)→World→σ→List Value→Prop
 len:∀ {I w s c},rep I w s c→c.length=1
 shape:∀ {I w s c},rep I w s c→∀ v∈c,∃ z,v=(Value.pointer) z
 stay:∀ {I I':Nat→Prop} {w w':World} {s c},(∀ k,I k→k<w.heap.size→I' k∧w'.heap[k]?=w.heap[k]?)→rep I w s c→rep I' w' s c
structure tree.SR (σ:Type) where
 sz:σ→Nat
 rep:(Nat→Prop)→World→σ→List Value→Prop
 len:∀ {I w s c},rep I w s c→c.length=1
 shape:∀ {I w s c},rep I w s c→∀ v∈c,∃ z,v=(Value.pointer) z
 stay:∀ {I I':Nat→Prop} {w w':World} {s c},(∀ k,I k→k<w.heap.size→I' k∧w'.heap[k]?=w.heap[k]?)→rep I w s c→rep I' w' s c
structure row.SR (σ:Type) where
 sz:σ→Nat
 rep:(Nat→Prop)→World→σ→List Value→Prop
 len:∀ {I w s c},rep I w s c→c.length=2
 shape:∀ {I w s c},rep I w s c→∀ v∈c,∃ z,v=(Value.pointer) z
 stay:∀ {I I':Nat→Prop} {w w':World} {s c},(∀ k,I k→k<w.heap.size→I' k∧w'.heap[k]?=w.heap[k]?)→rep I w s c→rep I' w' s c
def int.dX (I:Nat→Prop) (w:World):List (Nat×List Nat)→Nat→Prop
 |[],b=>I b∧Row w b 306 [.int .i64 0,.slice none 0 0,.pointer none]
 |(q,p)::bs,b=>∃ v b',I b∧Row w b 306 [.int .i64 (q:Int),v,.pointer (some ⟨b',0,none⟩)]∧(∃ gp,I gp∧Sl w v (ints (p.map Int.ofNat))∧∃ l c,v = .slice (some ⟨gp,0,none⟩) l c)∧dX I w bs b'
def int.bH {σ:Type} (R:SR σ) (I:Nat→Prop) (w:World) (v:eX σ) (c:List Value):Prop:=∃ sc b,c=sc++[.pointer (some ⟨b,0,none⟩)]∧R.rep I w v.st sc∧dX I w v.bs.reverse b
def list.bH {σ:Type} (R:SR σ) (I:Nat→Prop) (w:World) (v:eX σ) (c:List Value):Prop:=∃ sc b,c=sc++[.pointer (some ⟨b,0,none⟩)]∧R.rep I w v.st sc∧dX I w v.bs.reverse b
def tree.bH {σ:Type} (R:SR σ) (I:Nat→Prop) (w:World) (v:eX σ) (c:List Value):Prop:=∃ sc b,c=sc++[.pointer (some ⟨b,0,none⟩)]∧R.rep I w v.st sc∧dX I w v.bs.reverse b
def row.bH {σ:Type} (R:SR σ) (I:Nat→Prop) (w:World) (v:eX σ) (c:List Value):Prop:=∃ sc b,c=sc++[.pointer (some ⟨b,0,none⟩)]∧R.rep I w v.st sc∧dX I w v.bs.reverse b
theorem int.SR.one {σ:Type} (R:SR σ) {I:Nat→Prop} {w:World} {s:σ} {c:List Value} (h:R.rep I w s c):∀ v∈c,v.oneCell'=true:=by
 intro v hv;obtain ⟨z,rfl⟩:=R.shape h v hv;rfl
theorem list.SR.one {σ:Type} (R:SR σ) {I:Nat→Prop} {w:World} {s:σ} {c:List Value} (h:R.rep I w s c):∀ v∈c,v.oneCell'=true:=by
 intro v hv;obtain ⟨z,rfl⟩:=R.shape h v hv;rfl
theorem tree.SR.one {σ:Type} (R:SR σ) {I:Nat→Prop} {w:World} {s:σ} {c:List Value} (h:R.rep I w s c):∀ v∈c,v.oneCell'=true:=by
 intro v hv;obtain ⟨z,rfl⟩:=R.shape h v hv;rfl
theorem row.SR.one {σ:Type} (R:SR σ) {I:Nat→Prop} {w:World} {s:σ} {c:List Value} (h:R.rep I w s c):∀ v∈c,v.oneCell'=true:=by
 intro v hv;obtain ⟨z,rfl⟩:=R.shape h v hv;rfl
theorem int.bH.one {σ:Type} (R:SR σ) {I:Nat→Prop} {w:World} {v:eX σ} {c:List Value} (h:bH R I w v c):∀ u∈c,u.oneCell'=true:=by
 obtain ⟨sc,b,rfl,h1,-⟩:=h;intro u hu
 rcases tB.1 hu with hu|hu
 ·exact SR.one R h1 u hu
 ·rw [oP.1 hu];rfl
theorem list.bH.one {σ:Type} (R:SR σ) {I:Nat→Prop} {w:World} {v:eX σ} {c:List Value} (h:bH R I w v c):∀ u∈c,u.oneCell'=true:=by
 obtain ⟨sc,b,rfl,h1,-⟩:=h;intro u hu
 rcases tB.1 hu with hu|hu
 ·exact SR.one R h1 u hu
 ·rw [oP.1 hu];rfl
theorem tree.bH.one {σ:Type} (R:SR σ) {I:Nat→Prop} {w:World} {v:eX σ} {c:List Value} (h:bH R I w v c):∀ u∈c,u.oneCell'=true:=by
 obtain ⟨sc,b,rfl,h1,-⟩:=h;intro u hu
 rcases tB.1 hu with hu|hu
 ·exact SR.one R h1 u hu
 ·rw [oP.1 hu];rfl
theorem row.bH.one {σ:Type} (R:SR σ) {I:Nat→Prop} {w:World} {v:eX σ} {c:List Value} (h:bH R I w v c):∀ u∈c,u.oneCell'=true:=by
 obtain ⟨sc,b,rfl,h1,-⟩:=h;intro u hu
 rcases tB.1 hu with hu|hu
 ·exact SR.one R h1 u hu
 ·rw [oP.1 hu];rfl
theorem int.bH.len {σ:Type} (R:SR σ) {I:Nat→Prop} {w:World} {v:eX σ} {c:List Value} (h:bH R I w v c):c.length=1+1:=by
 obtain ⟨sc,b,rfl,h1,-⟩:=h;simp [R.len h1]
theorem list.bH.len {σ:Type} (R:SR σ) {I:Nat→Prop} {w:World} {v:eX σ} {c:List Value} (h:bH R I w v c):c.length=1+1:=by
 obtain ⟨sc,b,rfl,h1,-⟩:=h;simp [R.len h1]
theorem tree.bH.len {σ:Type} (R:SR σ) {I:Nat→Prop} {w:World} {v:eX σ} {c:List Value} (h:bH R I w v c):c.length=1+1:=by
 obtain ⟨sc,b,rfl,h1,-⟩:=h;simp [R.len h1]
theorem row.bH.len {σ:Type} (R:SR σ) {I:Nat→Prop} {w:World} {v:eX σ} {c:List Value} (h:bH R I w v c):c.length=2+1:=by
 obtain ⟨sc,b,rfl,h1,-⟩:=h;simp [R.len h1]
def int.nB {σ:Type} (R:SR σ) (I:Nat→Prop) (w:World) (v:Option (eX σ)) (c:List Value):Prop:=c.length=1+1∧∀ u,v=some u→bH R I w u c
def list.nB {σ:Type} (R:SR σ) (I:Nat→Prop) (w:World) (v:Option (eX σ)) (c:List Value):Prop:=c.length=1+1∧∀ u,v=some u→bH R I w u c
def tree.nB {σ:Type} (R:SR σ) (I:Nat→Prop) (w:World) (v:Option (eX σ)) (c:List Value):Prop:=c.length=1+1∧∀ u,v=some u→bH R I w u c
def row.nB {σ:Type} (R:SR σ) (I:Nat→Prop) (w:World) (v:Option (eX σ)) (c:List Value):Prop:=c.length=2+1∧∀ u,v=some u→bH R I w u c
def int.kV {σ:Type} (R:SR σ) (I:Nat→Prop) (w:World) (x:Option (eX σ×eX σ)) (p:Option Nat):Prop :=
 ∀ v f,x=some (v,f)→∃ b cv cf,p=some b∧I b∧Row w b 227 (cv++cf)∧bH R I w v cv∧bH R I w f cf
def list.kV {σ:Type} (R:SR σ) (I:Nat→Prop) (w:World) (x:Option (eX σ×eX σ)) (p:Option Nat):Prop :=
 ∀ v f,x=some (v,f)→∃ b cv cf,p=some b∧I b∧Row w b 241 (cv++cf)∧bH R I w v cv∧bH R I w f cf
def tree.kV {σ:Type} (R:SR σ) (I:Nat→Prop) (w:World) (x:Option (eX σ×eX σ)) (p:Option Nat):Prop :=
 ∀ v f,x=some (v,f)→∃ b cv cf,p=some b∧I b∧Row w b 269 (cv++cf)∧bH R I w v cv∧bH R I w f cf
def row.kV {σ:Type} (R:SR σ) (I:Nat→Prop) (w:World) (x:Option (eX σ×eX σ)) (p:Option Nat):Prop :=
 ∀ v f,x=some (v,f)→∃ b cv cf,p=some b∧I b∧Row w b 255 (cv++cf)∧bH R I w v cv∧bH R I w f cf
def int.EH (I:Nat→Prop) (w:World) (p:List Nat) (v:Value):Prop:=(v = .slice none 0 0∧p=[])∨∃ gp l c,I gp∧v = .slice (some ⟨gp,0,none⟩) l c∧Sl w v (ints (p.map Int.ofNat))
def int.cN {σ:Type} (L:Lt) (t:Nat) (e:bU σ) (cv cf:List Value) (pv:Value):List Value :=
 [.pointer (some ⟨L.bS,0,none⟩),.int .i64 (t:Int),.int .i64 (L.cap:Int),.int .i64 (e.phase:Int),.int .i64 (e.past:Int),.int .i64 e.op.c,.int .i64 e.op.a,.int .i64 e.op.b,.bool e.fZ,.int .i64 (e.aG:Int),.bool e.again,.int .i64 (e.spare:Int),.int .i64 (e.kept:Int),.int .i64 ((e.stamp:Int)*129+(e.cG:Int)),
  .slice (some ⟨L.gD t,0,none⟩) (bC L.n) (bC L.n)]++cv++cf++[.slice (some ⟨L.gG t,0,none⟩) (M.tw L.n) (M.tw L.n),pv,.int .i64 (e.heard 0),.int .i64 (e.heard 1),.int .i64 (e.heard 2),.int .i64 (e.found:Int),.int .i64 e.VI,.int .i64 e.val,.bool e.ended]
structure int.iU {σ:Type} (R:SR σ) (L:Lt) (I:Nat→Prop) (w:World) (t:Nat) (e:bU σ) (f:Nat→Value) (cv cf:List Value) (pv:Value):Prop where
 like:bw f (cN L t e cv cf pv)
 now:nB R I w e.now cv
 fD:nB R I w e.fD cf
 aK:EH I w e.aK pv
structure list.iU {σ:Type} (R:SR σ) (L:Lt) (I:Nat→Prop) (w:World) (t:Nat) (e:bU σ) (f:Nat→Value) (cv cf:List Value) (pv:Value):Prop where
 like:bw f (cN L t e cv cf pv)
 now:nB R I w e.now cv
 fD:nB R I w e.fD cf
 aK:EH I w e.aK pv
structure tree.iU {σ:Type} (R:SR σ) (L:Lt) (I:Nat→Prop) (w:World) (t:Nat) (e:bU σ) (f:Nat→Value) (cv cf:List Value) (pv:Value):Prop where
 like:bw f (cN L t e cv cf pv)
 now:nB R I w e.now cv
 fD:nB R I w e.fD cf
 aK:EH I w e.aK pv
structure row.iU {σ:Type} (R:SR σ) (L:Lt) (I:Nat→Prop) (w:World) (t:Nat) (e:bU σ) (f:Nat→Value) (cv cf:List Value) (pv:Value):Prop where
 like:bw f (cN L t e cv cf pv)
 now:nB R I w e.now cv
 fD:nB R I w e.fD cf
 aK:EH I w e.aK pv
structure int.RE {σ:Type} (R:SR σ) (L:Lt) (S:Nat→Prop) (E:bD σ) (w:World):Prop where
 ok:L.Ok
 qQ:Row w L.bE 219 [.pointer (some ⟨L.bS,0,none⟩),.slice (some ⟨L.g,0,none⟩) L.n L.gc,.int .i64 (L.cap:Int)]
 vL:S L.bE∧¬L.own L.bE
 sh:Row w L.bS 296 [.int .i64 (L.n:Int),.iface L.oT L.ov,.slice (some ⟨L.cS,0,none⟩) (M.tw L.n) (M.tw L.n),.slice (some ⟨L.cQ,0,none⟩) L.n L.n,.slice (some ⟨L.bP,0,none⟩) (2*L.n+1) (2*L.n+1),.int .i64 ((E.gB:Int)*129+(E.prec:Int))]
 tg:Fn w L.cS 387 (M.tw L.n) (fun i=>.int .i64 (E.dS i))
 an:JC w L.cQ 388 L.n 3 (fun t i=>.int .i64 (E.gY t i))
 po:∃ sp:Nat→Option Nat,JC w L.bP 304 (2*L.n+1) 2 (fun r j=>if j=0 then .slice (some ⟨L.bW r,0,none⟩) (bC L.n) (bC L.n) else .pointer ((sp r).map fun b=>⟨b,0,none⟩))∧∀ r,r<2*L.n+1→kV R (fun k=>S k∧¬L.own k) w (E.lI r) (sp r)
 rw:∀ r,r<2*L.n+1→Fn w (L.bW r) 387 (bC L.n) (fun i=>.int .i64 (E.rw r i))
 th:∃ T,JC w L.g 231 L.gc 28 T∧∀ t,t<L.n→∃ cv cf pv,iU R L (fun k=>S k∧¬L.own k) w t (E.th t) (T t) cv cf pv
 gd:∀ t,t<L.n→Fn w (L.gD t) 3 (bC L.n) (fun i=>.int .i64 ((E.th t).dw i))
 gg:∀ t,t<L.n→Fn w (L.gG t) 3 (M.tw L.n) (fun i=>.int .i64 ((E.th t).tg i))
 ow:∀ k,L.own k→S k
 lt:∀ k,S k→k<w.heap.size
structure list.RE {σ:Type} (R:SR σ) (L:Lt) (S:Nat→Prop) (E:bD σ) (w:World):Prop where
 ok:L.Ok
 qQ:Row w L.bE 237 [.pointer (some ⟨L.bS,0,none⟩),.slice (some ⟨L.g,0,none⟩) L.n L.gc,.int .i64 (L.cap:Int)]
 vL:S L.bE∧¬L.own L.bE
 sh:Row w L.bS 310 [.int .i64 (L.n:Int),.iface L.oT L.ov,.slice (some ⟨L.cS,0,none⟩) (M.tw L.n) (M.tw L.n),.slice (some ⟨L.cQ,0,none⟩) L.n L.n,.slice (some ⟨L.bP,0,none⟩) (2*L.n+1) (2*L.n+1),.int .i64 ((E.gB:Int)*129+(E.prec:Int))]
 tg:Fn w L.cS 387 (M.tw L.n) (fun i=>.int .i64 (E.dS i))
 an:JC w L.cQ 388 L.n 3 (fun t i=>.int .i64 (E.gY t i))
 po:∃ sp:Nat→Option Nat,JC w L.bP 318 (2*L.n+1) 2 (fun r j=>if j=0 then .slice (some ⟨L.bW r,0,none⟩) (bC L.n) (bC L.n) else .pointer ((sp r).map fun b=>⟨b,0,none⟩))∧∀ r,r<2*L.n+1→kV R (fun k=>S k∧¬L.own k) w (E.lI r) (sp r)
 rw:∀ r,r<2*L.n+1→Fn w (L.bW r) 387 (bC L.n) (fun i=>.int .i64 (E.rw r i))
 th:∃ T,JC w L.g 245 L.gc 28 T∧∀ t,t<L.n→∃ cv cf pv,iU R L (fun k=>S k∧¬L.own k) w t (E.th t) (T t) cv cf pv
 gd:∀ t,t<L.n→Fn w (L.gD t) 3 (bC L.n) (fun i=>.int .i64 ((E.th t).dw i))
 gg:∀ t,t<L.n→Fn w (L.gG t) 3 (M.tw L.n) (fun i=>.int .i64 ((E.th t).tg i))
 ow:∀ k,L.own k→S k
 lt:∀ k,S k→k<w.heap.size
structure tree.RE {σ:Type} (R:SR σ) (L:Lt) (S:Nat→Prop) (E:bD σ) (w:World):Prop where
 ok:L.Ok
 qQ:Row w L.bE 265 [.pointer (some ⟨L.bS,0,none⟩),.slice (some ⟨L.g,0,none⟩) L.n L.gc,.int .i64 (L.cap:Int)]
 vL:S L.bE∧¬L.own L.bE
 sh:Row w L.bS 336 [.int .i64 (L.n:Int),.iface L.oT L.ov,.slice (some ⟨L.cS,0,none⟩) (M.tw L.n) (M.tw L.n),.slice (some ⟨L.cQ,0,none⟩) L.n L.n,.slice (some ⟨L.bP,0,none⟩) (2*L.n+1) (2*L.n+1),.int .i64 ((E.gB:Int)*129+(E.prec:Int))]
 tg:Fn w L.cS 387 (M.tw L.n) (fun i=>.int .i64 (E.dS i))
 an:JC w L.cQ 388 L.n 3 (fun t i=>.int .i64 (E.gY t i))
 po:∃ sp:Nat→Option Nat,JC w L.bP 344 (2*L.n+1) 2 (fun r j=>if j=0 then .slice (some ⟨L.bW r,0,none⟩) (bC L.n) (bC L.n) else .pointer ((sp r).map fun b=>⟨b,0,none⟩))∧∀ r,r<2*L.n+1→kV R (fun k=>S k∧¬L.own k) w (E.lI r) (sp r)
 rw:∀ r,r<2*L.n+1→Fn w (L.bW r) 387 (bC L.n) (fun i=>.int .i64 (E.rw r i))
 th:∃ T,JC w L.g 273 L.gc 28 T∧∀ t,t<L.n→∃ cv cf pv,iU R L (fun k=>S k∧¬L.own k) w t (E.th t) (T t) cv cf pv
 gd:∀ t,t<L.n→Fn w (L.gD t) 3 (bC L.n) (fun i=>.int .i64 ((E.th t).dw i))
 gg:∀ t,t<L.n→Fn w (L.gG t) 3 (M.tw L.n) (fun i=>.int .i64 ((E.th t).tg i))
 ow:∀ k,L.own k→S k
 lt:∀ k,S k→k<w.heap.size
structure row.RE {σ:Type} (R:SR σ) (L:Lt) (S:Nat→Prop) (E:bD σ) (w:World):Prop where
 ok:L.Ok
 qQ:Row w L.bE 251 [.pointer (some ⟨L.bS,0,none⟩),.slice (some ⟨L.g,0,none⟩) L.n L.gc,.int .i64 (L.cap:Int)]
 vL:S L.bE∧¬L.own L.bE
 sh:Row w L.bS 323 [.int .i64 (L.n:Int),.iface L.oT L.ov,.slice (some ⟨L.cS,0,none⟩) (M.tw L.n) (M.tw L.n),.slice (some ⟨L.cQ,0,none⟩) L.n L.n,.slice (some ⟨L.bP,0,none⟩) (2*L.n+1) (2*L.n+1),.int .i64 ((E.gB:Int)*129+(E.prec:Int))]
 tg:Fn w L.cS 387 (M.tw L.n) (fun i=>.int .i64 (E.dS i))
 an:JC w L.cQ 388 L.n 3 (fun t i=>.int .i64 (E.gY t i))
 po:∃ sp:Nat→Option Nat,JC w L.bP 331 (2*L.n+1) 2 (fun r j=>if j=0 then .slice (some ⟨L.bW r,0,none⟩) (bC L.n) (bC L.n) else .pointer ((sp r).map fun b=>⟨b,0,none⟩))∧∀ r,r<2*L.n+1→kV R (fun k=>S k∧¬L.own k) w (E.lI r) (sp r)
 rw:∀ r,r<2*L.n+1→Fn w (L.bW r) 387 (bC L.n) (fun i=>.int .i64 (E.rw r i))
 th:∃ T,JC w L.g 259 L.gc 30 T∧∀ t,t<L.n→∃ cv cf pv,iU R L (fun k=>S k∧¬L.own k) w t (E.th t) (T t) cv cf pv
 gd:∀ t,t<L.n→Fn w (L.gD t) 3 (bC L.n) (fun i=>.int .i64 ((E.th t).dw i))
 gg:∀ t,t<L.n→Fn w (L.gG t) 3 (M.tw L.n) (fun i=>.int .i64 ((E.th t).tg i))
 ow:∀ k,L.own k→S k
 lt:∀ k,S k→k<w.heap.size
theorem int.Sl.block {w w':World} {v:Value} {xs:List Value} {gp l c:Nat} (hv:v = .slice (some ⟨gp,0,none⟩) l c) (h:Sl w v xs) (e:w'.heap[gp]?=w.heap[gp]?):Sl w' v xs:=by
 obtain ⟨a,cap,aq,h1,h2,h3⟩:=h;refine ⟨a,cap,aq,h1,h2,?_⟩
 rcases h3 with h3|⟨g,off,ha,h3⟩
 ·exact .inl h3
 ·refine .inr ⟨g,off,ha,fun j x hj=>?_⟩
  have:g=gp:=by
   rw [hv] at aq;injection aq with q1
   rw [ha] at q1;injection q1 with q2
   injection q2 with q3
   exact q3.symm
  subst this;rw [World.cell?_of_block (w:=w) (a:=⟨g,off+j,none⟩) e];exact h3 j x hj
theorem int.Sl.lt {w:World} {v:Value} {xs:List Value} {gp l c:Nat} (hv:v = .slice (some ⟨gp,0,none⟩) l c) (h:Sl w v xs) (hx:xs≠[]):gp<w.heap.size:=by
 obtain ⟨a,cap,aq,h1,h2,h3⟩:=h
 rcases h3 with h3|⟨g,off,ha,h3⟩
 ·exact absurd h3 hx
 ·have:g=gp:=by
   rw [hv] at aq;injection aq with q1
   rw [ha] at q1;injection q1 with q2
   injection q2 with q3
   exact q3.symm
  subst this;obtain ⟨x,hx0⟩:∃ x,xs[0]?=some x:=by cases xs with|nil=>exact absurd rfl hx|cons x r=>exact ⟨x,rfl⟩
  exact mX w _ (h3 0 x hx0)
theorem int.Sl.stay {w w':World} {v:Value} {xs:List Value} {gp l c:Nat} (hv:v = .slice (some ⟨gp,0,none⟩) l c) (h:Sl w v xs) (e:gp<w.heap.size→w'.heap[gp]?=w.heap[gp]?):Sl w' v xs:=by
 by_cases hx:xs=[]
 ·obtain ⟨a,cap,aq,h1,h2,h3⟩:=h
  exact ⟨a,cap,aq,h1,h2,.inl hx⟩
 ·exact Sl.block hv h (e (Sl.lt hv h hx))
theorem int.dX.stay {I I':Nat→Prop} {w w':World} (hst:∀ k,I k→k<w.heap.size→I' k∧w'.heap[k]?=w.heap[k]?) (hI:∀ k,I k→k<w.heap.size):∀ (bs:List (Nat×List Nat)) (b:Nat),dX I w bs b→dX I' w' bs b
 |[],b,h=>⟨(hst b h.1 h.2.lt).1,h.2.of_block (hst b h.1 h.2.lt).2⟩
 |(q,p)::bs,b,h=>by
  obtain ⟨v,b',h1,h2,⟨gp,g1,g2,l,c,g3⟩,h4⟩:=h;exact ⟨v,b',(hst b h1 h2.lt).1,h2.of_block (hst b h1 h2.lt).2,⟨gp,(hst gp g1 (hI gp g1)).1,Sl.stay g3 g2 (fun q=>(hst gp g1 q).2),l,c,g3⟩,dX.stay hst hI bs b' h4⟩
theorem list.dX.stay {I I':Nat→Prop} {w w':World} (hst:∀ k,I k→k<w.heap.size→I' k∧w'.heap[k]?=w.heap[k]?) (hI:∀ k,I k→k<w.heap.size):∀ (bs:List (Nat×List Nat)) (b:Nat),dX I w bs b→dX I' w' bs b
 |[],b,h=>⟨(hst b h.1 h.2.lt).1,h.2.of_block (hst b h.1 h.2.lt).2⟩
 |(q,p)::bs,b,h=>by
  obtain ⟨v,b',h1,h2,⟨gp,g1,g2,l,c,g3⟩,h4⟩:=h;exact ⟨v,b',(hst b h1 h2.lt).1,h2.of_block (hst b h1 h2.lt).2,⟨gp,(hst gp g1 (hI gp g1)).1,Sl.stay g3 g2 (fun q=>(hst gp g1 q).2),l,c,g3⟩,dX.stay hst hI bs b' h4⟩
theorem tree.dX.stay {I I':Nat→Prop} {w w':World} (hst:∀ k,I k→k<w.heap.size→I' k∧w'.heap[k]?=w.heap[k]?) (hI:∀ k,I k→k<w.heap.size):∀ (bs:List (Nat×List Nat)) (b:Nat),dX I w bs b→dX I' w' bs b
 |[],b,h=>⟨(hst b h.1 h.2.lt).1,h.2.of_block (hst b h.1 h.2.lt).2⟩
 |(q,p)::bs,b,h=>by
  obtain ⟨v,b',h1,h2,⟨gp,g1,g2,l,c,g3⟩,h4⟩:=h;exact ⟨v,b',(hst b h1 h2.lt).1,h2.of_block (hst b h1 h2.lt).2,⟨gp,(hst gp g1 (hI gp g1)).1,Sl.stay g3 g2 (fun q=>(hst gp g1 q).2),l,c,g3⟩,dX.stay hst hI bs b' h4⟩
theorem row.dX.stay {I I':Nat→Prop} {w w':World} (hst:∀ k,I k→k<w.heap.size→I' k∧w'.heap[k]?=w.heap[k]?) (hI:∀ k,I k→k<w.heap.size):∀ (bs:List (Nat×List Nat)) (b:Nat),dX I w bs b→dX I' w' bs b
 |[],b,h=>⟨(hst b h.1 h.2.lt).1,h.2.of_block (hst b h.1 h.2.lt).2⟩
 |(q,p)::bs,b,h=>by
  obtain ⟨v,b',h1,h2,⟨gp,g1,g2,l,c,g3⟩,h4⟩:=h;exact ⟨v,b',(hst b h1 h2.lt).1,h2.of_block (hst b h1 h2.lt).2,⟨gp,(hst gp g1 (hI gp g1)).1,Sl.stay g3 g2 (fun q=>(hst gp g1 q).2),l,c,g3⟩,dX.stay hst hI bs b' h4⟩
theorem int.bH.stay {σ:Type} {R:SR σ} {I I':Nat→Prop} {w w':World} (hst:∀ k,I k→k<w.heap.size→I' k∧w'.heap[k]?=w.heap[k]?) (hI:∀ k,I k→k<w.heap.size) {v:eX σ} {c:List Value} (h:bH R I w v c):bH R I' w' v c:=by
 obtain ⟨sc,b,h1,h2,h3⟩:=h;exact ⟨sc,b,h1,R.stay hst h2,dX.stay hst hI _ _ h3⟩
theorem list.bH.stay {σ:Type} {R:SR σ} {I I':Nat→Prop} {w w':World} (hst:∀ k,I k→k<w.heap.size→I' k∧w'.heap[k]?=w.heap[k]?) (hI:∀ k,I k→k<w.heap.size) {v:eX σ} {c:List Value} (h:bH R I w v c):bH R I' w' v c:=by
 obtain ⟨sc,b,h1,h2,h3⟩:=h;exact ⟨sc,b,h1,R.stay hst h2,dX.stay hst hI _ _ h3⟩
theorem tree.bH.stay {σ:Type} {R:SR σ} {I I':Nat→Prop} {w w':World} (hst:∀ k,I k→k<w.heap.size→I' k∧w'.heap[k]?=w.heap[k]?) (hI:∀ k,I k→k<w.heap.size) {v:eX σ} {c:List Value} (h:bH R I w v c):bH R I' w' v c:=by
 obtain ⟨sc,b,h1,h2,h3⟩:=h;exact ⟨sc,b,h1,R.stay hst h2,dX.stay hst hI _ _ h3⟩
theorem row.bH.stay {σ:Type} {R:SR σ} {I I':Nat→Prop} {w w':World} (hst:∀ k,I k→k<w.heap.size→I' k∧w'.heap[k]?=w.heap[k]?) (hI:∀ k,I k→k<w.heap.size) {v:eX σ} {c:List Value} (h:bH R I w v c):bH R I' w' v c:=by
 obtain ⟨sc,b,h1,h2,h3⟩:=h;exact ⟨sc,b,h1,R.stay hst h2,dX.stay hst hI _ _ h3⟩
theorem int.nB.stay {σ:Type} {R:SR σ} {I I':Nat→Prop} {w w':World} (hst:∀ k,I k→k<w.heap.size→I' k∧w'.heap[k]?=w.heap[k]?) (hI:∀ k,I k→k<w.heap.size) {v:Option (eX σ)} {c:List Value} (h:nB R I w v c):nB R I' w' v c:=⟨h.1,fun u hu=>bH.stay hst hI (h.2 u hu)⟩
theorem list.nB.stay {σ:Type} {R:SR σ} {I I':Nat→Prop} {w w':World} (hst:∀ k,I k→k<w.heap.size→I' k∧w'.heap[k]?=w.heap[k]?) (hI:∀ k,I k→k<w.heap.size) {v:Option (eX σ)} {c:List Value} (h:nB R I w v c):nB R I' w' v c:=⟨h.1,fun u hu=>bH.stay hst hI (h.2 u hu)⟩
theorem tree.nB.stay {σ:Type} {R:SR σ} {I I':Nat→Prop} {w w':World} (hst:∀ k,I k→k<w.heap.size→I' k∧w'.heap[k]?=w.heap[k]?) (hI:∀ k,I k→k<w.heap.size) {v:Option (eX σ)} {c:List Value} (h:nB R I w v c):nB R I' w' v c:=⟨h.1,fun u hu=>bH.stay hst hI (h.2 u hu)⟩
theorem row.nB.stay {σ:Type} {R:SR σ} {I I':Nat→Prop} {w w':World} (hst:∀ k,I k→k<w.heap.size→I' k∧w'.heap[k]?=w.heap[k]?) (hI:∀ k,I k→k<w.heap.size) {v:Option (eX σ)} {c:List Value} (h:nB R I w v c):nB R I' w' v c:=⟨h.1,fun u hu=>bH.stay hst hI (h.2 u hu)⟩
def tH (SR:Type→Type) (kV:{σ:Type}→SR σ→(Nat→Prop)→World→Option (M.eX σ×M.eX σ)→Option Nat→Prop):Prop:=∀ {σ:Type} {R:SR σ} {I I':Nat→Prop} {w w':World} (_hst:∀ k,I k→k<w.heap.size→I' k∧w'.heap[k]?=w.heap[k]?) (_hI:∀ k,I k→k<w.heap.size) {x:Option (eX σ×eX σ)} {p:Option Nat} (_h:kV R I w x p),kV R I' w' x p
open row in
theorem iM:tH int.SR @int.kV∧tH list.SR @list.kV∧tH tree.SR @tree.kV∧tH row.SR @row.kV:=by
 refine ⟨?_,?_,?_,?_⟩<;>intro σ R I I' w w' hst hI x p h
 all_goals
  intro v f hx;obtain ⟨b,cv,cf,h1,h2,h3,h4,h5⟩:=h v f hx;exact ⟨b,cv,cf,h1,(hst b h2 h3.lt).1,h3.of_block (hst b h2 h3.lt).2,bH.stay hst hI h4,bH.stay hst hI h5⟩
theorem int.kV.stay:tH int.SR @int.kV:=iM.1
theorem list.kV.stay:tH list.SR @list.kV:=iM.2.1
theorem tree.kV.stay:tH tree.SR @tree.kV:=iM.2.2.1
theorem row.kV.stay:tH row.SR @row.kV:=iM.2.2.2
theorem int.EH.stay {I I':Nat→Prop} {w w':World} (hst:∀ k,I k→k<w.heap.size→I' k∧w'.heap[k]?=w.heap[k]?) (hI:∀ k,I k→k<w.heap.size) {p:List Nat} {v:Value} (h:EH I w p v):EH I' w' p v:=by
 rcases h with h|⟨gp,l,c,h1,h2,h3⟩
 ·exact .inl h
 ·exact .inr ⟨gp,l,c,(hst gp h1 (hI gp h1)).1,h2,Sl.stay h2 h3 (fun q=>(hst gp h1 q).2)⟩
def tS (SR:Type→Type) (iU:{σ:Type}→SR σ→Lt→(Nat→Prop)→World→Nat→M.bU σ→(Nat→Value)→List Value→List Value→Value→Prop):Prop:=∀ {σ:Type} {R:SR σ} {I I':Nat→Prop} {w w':World} (_hst:∀ k,I k→k<w.heap.size→I' k∧w'.heap[k]?=w.heap[k]?) (_hI:∀ k,I k→k<w.heap.size) {L:Lt} {t:Nat} {e:bU σ} {f:Nat→Value} {cv cf:List Value} {pv:Value} (_h:iU R L I w t e f cv cf pv),iU R L I' w' t e f cv cf pv
open row in
theorem iV:tS int.SR @int.iU∧tS list.SR @list.iU∧tS tree.SR @tree.iU∧tS row.SR @row.iU:=by
 refine ⟨?_,?_,?_,?_⟩<;>intro σ R I I' w w' hst hI L t e f cv cf pv h
 all_goals
  exact ⟨h.like,nB.stay hst hI h.now,nB.stay hst hI h.fD,EH.stay hst hI h.aK⟩
theorem int.iU.stay:tS int.SR @int.iU:=iV.1
theorem list.iU.stay:tS list.SR @list.iU:=iV.2.1
theorem tree.iU.stay:tS tree.SR @tree.iU:=iV.2.2.1
theorem row.iU.stay:tS row.SR @row.iU:=iV.2.2.2
end Go.Proofs.YtefjhnhdagolhaaGreat
