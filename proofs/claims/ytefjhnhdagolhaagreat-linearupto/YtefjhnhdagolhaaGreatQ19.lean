import Derived.Test.YtefjhnhdagolhaaGreatQ02
import Derived.Test.YtefjhnhdagolhaaGreatQ01
namespace Go.Proofs.YtefjhnhdagolhaaGreat
namespace int
end int
namespace list
end list
namespace tree
end tree
namespace row
end row
open int list tree
open Go.RowKit
open M (aI aC aD Op cY aS aK tw aQ)
structure int.Lt where
 n:Nat
 cap:Nat
 oT:TypeId
 ov:Value
 bE:Nat
 bS:Nat
 aY:Nat
 aX:Nat
 bP:Nat
 bW:Nat→Nat
 g:Nat
 gc:Nat
 gD:Nat→Nat
 gG:Nat→Nat
def int.Lt.own (L:Lt) (k:Nat):Prop:=k=L.bS∨k=L.aY∨k=L.aX∨k=L.bP∨(∃ r,r<2*L.n+1∧k=L.bW r)∨k=L.g∨∃ t,t<L.n∧(k=L.gD t∨k=L.gG t)
structure int.Lt.Ok (L:Lt):Prop where
 n1:1≤L.n
 n64:L.n≤64
 VQ:L.cap≤64
 gn:L.n≤L.gc
 tw:∀ r,r<2*L.n+1→L.aY≠L.bW r
 ww:∀ r s,r<2*L.n+1→s<2*L.n+1→L.bW r=L.bW s→r=s
 dg:∀ t u,t<L.n→u<L.n→L.gD t≠L.gG u
 dd:∀ t u,t<L.n→u<L.n→L.gD t=L.gD u→t=u
 gg:∀ t u,t<L.n→u<L.n→L.gG t=L.gG u→t=u
structure int.SR (σ:Type) where
 sz:σ→Nat
 rep:(Nat→Prop)→World→σ→List Value→Prop
 len:∀ {I w s c},rep I w s c→c.length=1
 shape:∀ {I w s c},rep I w s c→∀ v∈c,∃ z,v=(Value.int .i64) z
 stay:∀ {I I':Nat→Prop} {w w':World} {s c},(∀ k,I k→k<w.heap.size→I' k∧w'.heap[k]?=w.heap[k]?)→rep I w s c→rep I' w' s c
structure list.SR (σ:Type) where
 sz:σ→Nat
 rep:(Nat→Prop)→World→σ→List Value→Prop
 len:∀ {I w s c},rep I w s c→c.length=1
 shape:∀ {I w s c},rep I w s c→∀ v∈c,∃ z,v=(Value.pointer) z
 stay:∀ {I I':Nat→Prop} {w w':World} {s c},(∀ k,I k→k<w.heap.size→I' k∧w'.heap[k]?=w.heap[k]?)→rep I w s c→rep I' w' s c
structure tree.SR (σ:Type) where
 sz:σ→Nat
 rep:(Nat→Prop)→World→σ→List Value→Prop
 len:∀ {I w s c},rep I w s c→c.length=1
 shape:∀ {I w s c},rep I w s c→∀ v∈c,∃ z,v=(Value.pointer) z
 stay:∀ {I I':Nat→Prop} {w w':World} {s c},(∀ k,I k→k<w.heap.size→I' k∧w'.heap[k]?=w.heap[k]?)→rep I w s c→rep I' w' s c
structure row.SR (σ:Type) where
 sz:σ→Nat
 rep:(Nat→Prop)→World→σ→List Value→Prop
 len:∀ {I w s c},rep I w s c→c.length=2
 shape:∀ {I w s c},rep I w s c→∀ v∈c,∃ z,v=(Value.pointer) z
 stay:∀ {I I':Nat→Prop} {w w':World} {s c},(∀ k,I k→k<w.heap.size→I' k∧w'.heap[k]?=w.heap[k]?)→rep I w s c→rep I' w' s c
def int.cP (I:Nat→Prop) (w:World):List (Nat×List Nat)→Nat→Prop
 |[],b=>I b∧Row w b 306 [.int .i64 0,.slice none 0 0,.pointer none]
 |(q,p)::bs,b=>∃ v b',I b∧Row w b 306 [.int .i64 (q:Int),v,.pointer (some ⟨b',0,none⟩)]∧(∃ gp,I gp∧Sl w v (ints (p.map Int.ofNat))∧∃ l c,v = .slice (some ⟨gp,0,none⟩) l c)∧cP I w bs b'
def int.aV {σ:Type} (R:SR σ) (I:Nat→Prop) (w:World) (v:cY σ) (c:List Value):Prop:=∃ sc b,c=sc++[.pointer (some ⟨b,0,none⟩)]∧R.rep I w v.st sc∧cP I w v.bs.reverse b
def list.aV {σ:Type} (R:SR σ) (I:Nat→Prop) (w:World) (v:cY σ) (c:List Value):Prop:=∃ sc b,c=sc++[.pointer (some ⟨b,0,none⟩)]∧R.rep I w v.st sc∧cP I w v.bs.reverse b
def tree.aV {σ:Type} (R:SR σ) (I:Nat→Prop) (w:World) (v:cY σ) (c:List Value):Prop:=∃ sc b,c=sc++[.pointer (some ⟨b,0,none⟩)]∧R.rep I w v.st sc∧cP I w v.bs.reverse b
def row.aV {σ:Type} (R:SR σ) (I:Nat→Prop) (w:World) (v:cY σ) (c:List Value):Prop:=∃ sc b,c=sc++[.pointer (some ⟨b,0,none⟩)]∧R.rep I w v.st sc∧cP I w v.bs.reverse b
theorem int.SR.one {σ:Type} (R:SR σ) {I:Nat→Prop} {w:World} {s:σ} {c:List Value} (h:R.rep I w s c):∀ v∈c,v.oneCell'=true:=by
 intro v hv
 obtain ⟨z,rfl⟩:=R.shape h v hv
 rfl
theorem list.SR.one {σ:Type} (R:SR σ) {I:Nat→Prop} {w:World} {s:σ} {c:List Value} (h:R.rep I w s c):∀ v∈c,v.oneCell'=true:=by
 intro v hv
 obtain ⟨z,rfl⟩:=R.shape h v hv
 rfl
theorem tree.SR.one {σ:Type} (R:SR σ) {I:Nat→Prop} {w:World} {s:σ} {c:List Value} (h:R.rep I w s c):∀ v∈c,v.oneCell'=true:=by
 intro v hv
 obtain ⟨z,rfl⟩:=R.shape h v hv
 rfl
theorem row.SR.one {σ:Type} (R:SR σ) {I:Nat→Prop} {w:World} {s:σ} {c:List Value} (h:R.rep I w s c):∀ v∈c,v.oneCell'=true:=by
 intro v hv
 obtain ⟨z,rfl⟩:=R.shape h v hv
 rfl
theorem int.aV.one {σ:Type} (R:SR σ) {I:Nat→Prop} {w:World} {v:cY σ} {c:List Value} (h:aV R I w v c):∀ u∈c,u.oneCell'=true:=by
 obtain ⟨sc,b,rfl,h1,-⟩:=h
 intro u hu
 rcases List.mem_append.1 hu with hu|hu
 ·exact SR.one R h1 u hu
 ·rw [List.mem_singleton.1 hu];rfl
theorem list.aV.one {σ:Type} (R:SR σ) {I:Nat→Prop} {w:World} {v:cY σ} {c:List Value} (h:aV R I w v c):∀ u∈c,u.oneCell'=true:=by
 obtain ⟨sc,b,rfl,h1,-⟩:=h
 intro u hu
 rcases List.mem_append.1 hu with hu|hu
 ·exact SR.one R h1 u hu
 ·rw [List.mem_singleton.1 hu];rfl
theorem tree.aV.one {σ:Type} (R:SR σ) {I:Nat→Prop} {w:World} {v:cY σ} {c:List Value} (h:aV R I w v c):∀ u∈c,u.oneCell'=true:=by
 obtain ⟨sc,b,rfl,h1,-⟩:=h
 intro u hu
 rcases List.mem_append.1 hu with hu|hu
 ·exact SR.one R h1 u hu
 ·rw [List.mem_singleton.1 hu];rfl
theorem row.aV.one {σ:Type} (R:SR σ) {I:Nat→Prop} {w:World} {v:cY σ} {c:List Value} (h:aV R I w v c):∀ u∈c,u.oneCell'=true:=by
 obtain ⟨sc,b,rfl,h1,-⟩:=h
 intro u hu
 rcases List.mem_append.1 hu with hu|hu
 ·exact SR.one R h1 u hu
 ·rw [List.mem_singleton.1 hu];rfl
theorem int.aV.len {σ:Type} (R:SR σ) {I:Nat→Prop} {w:World} {v:cY σ} {c:List Value} (h:aV R I w v c):c.length=1+1:=by
 obtain ⟨sc,b,rfl,h1,-⟩:=h
 simp [R.len h1]
theorem list.aV.len {σ:Type} (R:SR σ) {I:Nat→Prop} {w:World} {v:cY σ} {c:List Value} (h:aV R I w v c):c.length=1+1:=by
 obtain ⟨sc,b,rfl,h1,-⟩:=h
 simp [R.len h1]
theorem tree.aV.len {σ:Type} (R:SR σ) {I:Nat→Prop} {w:World} {v:cY σ} {c:List Value} (h:aV R I w v c):c.length=1+1:=by
 obtain ⟨sc,b,rfl,h1,-⟩:=h
 simp [R.len h1]
theorem row.aV.len {σ:Type} (R:SR σ) {I:Nat→Prop} {w:World} {v:cY σ} {c:List Value} (h:aV R I w v c):c.length=2+1:=by
 obtain ⟨sc,b,rfl,h1,-⟩:=h
 simp [R.len h1]
def int.iW {σ:Type} (R:SR σ) (I:Nat→Prop) (w:World) (v:Option (cY σ)) (c:List Value):Prop:=c.length=1+1∧∀ u,v=some u→aV R I w u c
def list.iW {σ:Type} (R:SR σ) (I:Nat→Prop) (w:World) (v:Option (cY σ)) (c:List Value):Prop:=c.length=1+1∧∀ u,v=some u→aV R I w u c
def tree.iW {σ:Type} (R:SR σ) (I:Nat→Prop) (w:World) (v:Option (cY σ)) (c:List Value):Prop:=c.length=1+1∧∀ u,v=some u→aV R I w u c
def row.iW {σ:Type} (R:SR σ) (I:Nat→Prop) (w:World) (v:Option (cY σ)) (c:List Value):Prop:=c.length=2+1∧∀ u,v=some u→aV R I w u c
def int.jC {σ:Type} (R:SR σ) (I:Nat→Prop) (w:World) (x:Option (cY σ×cY σ)) (p:Option Nat):Prop :=
 ∀ v f,x=some (v,f)→∃ b cv cf,p=some b∧I b∧Row w b 227 (cv++cf)∧aV R I w v cv∧aV R I w f cf
def list.jC {σ:Type} (R:SR σ) (I:Nat→Prop) (w:World) (x:Option (cY σ×cY σ)) (p:Option Nat):Prop :=
 ∀ v f,x=some (v,f)→∃ b cv cf,p=some b∧I b∧Row w b 241 (cv++cf)∧aV R I w v cv∧aV R I w f cf
def tree.jC {σ:Type} (R:SR σ) (I:Nat→Prop) (w:World) (x:Option (cY σ×cY σ)) (p:Option Nat):Prop :=
 ∀ v f,x=some (v,f)→∃ b cv cf,p=some b∧I b∧Row w b 269 (cv++cf)∧aV R I w v cv∧aV R I w f cf
def row.jC {σ:Type} (R:SR σ) (I:Nat→Prop) (w:World) (x:Option (cY σ×cY σ)) (p:Option Nat):Prop :=
 ∀ v f,x=some (v,f)→∃ b cv cf,p=some b∧I b∧Row w b 255 (cv++cf)∧aV R I w v cv∧aV R I w f cf
def int.kG (I:Nat→Prop) (w:World) (p:List Nat) (v:Value):Prop:=(v = .slice none 0 0∧p=[])∨∃ gp l c,I gp∧v = .slice (some ⟨gp,0,none⟩) l c∧Sl w v (ints (p.map Int.ofNat))
def int.aO {σ:Type} (L:Lt) (t:Nat) (e:aS σ) (cv cf:List Value) (pv:Value):List Value :=
 [.pointer (some ⟨L.bS,0,none⟩),.int .i64 (t:Int),.int .i64 (L.cap:Int),.int .i64 (e.phase:Int),.int .i64 (e.past:Int),.int .i64 e.op.c,.int .i64 e.op.a,.int .i64 e.op.b,.bool e.cQ,.int .i64 (e.aG:Int),.bool e.again,.int .i64 (e.spare:Int),.int .i64 (e.kept:Int),.int .i64 ((e.stamp:Int)*129+(e.aR:Int)),
  .slice (some ⟨L.gD t,0,none⟩) (aQ L.n) (aQ L.n)]++cv++cf++[.slice (some ⟨L.gG t,0,none⟩) (M.tw L.n) (M.tw L.n),pv,.int .i64 (e.heard 0),.int .i64 (e.heard 1),.int .i64 (e.heard 2),.int .i64 (e.found:Int),.int .i64 e.yA,.int .i64 e.val,.bool e.ended]
def list.aO {σ:Type} (L:Lt) (t:Nat) (e:aS σ) (cv cf:List Value) (pv:Value):List Value :=
 [.pointer (some ⟨L.bS,0,none⟩),.int .i64 (t:Int),.int .i64 (L.cap:Int),.int .i64 (e.phase:Int),.int .i64 (e.past:Int),.int .i64 e.op.c,.int .i64 e.op.a,.int .i64 e.op.b,.bool e.cQ,.int .i64 (e.aG:Int),.bool e.again,.int .i64 (e.spare:Int),.int .i64 (e.kept:Int),.int .i64 ((e.stamp:Int)*129+(e.aR:Int)),
  .slice (some ⟨L.gD t,0,none⟩) (aQ L.n) (aQ L.n)]++cv++cf++[.slice (some ⟨L.gG t,0,none⟩) (M.tw L.n) (M.tw L.n),pv,.int .i64 (e.heard 0),.int .i64 (e.heard 1),.int .i64 (e.heard 2),.int .i64 (e.found:Int),.int .i64 e.yA,.int .i64 e.val,.bool e.ended]
def tree.aO {σ:Type} (L:Lt) (t:Nat) (e:aS σ) (cv cf:List Value) (pv:Value):List Value :=
 [.pointer (some ⟨L.bS,0,none⟩),.int .i64 (t:Int),.int .i64 (L.cap:Int),.int .i64 (e.phase:Int),.int .i64 (e.past:Int),.int .i64 e.op.c,.int .i64 e.op.a,.int .i64 e.op.b,.bool e.cQ,.int .i64 (e.aG:Int),.bool e.again,.int .i64 (e.spare:Int),.int .i64 (e.kept:Int),.int .i64 ((e.stamp:Int)*129+(e.aR:Int)),
  .slice (some ⟨L.gD t,0,none⟩) (aQ L.n) (aQ L.n)]++cv++cf++[.slice (some ⟨L.gG t,0,none⟩) (M.tw L.n) (M.tw L.n),pv,.int .i64 (e.heard 0),.int .i64 (e.heard 1),.int .i64 (e.heard 2),.int .i64 (e.found:Int),.int .i64 e.yA,.int .i64 e.val,.bool e.ended]
def row.aO {σ:Type} (L:Lt) (t:Nat) (e:aS σ) (cv cf:List Value) (pv:Value):List Value :=
 [.pointer (some ⟨L.bS,0,none⟩),.int .i64 (t:Int),.int .i64 (L.cap:Int),.int .i64 (e.phase:Int),.int .i64 (e.past:Int),.int .i64 e.op.c,.int .i64 e.op.a,.int .i64 e.op.b,.bool e.cQ,.int .i64 (e.aG:Int),.bool e.again,.int .i64 (e.spare:Int),.int .i64 (e.kept:Int),.int .i64 ((e.stamp:Int)*129+(e.aR:Int)),
  .slice (some ⟨L.gD t,0,none⟩) (aQ L.n) (aQ L.n)]++cv++cf++[.slice (some ⟨L.gG t,0,none⟩) (M.tw L.n) (M.tw L.n),pv,.int .i64 (e.heard 0),.int .i64 (e.heard 1),.int .i64 (e.heard 2),.int .i64 (e.found:Int),.int .i64 e.yA,.int .i64 e.val,.bool e.ended]
structure int.gC {σ:Type} (R:SR σ) (L:Lt) (I:Nat→Prop) (w:World) (t:Nat) (e:aS σ) (f:Nat→Value) (cv cf:List Value) (pv:Value):Prop where
 like:MQ f (aO L t e cv cf pv)
 now:iW R I w e.now cv
 cD:iW R I w e.cD cf
 aJ:kG I w e.aJ pv
structure list.gC {σ:Type} (R:SR σ) (L:Lt) (I:Nat→Prop) (w:World) (t:Nat) (e:aS σ) (f:Nat→Value) (cv cf:List Value) (pv:Value):Prop where
 like:MQ f (aO L t e cv cf pv)
 now:iW R I w e.now cv
 cD:iW R I w e.cD cf
 aJ:kG I w e.aJ pv
structure tree.gC {σ:Type} (R:SR σ) (L:Lt) (I:Nat→Prop) (w:World) (t:Nat) (e:aS σ) (f:Nat→Value) (cv cf:List Value) (pv:Value):Prop where
 like:MQ f (aO L t e cv cf pv)
 now:iW R I w e.now cv
 cD:iW R I w e.cD cf
 aJ:kG I w e.aJ pv
structure row.gC {σ:Type} (R:SR σ) (L:Lt) (I:Nat→Prop) (w:World) (t:Nat) (e:aS σ) (f:Nat→Value) (cv cf:List Value) (pv:Value):Prop where
 like:MQ f (aO L t e cv cf pv)
 now:iW R I w e.now cv
 cD:iW R I w e.cD cf
 aJ:kG I w e.aJ pv
structure int.RE {σ:Type} (R:SR σ) (L:Lt) (S:Nat→Prop) (E:aK σ) (w:World):Prop where
 ok:L.Ok
 oQ:Row w L.bE 219 [.pointer (some ⟨L.bS,0,none⟩),.slice (some ⟨L.g,0,none⟩) L.n L.gc,.int .i64 (L.cap:Int)]
 pU:S L.bE∧¬L.own L.bE
 sh:Row w L.bS 296 [.int .i64 (L.n:Int),.iface L.oT L.ov,.slice (some ⟨L.aY,0,none⟩) (M.tw L.n) (M.tw L.n),.slice (some ⟨L.aX,0,none⟩) L.n L.n,.slice (some ⟨L.bP,0,none⟩) (2*L.n+1) (2*L.n+1),.int .i64 ((E.cZ:Int)*129+(E.prec:Int))]
 tg:Fn w L.aY 387 (M.tw L.n) (fun i=>.int .i64 (E.bC i))
 an:vV w L.aX 388 L.n 3 (fun t i=>.int .i64 (E.eH t i))
 po:∃ sp:Nat→Option Nat,vV w L.bP 304 (2*L.n+1) 2 (fun r j=>if j=0 then .slice (some ⟨L.bW r,0,none⟩) (aQ L.n) (aQ L.n) else .pointer ((sp r).map fun b=>⟨b,0,none⟩))∧∀ r,r<2*L.n+1→jC R (fun k=>S k∧¬L.own k) w (E.eX r) (sp r)
 rw:∀ r,r<2*L.n+1→Fn w (L.bW r) 387 (aQ L.n) (fun i=>.int .i64 (E.rw r i))
 th:∃ T,vV w L.g 231 L.gc 28 T∧∀ t,t<L.n→∃ cv cf pv,gC R L (fun k=>S k∧¬L.own k) w t (E.th t) (T t) cv cf pv
 gd:∀ t,t<L.n→Fn w (L.gD t) 3 (aQ L.n) (fun i=>.int .i64 ((E.th t).dw i))
 gg:∀ t,t<L.n→Fn w (L.gG t) 3 (M.tw L.n) (fun i=>.int .i64 ((E.th t).tg i))
 ow:∀ k,L.own k→S k
 lt:∀ k,S k→k<w.heap.size
structure list.RE {σ:Type} (R:SR σ) (L:Lt) (S:Nat→Prop) (E:aK σ) (w:World):Prop where
 ok:L.Ok
 oQ:Row w L.bE 237 [.pointer (some ⟨L.bS,0,none⟩),.slice (some ⟨L.g,0,none⟩) L.n L.gc,.int .i64 (L.cap:Int)]
 pU:S L.bE∧¬L.own L.bE
 sh:Row w L.bS 310 [.int .i64 (L.n:Int),.iface L.oT L.ov,.slice (some ⟨L.aY,0,none⟩) (M.tw L.n) (M.tw L.n),.slice (some ⟨L.aX,0,none⟩) L.n L.n,.slice (some ⟨L.bP,0,none⟩) (2*L.n+1) (2*L.n+1),.int .i64 ((E.cZ:Int)*129+(E.prec:Int))]
 tg:Fn w L.aY 387 (M.tw L.n) (fun i=>.int .i64 (E.bC i))
 an:vV w L.aX 388 L.n 3 (fun t i=>.int .i64 (E.eH t i))
 po:∃ sp:Nat→Option Nat,vV w L.bP 318 (2*L.n+1) 2 (fun r j=>if j=0 then .slice (some ⟨L.bW r,0,none⟩) (aQ L.n) (aQ L.n) else .pointer ((sp r).map fun b=>⟨b,0,none⟩))∧∀ r,r<2*L.n+1→jC R (fun k=>S k∧¬L.own k) w (E.eX r) (sp r)
 rw:∀ r,r<2*L.n+1→Fn w (L.bW r) 387 (aQ L.n) (fun i=>.int .i64 (E.rw r i))
 th:∃ T,vV w L.g 245 L.gc 28 T∧∀ t,t<L.n→∃ cv cf pv,gC R L (fun k=>S k∧¬L.own k) w t (E.th t) (T t) cv cf pv
 gd:∀ t,t<L.n→Fn w (L.gD t) 3 (aQ L.n) (fun i=>.int .i64 ((E.th t).dw i))
 gg:∀ t,t<L.n→Fn w (L.gG t) 3 (M.tw L.n) (fun i=>.int .i64 ((E.th t).tg i))
 ow:∀ k,L.own k→S k
 lt:∀ k,S k→k<w.heap.size
structure tree.RE {σ:Type} (R:SR σ) (L:Lt) (S:Nat→Prop) (E:aK σ) (w:World):Prop where
 ok:L.Ok
 oQ:Row w L.bE 265 [.pointer (some ⟨L.bS,0,none⟩),.slice (some ⟨L.g,0,none⟩) L.n L.gc,.int .i64 (L.cap:Int)]
 pU:S L.bE∧¬L.own L.bE
 sh:Row w L.bS 336 [.int .i64 (L.n:Int),.iface L.oT L.ov,.slice (some ⟨L.aY,0,none⟩) (M.tw L.n) (M.tw L.n),.slice (some ⟨L.aX,0,none⟩) L.n L.n,.slice (some ⟨L.bP,0,none⟩) (2*L.n+1) (2*L.n+1),.int .i64 ((E.cZ:Int)*129+(E.prec:Int))]
 tg:Fn w L.aY 387 (M.tw L.n) (fun i=>.int .i64 (E.bC i))
 an:vV w L.aX 388 L.n 3 (fun t i=>.int .i64 (E.eH t i))
 po:∃ sp:Nat→Option Nat,vV w L.bP 344 (2*L.n+1) 2 (fun r j=>if j=0 then .slice (some ⟨L.bW r,0,none⟩) (aQ L.n) (aQ L.n) else .pointer ((sp r).map fun b=>⟨b,0,none⟩))∧∀ r,r<2*L.n+1→jC R (fun k=>S k∧¬L.own k) w (E.eX r) (sp r)
 rw:∀ r,r<2*L.n+1→Fn w (L.bW r) 387 (aQ L.n) (fun i=>.int .i64 (E.rw r i))
 th:∃ T,vV w L.g 273 L.gc 28 T∧∀ t,t<L.n→∃ cv cf pv,gC R L (fun k=>S k∧¬L.own k) w t (E.th t) (T t) cv cf pv
 gd:∀ t,t<L.n→Fn w (L.gD t) 3 (aQ L.n) (fun i=>.int .i64 ((E.th t).dw i))
 gg:∀ t,t<L.n→Fn w (L.gG t) 3 (M.tw L.n) (fun i=>.int .i64 ((E.th t).tg i))
 ow:∀ k,L.own k→S k
 lt:∀ k,S k→k<w.heap.size
structure row.RE {σ:Type} (R:SR σ) (L:Lt) (S:Nat→Prop) (E:aK σ) (w:World):Prop where
 ok:L.Ok
 oQ:Row w L.bE 251 [.pointer (some ⟨L.bS,0,none⟩),.slice (some ⟨L.g,0,none⟩) L.n L.gc,.int .i64 (L.cap:Int)]
 pU:S L.bE∧¬L.own L.bE
 sh:Row w L.bS 323 [.int .i64 (L.n:Int),.iface L.oT L.ov,.slice (some ⟨L.aY,0,none⟩) (M.tw L.n) (M.tw L.n),.slice (some ⟨L.aX,0,none⟩) L.n L.n,.slice (some ⟨L.bP,0,none⟩) (2*L.n+1) (2*L.n+1),.int .i64 ((E.cZ:Int)*129+(E.prec:Int))]
 tg:Fn w L.aY 387 (M.tw L.n) (fun i=>.int .i64 (E.bC i))
 an:vV w L.aX 388 L.n 3 (fun t i=>.int .i64 (E.eH t i))
 po:∃ sp:Nat→Option Nat,vV w L.bP 331 (2*L.n+1) 2 (fun r j=>if j=0 then .slice (some ⟨L.bW r,0,none⟩) (aQ L.n) (aQ L.n) else .pointer ((sp r).map fun b=>⟨b,0,none⟩))∧∀ r,r<2*L.n+1→jC R (fun k=>S k∧¬L.own k) w (E.eX r) (sp r)
 rw:∀ r,r<2*L.n+1→Fn w (L.bW r) 387 (aQ L.n) (fun i=>.int .i64 (E.rw r i))
 th:∃ T,vV w L.g 259 L.gc 30 T∧∀ t,t<L.n→∃ cv cf pv,gC R L (fun k=>S k∧¬L.own k) w t (E.th t) (T t) cv cf pv
 gd:∀ t,t<L.n→Fn w (L.gD t) 3 (aQ L.n) (fun i=>.int .i64 ((E.th t).dw i))
 gg:∀ t,t<L.n→Fn w (L.gG t) 3 (M.tw L.n) (fun i=>.int .i64 ((E.th t).tg i))
 ow:∀ k,L.own k→S k
 lt:∀ k,S k→k<w.heap.size
theorem int.Sl.block {w w':World} {v:Value} {xs:List Value} {gp l c:Nat} (hv:v = .slice (some ⟨gp,0,none⟩) l c) (h:Sl w v xs) (e:w'.heap[gp]?=w.heap[gp]?):Sl w' v xs:=by
 obtain ⟨a,cap,QE,h1,h2,h3⟩:=h
 refine ⟨a,cap,QE,h1,h2,?_⟩
 rcases h3 with h3|⟨g,off,ha,h3⟩
 ·exact .inl h3
 ·refine .inr ⟨g,off,ha,fun j x hj=>?_⟩
  have:g=gp:=by
   rw [hv] at QE
   injection QE with q1
   rw [ha] at q1
   injection q1 with q2
   injection q2 with q3
   exact q3.symm
  subst this
  rw [World.cell?_of_block (w:=w) (a:=⟨g,off+j,none⟩) e]
  exact h3 j x hj
theorem int.Sl.lt {w:World} {v:Value} {xs:List Value} {gp l c:Nat} (hv:v = .slice (some ⟨gp,0,none⟩) l c) (h:Sl w v xs) (hx:xs≠[]):gp<w.heap.size:=by
 obtain ⟨a,cap,QE,h1,h2,h3⟩:=h
 rcases h3 with h3|⟨g,off,ha,h3⟩
 ·exact absurd h3 hx
 ·have:g=gp:=by
   rw [hv] at QE
   injection QE with q1
   rw [ha] at q1
   injection q1 with q2
   injection q2 with q3
   exact q3.symm
  subst this
  obtain ⟨x,hx0⟩:∃ x,xs[0]?=some x:=by cases xs with|nil=>exact absurd rfl hx|cons x r=>exact ⟨x,rfl⟩
  exact World.block_lt_of_cell? w _ (h3 0 x hx0)
theorem int.Sl.stay {w w':World} {v:Value} {xs:List Value} {gp l c:Nat} (hv:v = .slice (some ⟨gp,0,none⟩) l c) (h:Sl w v xs) (e:gp<w.heap.size→w'.heap[gp]?=w.heap[gp]?):Sl w' v xs:=by
 by_cases hx:xs=[]
 ·obtain ⟨a,cap,QE,h1,h2,h3⟩:=h
  exact ⟨a,cap,QE,h1,h2,.inl hx⟩
 ·exact Sl.block hv h (e (Sl.lt hv h hx))
theorem list.Sl.stay {w w':World} {v:Value} {xs:List Value} {gp l c:Nat} (hv:v = .slice (some ⟨gp,0,none⟩) l c) (h:Sl w v xs) (e:gp<w.heap.size→w'.heap[gp]?=w.heap[gp]?):Sl w' v xs:=by
 by_cases hx:xs=[]
 ·obtain ⟨a,cap,QE,h1,h2,h3⟩:=h
  exact ⟨a,cap,QE,h1,h2,.inl hx⟩
 ·exact Sl.block hv h (e (Sl.lt hv h hx))
theorem tree.Sl.stay {w w':World} {v:Value} {xs:List Value} {gp l c:Nat} (hv:v = .slice (some ⟨gp,0,none⟩) l c) (h:Sl w v xs) (e:gp<w.heap.size→w'.heap[gp]?=w.heap[gp]?):Sl w' v xs:=by
 by_cases hx:xs=[]
 ·obtain ⟨a,cap,QE,h1,h2,h3⟩:=h
  exact ⟨a,cap,QE,h1,h2,.inl hx⟩
 ·exact Sl.block hv h (e (Sl.lt hv h hx))
theorem row.Sl.stay {w w':World} {v:Value} {xs:List Value} {gp l c:Nat} (hv:v = .slice (some ⟨gp,0,none⟩) l c) (h:Sl w v xs) (e:gp<w.heap.size→w'.heap[gp]?=w.heap[gp]?):Sl w' v xs:=by
 by_cases hx:xs=[]
 ·obtain ⟨a,cap,QE,h1,h2,h3⟩:=h
  exact ⟨a,cap,QE,h1,h2,.inl hx⟩
 ·exact Sl.block hv h (e (Sl.lt hv h hx))
theorem int.cP.stay {I I':Nat→Prop} {w w':World} (hst:∀ k,I k→k<w.heap.size→I' k∧w'.heap[k]?=w.heap[k]?) (hI:∀ k,I k→k<w.heap.size):∀ (bs:List (Nat×List Nat)) (b:Nat),cP I w bs b→cP I' w' bs b
 |[],b,h=>⟨(hst b h.1 h.2.lt).1,h.2.of_block (hst b h.1 h.2.lt).2⟩
 |(q,p)::bs,b,h=>by
  obtain ⟨v,b',h1,h2,⟨gp,g1,g2,l,c,g3⟩,h4⟩:=h
  exact ⟨v,b',(hst b h1 h2.lt).1,h2.of_block (hst b h1 h2.lt).2,⟨gp,(hst gp g1 (hI gp g1)).1,Sl.stay g3 g2 (fun q=>(hst gp g1 q).2),l,c,g3⟩,cP.stay hst hI bs b' h4⟩
theorem list.cP.stay {I I':Nat→Prop} {w w':World} (hst:∀ k,I k→k<w.heap.size→I' k∧w'.heap[k]?=w.heap[k]?) (hI:∀ k,I k→k<w.heap.size):∀ (bs:List (Nat×List Nat)) (b:Nat),cP I w bs b→cP I' w' bs b
 |[],b,h=>⟨(hst b h.1 h.2.lt).1,h.2.of_block (hst b h.1 h.2.lt).2⟩
 |(q,p)::bs,b,h=>by
  obtain ⟨v,b',h1,h2,⟨gp,g1,g2,l,c,g3⟩,h4⟩:=h
  exact ⟨v,b',(hst b h1 h2.lt).1,h2.of_block (hst b h1 h2.lt).2,⟨gp,(hst gp g1 (hI gp g1)).1,Sl.stay g3 g2 (fun q=>(hst gp g1 q).2),l,c,g3⟩,cP.stay hst hI bs b' h4⟩
theorem tree.cP.stay {I I':Nat→Prop} {w w':World} (hst:∀ k,I k→k<w.heap.size→I' k∧w'.heap[k]?=w.heap[k]?) (hI:∀ k,I k→k<w.heap.size):∀ (bs:List (Nat×List Nat)) (b:Nat),cP I w bs b→cP I' w' bs b
 |[],b,h=>⟨(hst b h.1 h.2.lt).1,h.2.of_block (hst b h.1 h.2.lt).2⟩
 |(q,p)::bs,b,h=>by
  obtain ⟨v,b',h1,h2,⟨gp,g1,g2,l,c,g3⟩,h4⟩:=h
  exact ⟨v,b',(hst b h1 h2.lt).1,h2.of_block (hst b h1 h2.lt).2,⟨gp,(hst gp g1 (hI gp g1)).1,Sl.stay g3 g2 (fun q=>(hst gp g1 q).2),l,c,g3⟩,cP.stay hst hI bs b' h4⟩
theorem row.cP.stay {I I':Nat→Prop} {w w':World} (hst:∀ k,I k→k<w.heap.size→I' k∧w'.heap[k]?=w.heap[k]?) (hI:∀ k,I k→k<w.heap.size):∀ (bs:List (Nat×List Nat)) (b:Nat),cP I w bs b→cP I' w' bs b
 |[],b,h=>⟨(hst b h.1 h.2.lt).1,h.2.of_block (hst b h.1 h.2.lt).2⟩
 |(q,p)::bs,b,h=>by
  obtain ⟨v,b',h1,h2,⟨gp,g1,g2,l,c,g3⟩,h4⟩:=h
  exact ⟨v,b',(hst b h1 h2.lt).1,h2.of_block (hst b h1 h2.lt).2,⟨gp,(hst gp g1 (hI gp g1)).1,Sl.stay g3 g2 (fun q=>(hst gp g1 q).2),l,c,g3⟩,cP.stay hst hI bs b' h4⟩
theorem int.aV.stay {σ:Type} {R:SR σ} {I I':Nat→Prop} {w w':World} (hst:∀ k,I k→k<w.heap.size→I' k∧w'.heap[k]?=w.heap[k]?) (hI:∀ k,I k→k<w.heap.size) {v:cY σ} {c:List Value} (h:aV R I w v c):aV R I' w' v c:=by
 obtain ⟨sc,b,h1,h2,h3⟩:=h
 exact ⟨sc,b,h1,R.stay hst h2,cP.stay hst hI _ _ h3⟩
theorem list.aV.stay {σ:Type} {R:SR σ} {I I':Nat→Prop} {w w':World} (hst:∀ k,I k→k<w.heap.size→I' k∧w'.heap[k]?=w.heap[k]?) (hI:∀ k,I k→k<w.heap.size) {v:cY σ} {c:List Value} (h:aV R I w v c):aV R I' w' v c:=by
 obtain ⟨sc,b,h1,h2,h3⟩:=h
 exact ⟨sc,b,h1,R.stay hst h2,cP.stay hst hI _ _ h3⟩
theorem tree.aV.stay {σ:Type} {R:SR σ} {I I':Nat→Prop} {w w':World} (hst:∀ k,I k→k<w.heap.size→I' k∧w'.heap[k]?=w.heap[k]?) (hI:∀ k,I k→k<w.heap.size) {v:cY σ} {c:List Value} (h:aV R I w v c):aV R I' w' v c:=by
 obtain ⟨sc,b,h1,h2,h3⟩:=h
 exact ⟨sc,b,h1,R.stay hst h2,cP.stay hst hI _ _ h3⟩
theorem row.aV.stay {σ:Type} {R:SR σ} {I I':Nat→Prop} {w w':World} (hst:∀ k,I k→k<w.heap.size→I' k∧w'.heap[k]?=w.heap[k]?) (hI:∀ k,I k→k<w.heap.size) {v:cY σ} {c:List Value} (h:aV R I w v c):aV R I' w' v c:=by
 obtain ⟨sc,b,h1,h2,h3⟩:=h
 exact ⟨sc,b,h1,R.stay hst h2,cP.stay hst hI _ _ h3⟩
theorem int.iW.stay {σ:Type} {R:SR σ} {I I':Nat→Prop} {w w':World} (hst:∀ k,I k→k<w.heap.size→I' k∧w'.heap[k]?=w.heap[k]?) (hI:∀ k,I k→k<w.heap.size) {v:Option (cY σ)} {c:List Value} (h:iW R I w v c):iW R I' w' v c:=⟨h.1,fun u hu=>aV.stay hst hI (h.2 u hu)⟩
theorem list.iW.stay {σ:Type} {R:SR σ} {I I':Nat→Prop} {w w':World} (hst:∀ k,I k→k<w.heap.size→I' k∧w'.heap[k]?=w.heap[k]?) (hI:∀ k,I k→k<w.heap.size) {v:Option (cY σ)} {c:List Value} (h:iW R I w v c):iW R I' w' v c:=⟨h.1,fun u hu=>aV.stay hst hI (h.2 u hu)⟩
theorem tree.iW.stay {σ:Type} {R:SR σ} {I I':Nat→Prop} {w w':World} (hst:∀ k,I k→k<w.heap.size→I' k∧w'.heap[k]?=w.heap[k]?) (hI:∀ k,I k→k<w.heap.size) {v:Option (cY σ)} {c:List Value} (h:iW R I w v c):iW R I' w' v c:=⟨h.1,fun u hu=>aV.stay hst hI (h.2 u hu)⟩
theorem row.iW.stay {σ:Type} {R:SR σ} {I I':Nat→Prop} {w w':World} (hst:∀ k,I k→k<w.heap.size→I' k∧w'.heap[k]?=w.heap[k]?) (hI:∀ k,I k→k<w.heap.size) {v:Option (cY σ)} {c:List Value} (h:iW R I w v c):iW R I' w' v c:=⟨h.1,fun u hu=>aV.stay hst hI (h.2 u hu)⟩
theorem int.jC.stay {σ:Type} {R:SR σ} {I I':Nat→Prop} {w w':World} (hst:∀ k,I k→k<w.heap.size→I' k∧w'.heap[k]?=w.heap[k]?) (hI:∀ k,I k→k<w.heap.size) {x:Option (cY σ×cY σ)} {p:Option Nat} (h:jC R I w x p):jC R I' w' x p:=by
 intro v f hx
 obtain ⟨b,cv,cf,h1,h2,h3,h4,h5⟩:=h v f hx
 exact ⟨b,cv,cf,h1,(hst b h2 h3.lt).1,h3.of_block (hst b h2 h3.lt).2,aV.stay hst hI h4,aV.stay hst hI h5⟩
theorem list.jC.stay {σ:Type} {R:SR σ} {I I':Nat→Prop} {w w':World} (hst:∀ k,I k→k<w.heap.size→I' k∧w'.heap[k]?=w.heap[k]?) (hI:∀ k,I k→k<w.heap.size) {x:Option (cY σ×cY σ)} {p:Option Nat} (h:jC R I w x p):jC R I' w' x p:=by
 intro v f hx
 obtain ⟨b,cv,cf,h1,h2,h3,h4,h5⟩:=h v f hx
 exact ⟨b,cv,cf,h1,(hst b h2 h3.lt).1,h3.of_block (hst b h2 h3.lt).2,aV.stay hst hI h4,aV.stay hst hI h5⟩
theorem tree.jC.stay {σ:Type} {R:SR σ} {I I':Nat→Prop} {w w':World} (hst:∀ k,I k→k<w.heap.size→I' k∧w'.heap[k]?=w.heap[k]?) (hI:∀ k,I k→k<w.heap.size) {x:Option (cY σ×cY σ)} {p:Option Nat} (h:jC R I w x p):jC R I' w' x p:=by
 intro v f hx
 obtain ⟨b,cv,cf,h1,h2,h3,h4,h5⟩:=h v f hx
 exact ⟨b,cv,cf,h1,(hst b h2 h3.lt).1,h3.of_block (hst b h2 h3.lt).2,aV.stay hst hI h4,aV.stay hst hI h5⟩
theorem row.jC.stay {σ:Type} {R:SR σ} {I I':Nat→Prop} {w w':World} (hst:∀ k,I k→k<w.heap.size→I' k∧w'.heap[k]?=w.heap[k]?) (hI:∀ k,I k→k<w.heap.size) {x:Option (cY σ×cY σ)} {p:Option Nat} (h:jC R I w x p):jC R I' w' x p:=by
 intro v f hx
 obtain ⟨b,cv,cf,h1,h2,h3,h4,h5⟩:=h v f hx
 exact ⟨b,cv,cf,h1,(hst b h2 h3.lt).1,h3.of_block (hst b h2 h3.lt).2,aV.stay hst hI h4,aV.stay hst hI h5⟩
theorem int.kG.stay {I I':Nat→Prop} {w w':World} (hst:∀ k,I k→k<w.heap.size→I' k∧w'.heap[k]?=w.heap[k]?) (hI:∀ k,I k→k<w.heap.size) {p:List Nat} {v:Value} (h:kG I w p v):kG I' w' p v:=by
 rcases h with h|⟨gp,l,c,h1,h2,h3⟩
 ·exact .inl h
 ·exact .inr ⟨gp,l,c,(hst gp h1 (hI gp h1)).1,h2,Sl.stay h2 h3 (fun q=>(hst gp h1 q).2)⟩
theorem list.kG.stay {I I':Nat→Prop} {w w':World} (hst:∀ k,I k→k<w.heap.size→I' k∧w'.heap[k]?=w.heap[k]?) (hI:∀ k,I k→k<w.heap.size) {p:List Nat} {v:Value} (h:kG I w p v):kG I' w' p v:=by
 rcases h with h|⟨gp,l,c,h1,h2,h3⟩
 ·exact .inl h
 ·exact .inr ⟨gp,l,c,(hst gp h1 (hI gp h1)).1,h2,Sl.stay h2 h3 (fun q=>(hst gp h1 q).2)⟩
theorem tree.kG.stay {I I':Nat→Prop} {w w':World} (hst:∀ k,I k→k<w.heap.size→I' k∧w'.heap[k]?=w.heap[k]?) (hI:∀ k,I k→k<w.heap.size) {p:List Nat} {v:Value} (h:kG I w p v):kG I' w' p v:=by
 rcases h with h|⟨gp,l,c,h1,h2,h3⟩
 ·exact .inl h
 ·exact .inr ⟨gp,l,c,(hst gp h1 (hI gp h1)).1,h2,Sl.stay h2 h3 (fun q=>(hst gp h1 q).2)⟩
theorem row.kG.stay {I I':Nat→Prop} {w w':World} (hst:∀ k,I k→k<w.heap.size→I' k∧w'.heap[k]?=w.heap[k]?) (hI:∀ k,I k→k<w.heap.size) {p:List Nat} {v:Value} (h:kG I w p v):kG I' w' p v:=by
 rcases h with h|⟨gp,l,c,h1,h2,h3⟩
 ·exact .inl h
 ·exact .inr ⟨gp,l,c,(hst gp h1 (hI gp h1)).1,h2,Sl.stay h2 h3 (fun q=>(hst gp h1 q).2)⟩
theorem int.gC.stay {σ:Type} {R:SR σ} {I I':Nat→Prop} {w w':World} (hst:∀ k,I k→k<w.heap.size→I' k∧w'.heap[k]?=w.heap[k]?) (hI:∀ k,I k→k<w.heap.size) {L:Lt} {t:Nat} {e:aS σ} {f:Nat→Value} {cv cf:List Value} {pv:Value} (h:gC R L I w t e f cv cf pv):gC R L I' w' t e f cv cf pv :=
 ⟨h.like,iW.stay hst hI h.now,iW.stay hst hI h.cD,kG.stay hst hI h.aJ⟩
theorem list.gC.stay {σ:Type} {R:SR σ} {I I':Nat→Prop} {w w':World} (hst:∀ k,I k→k<w.heap.size→I' k∧w'.heap[k]?=w.heap[k]?) (hI:∀ k,I k→k<w.heap.size) {L:Lt} {t:Nat} {e:aS σ} {f:Nat→Value} {cv cf:List Value} {pv:Value} (h:gC R L I w t e f cv cf pv):gC R L I' w' t e f cv cf pv :=
 ⟨h.like,iW.stay hst hI h.now,iW.stay hst hI h.cD,kG.stay hst hI h.aJ⟩
theorem tree.gC.stay {σ:Type} {R:SR σ} {I I':Nat→Prop} {w w':World} (hst:∀ k,I k→k<w.heap.size→I' k∧w'.heap[k]?=w.heap[k]?) (hI:∀ k,I k→k<w.heap.size) {L:Lt} {t:Nat} {e:aS σ} {f:Nat→Value} {cv cf:List Value} {pv:Value} (h:gC R L I w t e f cv cf pv):gC R L I' w' t e f cv cf pv :=
 ⟨h.like,iW.stay hst hI h.now,iW.stay hst hI h.cD,kG.stay hst hI h.aJ⟩
theorem row.gC.stay {σ:Type} {R:SR σ} {I I':Nat→Prop} {w w':World} (hst:∀ k,I k→k<w.heap.size→I' k∧w'.heap[k]?=w.heap[k]?) (hI:∀ k,I k→k<w.heap.size) {L:Lt} {t:Nat} {e:aS σ} {f:Nat→Value} {cv cf:List Value} {pv:Value} (h:gC R L I w t e f cv cf pv):gC R L I' w' t e f cv cf pv :=
 ⟨h.like,iW.stay hst hI h.now,iW.stay hst hI h.cD,kG.stay hst hI h.aJ⟩
end Go.Proofs.YtefjhnhdagolhaaGreat
