import Derived.Test.YtefjhnhdagolhabGreatQ02
import Derived.Test.YtefjhnhdagolhabGreatQ01
namespace Go.Proofs.YtefjhnhdagolhabGreat
namespace int
end int
namespace list
end list
namespace tree
end tree
namespace row
end row
open int list tree
open Go.RowKit
open M (aH aC aE Op cY aS aK tw aR)
structure int.Lt where
 n:Nat
 cap:Nat
 oT:TypeId
 ov:Value
 bE:Nat
 bS:Nat
 aZ:Nat
 aX:Nat
 bP:Nat
 bW:Nat→Nat
 g:Nat
 gc:Nat
 gD:Nat→Nat
 gG:Nat→Nat
def int.Lt.own (L:Lt) (k:Nat):Prop:=k=L.bS∨k=L.aZ∨k=L.aX∨k=L.bP∨(∃ r,r<2*L.n+1∧k=L.bW r)∨k=L.g∨∃ t,t<L.n∧(k=L.gD t∨k=L.gG t)
structure int.Lt.Ok (L:Lt):Prop where
 n1:1≤L.n
 n64:L.n≤64
 WU:L.cap≤64
 gn:L.n≤L.gc
 tw:∀ r,r<2*L.n+1→L.aZ≠L.bW r
 ww:∀ r s,r<2*L.n+1→s<2*L.n+1→L.bW r=L.bW s→r=s
 dg:∀ t u,t<L.n→u<L.n→L.gD t≠L.gG u
 dd:∀ t u,t<L.n→u<L.n→L.gD t=L.gD u→t=u
 gg:∀ t u,t<L.n→u<L.n→L.gG t=L.gG u→t=u
structure int.SR (σ:Type) where
 sz:σ→Nat
 rep:(Nat→Prop)→World→σ→List Value→Prop
 len:∀ {I w s c},rep I w s c→c.length=1
 shape:∀ {I w s c},rep I w s c→∀ v∈c,∃ z,v=(Value.int .i64) z
 stay:∀ {I I':Nat→Prop} {w w':World} {s c},(∀ k,I k→k<w.heap.size→I' k∧w'.heap[k]?=w.heap[k]?)→rep I w s c→rep I' w' s c
structure list.SR (σ:Type) where
 sz:σ→Nat
 rep:(Nat→Prop)→World→σ→List Value→Prop
 len:∀ {I w s c},rep I w s c→c.length=1
 shape:∀ {I w s c},rep I w s c→∀ v∈c,∃ z,v=(Value.pointer) z
 stay:∀ {I I':Nat→Prop} {w w':World} {s c},(∀ k,I k→k<w.heap.size→I' k∧w'.heap[k]?=w.heap[k]?)→rep I w s c→rep I' w' s c
structure tree.SR (σ:Type) where
 sz:σ→Nat
 rep:(Nat→Prop)→World→σ→List Value→Prop
 len:∀ {I w s c},rep I w s c→c.length=1
 shape:∀ {I w s c},rep I w s c→∀ v∈c,∃ z,v=(Value.pointer) z
 stay:∀ {I I':Nat→Prop} {w w':World} {s c},(∀ k,I k→k<w.heap.size→I' k∧w'.heap[k]?=w.heap[k]?)→rep I w s c→rep I' w' s c
structure row.SR (σ:Type) where
 sz:σ→Nat
 rep:(Nat→Prop)→World→σ→List Value→Prop
 len:∀ {I w s c},rep I w s c→c.length=2
 shape:∀ {I w s c},rep I w s c→∀ v∈c,∃ z,v=(Value.pointer) z
 stay:∀ {I I':Nat→Prop} {w w':World} {s c},(∀ k,I k→k<w.heap.size→I' k∧w'.heap[k]?=w.heap[k]?)→rep I w s c→rep I' w' s c
def int.cO (I:Nat→Prop) (w:World):List (Nat×List Nat)→Nat→Prop
 |[],b=>I b∧Row w b 204 [.int .i64 0,.slice none 0 0,.pointer none]
 |(q,p)::bs,b=>∃ v b',I b∧Row w b 204 [.int .i64 (q:Int),v,.pointer (some ⟨b',0,none⟩)]∧(∃ gp,I gp∧Sl w v (ints (p.map Int.ofNat))∧∃ l c,v = .slice (some ⟨gp,0,none⟩) l c)∧cO I w bs b'
def int.aV {σ:Type} (R:SR σ) (I:Nat→Prop) (w:World) (v:cY σ) (c:List Value):Prop:=∃ sc b,c=sc++[.pointer (some ⟨b,0,none⟩)]∧R.rep I w v.st sc∧cO I w v.bs.reverse b
def list.aV {σ:Type} (R:SR σ) (I:Nat→Prop) (w:World) (v:cY σ) (c:List Value):Prop:=∃ sc b,c=sc++[.pointer (some ⟨b,0,none⟩)]∧R.rep I w v.st sc∧cO I w v.bs.reverse b
def tree.aV {σ:Type} (R:SR σ) (I:Nat→Prop) (w:World) (v:cY σ) (c:List Value):Prop:=∃ sc b,c=sc++[.pointer (some ⟨b,0,none⟩)]∧R.rep I w v.st sc∧cO I w v.bs.reverse b
def row.aV {σ:Type} (R:SR σ) (I:Nat→Prop) (w:World) (v:cY σ) (c:List Value):Prop:=∃ sc b,c=sc++[.pointer (some ⟨b,0,none⟩)]∧R.rep I w v.st sc∧cO I w v.bs.reverse b
theorem int.SR.one {σ:Type} (R:SR σ) {I:Nat→Prop} {w:World} {s:σ} {c:List Value} (h:R.rep I w s c):∀ v∈c,v.oneCell'=true:=by
 intro v hv
 obtain ⟨z,rfl⟩:=R.shape h v hv
 rfl
theorem list.SR.one {σ:Type} (R:SR σ) {I:Nat→Prop} {w:World} {s:σ} {c:List Value} (h:R.rep I w s c):∀ v∈c,v.oneCell'=true:=by
 intro v hv
 obtain ⟨z,rfl⟩:=R.shape h v hv
 rfl
theorem tree.SR.one {σ:Type} (R:SR σ) {I:Nat→Prop} {w:World} {s:σ} {c:List Value} (h:R.rep I w s c):∀ v∈c,v.oneCell'=true:=by
 intro v hv
 obtain ⟨z,rfl⟩:=R.shape h v hv
 rfl
theorem row.SR.one {σ:Type} (R:SR σ) {I:Nat→Prop} {w:World} {s:σ} {c:List Value} (h:R.rep I w s c):∀ v∈c,v.oneCell'=true:=by
 intro v hv
 obtain ⟨z,rfl⟩:=R.shape h v hv
 rfl
theorem int.aV.one {σ:Type} (R:SR σ) {I:Nat→Prop} {w:World} {v:cY σ} {c:List Value} (h:aV R I w v c):∀ u∈c,u.oneCell'=true:=by
 obtain ⟨sc,b,rfl,h1,-⟩:=h
 intro u hu
 rcases List.mem_append.1 hu with hu|hu
 ·exact SR.one R h1 u hu
 ·rw [List.mem_singleton.1 hu];rfl
theorem list.aV.one {σ:Type} (R:SR σ) {I:Nat→Prop} {w:World} {v:cY σ} {c:List Value} (h:aV R I w v c):∀ u∈c,u.oneCell'=true:=by
 obtain ⟨sc,b,rfl,h1,-⟩:=h
 intro u hu
 rcases List.mem_append.1 hu with hu|hu
 ·exact SR.one R h1 u hu
 ·rw [List.mem_singleton.1 hu];rfl
theorem tree.aV.one {σ:Type} (R:SR σ) {I:Nat→Prop} {w:World} {v:cY σ} {c:List Value} (h:aV R I w v c):∀ u∈c,u.oneCell'=true:=by
 obtain ⟨sc,b,rfl,h1,-⟩:=h
 intro u hu
 rcases List.mem_append.1 hu with hu|hu
 ·exact SR.one R h1 u hu
 ·rw [List.mem_singleton.1 hu];rfl
theorem row.aV.one {σ:Type} (R:SR σ) {I:Nat→Prop} {w:World} {v:cY σ} {c:List Value} (h:aV R I w v c):∀ u∈c,u.oneCell'=true:=by
 obtain ⟨sc,b,rfl,h1,-⟩:=h
 intro u hu
 rcases List.mem_append.1 hu with hu|hu
 ·exact SR.one R h1 u hu
 ·rw [List.mem_singleton.1 hu];rfl
theorem int.aV.len {σ:Type} (R:SR σ) {I:Nat→Prop} {w:World} {v:cY σ} {c:List Value} (h:aV R I w v c):c.length=1+1:=by
 obtain ⟨sc,b,rfl,h1,-⟩:=h
 simp [R.len h1]
theorem list.aV.len {σ:Type} (R:SR σ) {I:Nat→Prop} {w:World} {v:cY σ} {c:List Value} (h:aV R I w v c):c.length=1+1:=by
 obtain ⟨sc,b,rfl,h1,-⟩:=h
 simp [R.len h1]
theorem tree.aV.len {σ:Type} (R:SR σ) {I:Nat→Prop} {w:World} {v:cY σ} {c:List Value} (h:aV R I w v c):c.length=1+1:=by
 obtain ⟨sc,b,rfl,h1,-⟩:=h
 simp [R.len h1]
theorem row.aV.len {σ:Type} (R:SR σ) {I:Nat→Prop} {w:World} {v:cY σ} {c:List Value} (h:aV R I w v c):c.length=2+1:=by
 obtain ⟨sc,b,rfl,h1,-⟩:=h
 simp [R.len h1]
def int.iN {σ:Type} (R:SR σ) (I:Nat→Prop) (w:World) (v:Option (cY σ)) (c:List Value):Prop:=c.length=1+1∧∀ u,v=some u→aV R I w u c
def list.iN {σ:Type} (R:SR σ) (I:Nat→Prop) (w:World) (v:Option (cY σ)) (c:List Value):Prop:=c.length=1+1∧∀ u,v=some u→aV R I w u c
def tree.iN {σ:Type} (R:SR σ) (I:Nat→Prop) (w:World) (v:Option (cY σ)) (c:List Value):Prop:=c.length=1+1∧∀ u,v=some u→aV R I w u c
def row.iN {σ:Type} (R:SR σ) (I:Nat→Prop) (w:World) (v:Option (cY σ)) (c:List Value):Prop:=c.length=2+1∧∀ u,v=some u→aV R I w u c
def int.iU {σ:Type} (R:SR σ) (I:Nat→Prop) (w:World) (x:Option (cY σ×cY σ)) (p:Option Nat):Prop :=
 ∀ v f,x=some (v,f)→∃ b cv cf,p=some b∧I b∧Row w b 122 (cv++cf)∧aV R I w v cv∧aV R I w f cf
def list.iU {σ:Type} (R:SR σ) (I:Nat→Prop) (w:World) (x:Option (cY σ×cY σ)) (p:Option Nat):Prop :=
 ∀ v f,x=some (v,f)→∃ b cv cf,p=some b∧I b∧Row w b 136 (cv++cf)∧aV R I w v cv∧aV R I w f cf
def tree.iU {σ:Type} (R:SR σ) (I:Nat→Prop) (w:World) (x:Option (cY σ×cY σ)) (p:Option Nat):Prop :=
 ∀ v f,x=some (v,f)→∃ b cv cf,p=some b∧I b∧Row w b 164 (cv++cf)∧aV R I w v cv∧aV R I w f cf
def row.iU {σ:Type} (R:SR σ) (I:Nat→Prop) (w:World) (x:Option (cY σ×cY σ)) (p:Option Nat):Prop :=
 ∀ v f,x=some (v,f)→∃ b cv cf,p=some b∧I b∧Row w b 150 (cv++cf)∧aV R I w v cv∧aV R I w f cf
def int.kD (I:Nat→Prop) (w:World) (p:List Nat) (v:Value):Prop:=(v = .slice none 0 0∧p=[])∨∃ gp l c,I gp∧v = .slice (some ⟨gp,0,none⟩) l c∧Sl w v (ints (p.map Int.ofNat))
def int.aO {σ:Type} (L:Lt) (t:Nat) (e:aS σ) (cv cf:List Value) (pv:Value):List Value :=
 [.pointer (some ⟨L.bS,0,none⟩),.int .i64 (t:Int),.int .i64 (L.cap:Int),.int .i64 (e.phase:Int),.int .i64 (e.past:Int),.int .i64 e.op.c,.int .i64 e.op.a,.int .i64 e.op.b,.bool e.cP,.int .i64 (e.aG:Int),.bool e.again,.int .i64 (e.spare:Int),.int .i64 (e.kept:Int),.int .i64 ((e.stamp:Int)*129+(e.aQ:Int)),
  .slice (some ⟨L.gD t,0,none⟩) (aR L.n) (aR L.n)]++cv++cf++[.slice (some ⟨L.gG t,0,none⟩) (M.tw L.n) (M.tw L.n),pv,.int .i64 (e.heard 0),.int .i64 (e.heard 1),.int .i64 (e.heard 2),.int .i64 (e.found:Int),.int .i64 e.xG,.int .i64 e.val,.bool e.ended]
def list.aO {σ:Type} (L:Lt) (t:Nat) (e:aS σ) (cv cf:List Value) (pv:Value):List Value :=
 [.pointer (some ⟨L.bS,0,none⟩),.int .i64 (t:Int),.int .i64 (L.cap:Int),.int .i64 (e.phase:Int),.int .i64 (e.past:Int),.int .i64 e.op.c,.int .i64 e.op.a,.int .i64 e.op.b,.bool e.cP,.int .i64 (e.aG:Int),.bool e.again,.int .i64 (e.spare:Int),.int .i64 (e.kept:Int),.int .i64 ((e.stamp:Int)*129+(e.aQ:Int)),
  .slice (some ⟨L.gD t,0,none⟩) (aR L.n) (aR L.n)]++cv++cf++[.slice (some ⟨L.gG t,0,none⟩) (M.tw L.n) (M.tw L.n),pv,.int .i64 (e.heard 0),.int .i64 (e.heard 1),.int .i64 (e.heard 2),.int .i64 (e.found:Int),.int .i64 e.xG,.int .i64 e.val,.bool e.ended]
def tree.aO {σ:Type} (L:Lt) (t:Nat) (e:aS σ) (cv cf:List Value) (pv:Value):List Value :=
 [.pointer (some ⟨L.bS,0,none⟩),.int .i64 (t:Int),.int .i64 (L.cap:Int),.int .i64 (e.phase:Int),.int .i64 (e.past:Int),.int .i64 e.op.c,.int .i64 e.op.a,.int .i64 e.op.b,.bool e.cP,.int .i64 (e.aG:Int),.bool e.again,.int .i64 (e.spare:Int),.int .i64 (e.kept:Int),.int .i64 ((e.stamp:Int)*129+(e.aQ:Int)),
  .slice (some ⟨L.gD t,0,none⟩) (aR L.n) (aR L.n)]++cv++cf++[.slice (some ⟨L.gG t,0,none⟩) (M.tw L.n) (M.tw L.n),pv,.int .i64 (e.heard 0),.int .i64 (e.heard 1),.int .i64 (e.heard 2),.int .i64 (e.found:Int),.int .i64 e.xG,.int .i64 e.val,.bool e.ended]
def row.aO {σ:Type} (L:Lt) (t:Nat) (e:aS σ) (cv cf:List Value) (pv:Value):List Value :=
 [.pointer (some ⟨L.bS,0,none⟩),.int .i64 (t:Int),.int .i64 (L.cap:Int),.int .i64 (e.phase:Int),.int .i64 (e.past:Int),.int .i64 e.op.c,.int .i64 e.op.a,.int .i64 e.op.b,.bool e.cP,.int .i64 (e.aG:Int),.bool e.again,.int .i64 (e.spare:Int),.int .i64 (e.kept:Int),.int .i64 ((e.stamp:Int)*129+(e.aQ:Int)),
  .slice (some ⟨L.gD t,0,none⟩) (aR L.n) (aR L.n)]++cv++cf++[.slice (some ⟨L.gG t,0,none⟩) (M.tw L.n) (M.tw L.n),pv,.int .i64 (e.heard 0),.int .i64 (e.heard 1),.int .i64 (e.heard 2),.int .i64 (e.found:Int),.int .i64 e.xG,.int .i64 e.val,.bool e.ended]
structure int.fY {σ:Type} (R:SR σ) (L:Lt) (I:Nat→Prop) (w:World) (t:Nat) (e:aS σ) (f:Nat→Value) (cv cf:List Value) (pv:Value):Prop where
 like:MD f (aO L t e cv cf pv)
 now:iN R I w e.now cv
 cC:iN R I w e.cC cf
 aI:kD I w e.aI pv
structure list.fY {σ:Type} (R:SR σ) (L:Lt) (I:Nat→Prop) (w:World) (t:Nat) (e:aS σ) (f:Nat→Value) (cv cf:List Value) (pv:Value):Prop where
 like:MD f (aO L t e cv cf pv)
 now:iN R I w e.now cv
 cC:iN R I w e.cC cf
 aI:kD I w e.aI pv
structure tree.fY {σ:Type} (R:SR σ) (L:Lt) (I:Nat→Prop) (w:World) (t:Nat) (e:aS σ) (f:Nat→Value) (cv cf:List Value) (pv:Value):Prop where
 like:MD f (aO L t e cv cf pv)
 now:iN R I w e.now cv
 cC:iN R I w e.cC cf
 aI:kD I w e.aI pv
structure row.fY {σ:Type} (R:SR σ) (L:Lt) (I:Nat→Prop) (w:World) (t:Nat) (e:aS σ) (f:Nat→Value) (cv cf:List Value) (pv:Value):Prop where
 like:MD f (aO L t e cv cf pv)
 now:iN R I w e.now cv
 cC:iN R I w e.cC cf
 aI:kD I w e.aI pv
structure int.RE {σ:Type} (R:SR σ) (L:Lt) (S:Nat→Prop) (E:aK σ) (w:World):Prop where
 ok:L.Ok
 qM:Row w L.bE 114 [.pointer (some ⟨L.bS,0,none⟩),.slice (some ⟨L.g,0,none⟩) L.n L.gc,.int .i64 (L.cap:Int)]
 pJ:S L.bE∧¬L.own L.bE
 sh:Row w L.bS 194 [.int .i64 (L.n:Int),.iface L.oT L.ov,.slice (some ⟨L.aZ,0,none⟩) (M.tw L.n) (M.tw L.n),.slice (some ⟨L.aX,0,none⟩) L.n L.n,.slice (some ⟨L.bP,0,none⟩) (2*L.n+1) (2*L.n+1),.int .i64 ((E.cZ:Int)*129+(E.prec:Int))]
 tg:Fn w L.aZ 299 (M.tw L.n) (fun i=>.int .i64 (E.bD i))
 an:vJ w L.aX 300 L.n 3 (fun t i=>.int .i64 (E.eJ t i))
 po:∃ sp:Nat→Option Nat,vJ w L.bP 202 (2*L.n+1) 2 (fun r j=>if j=0 then .slice (some ⟨L.bW r,0,none⟩) (aR L.n) (aR L.n) else .pointer ((sp r).map fun b=>⟨b,0,none⟩))∧∀ r,r<2*L.n+1→iU R (fun k=>S k∧¬L.own k) w (E.eV r) (sp r)
 rw:∀ r,r<2*L.n+1→Fn w (L.bW r) 299 (aR L.n) (fun i=>.int .i64 (E.rw r i))
 th:∃ T,vJ w L.g 126 L.gc 28 T∧∀ t,t<L.n→∃ cv cf pv,fY R L (fun k=>S k∧¬L.own k) w t (E.th t) (T t) cv cf pv
 gd:∀ t,t<L.n→Fn w (L.gD t) 3 (aR L.n) (fun i=>.int .i64 ((E.th t).dw i))
 gg:∀ t,t<L.n→Fn w (L.gG t) 3 (M.tw L.n) (fun i=>.int .i64 ((E.th t).tg i))
 ow:∀ k,L.own k→S k
 lt:∀ k,S k→k<w.heap.size
structure list.RE {σ:Type} (R:SR σ) (L:Lt) (S:Nat→Prop) (E:aK σ) (w:World):Prop where
 ok:L.Ok
 qM:Row w L.bE 132 [.pointer (some ⟨L.bS,0,none⟩),.slice (some ⟨L.g,0,none⟩) L.n L.gc,.int .i64 (L.cap:Int)]
 pJ:S L.bE∧¬L.own L.bE
 sh:Row w L.bS 208 [.int .i64 (L.n:Int),.iface L.oT L.ov,.slice (some ⟨L.aZ,0,none⟩) (M.tw L.n) (M.tw L.n),.slice (some ⟨L.aX,0,none⟩) L.n L.n,.slice (some ⟨L.bP,0,none⟩) (2*L.n+1) (2*L.n+1),.int .i64 ((E.cZ:Int)*129+(E.prec:Int))]
 tg:Fn w L.aZ 299 (M.tw L.n) (fun i=>.int .i64 (E.bD i))
 an:vJ w L.aX 300 L.n 3 (fun t i=>.int .i64 (E.eJ t i))
 po:∃ sp:Nat→Option Nat,vJ w L.bP 216 (2*L.n+1) 2 (fun r j=>if j=0 then .slice (some ⟨L.bW r,0,none⟩) (aR L.n) (aR L.n) else .pointer ((sp r).map fun b=>⟨b,0,none⟩))∧∀ r,r<2*L.n+1→iU R (fun k=>S k∧¬L.own k) w (E.eV r) (sp r)
 rw:∀ r,r<2*L.n+1→Fn w (L.bW r) 299 (aR L.n) (fun i=>.int .i64 (E.rw r i))
 th:∃ T,vJ w L.g 140 L.gc 28 T∧∀ t,t<L.n→∃ cv cf pv,fY R L (fun k=>S k∧¬L.own k) w t (E.th t) (T t) cv cf pv
 gd:∀ t,t<L.n→Fn w (L.gD t) 3 (aR L.n) (fun i=>.int .i64 ((E.th t).dw i))
 gg:∀ t,t<L.n→Fn w (L.gG t) 3 (M.tw L.n) (fun i=>.int .i64 ((E.th t).tg i))
 ow:∀ k,L.own k→S k
 lt:∀ k,S k→k<w.heap.size
structure tree.RE {σ:Type} (R:SR σ) (L:Lt) (S:Nat→Prop) (E:aK σ) (w:World):Prop where
 ok:L.Ok
 qM:Row w L.bE 160 [.pointer (some ⟨L.bS,0,none⟩),.slice (some ⟨L.g,0,none⟩) L.n L.gc,.int .i64 (L.cap:Int)]
 pJ:S L.bE∧¬L.own L.bE
 sh:Row w L.bS 234 [.int .i64 (L.n:Int),.iface L.oT L.ov,.slice (some ⟨L.aZ,0,none⟩) (M.tw L.n) (M.tw L.n),.slice (some ⟨L.aX,0,none⟩) L.n L.n,.slice (some ⟨L.bP,0,none⟩) (2*L.n+1) (2*L.n+1),.int .i64 ((E.cZ:Int)*129+(E.prec:Int))]
 tg:Fn w L.aZ 299 (M.tw L.n) (fun i=>.int .i64 (E.bD i))
 an:vJ w L.aX 300 L.n 3 (fun t i=>.int .i64 (E.eJ t i))
 po:∃ sp:Nat→Option Nat,vJ w L.bP 242 (2*L.n+1) 2 (fun r j=>if j=0 then .slice (some ⟨L.bW r,0,none⟩) (aR L.n) (aR L.n) else .pointer ((sp r).map fun b=>⟨b,0,none⟩))∧∀ r,r<2*L.n+1→iU R (fun k=>S k∧¬L.own k) w (E.eV r) (sp r)
 rw:∀ r,r<2*L.n+1→Fn w (L.bW r) 299 (aR L.n) (fun i=>.int .i64 (E.rw r i))
 th:∃ T,vJ w L.g 168 L.gc 28 T∧∀ t,t<L.n→∃ cv cf pv,fY R L (fun k=>S k∧¬L.own k) w t (E.th t) (T t) cv cf pv
 gd:∀ t,t<L.n→Fn w (L.gD t) 3 (aR L.n) (fun i=>.int .i64 ((E.th t).dw i))
 gg:∀ t,t<L.n→Fn w (L.gG t) 3 (M.tw L.n) (fun i=>.int .i64 ((E.th t).tg i))
 ow:∀ k,L.own k→S k
 lt:∀ k,S k→k<w.heap.size
structure row.RE {σ:Type} (R:SR σ) (L:Lt) (S:Nat→Prop) (E:aK σ) (w:World):Prop where
 ok:L.Ok
 qM:Row w L.bE 146 [.pointer (some ⟨L.bS,0,none⟩),.slice (some ⟨L.g,0,none⟩) L.n L.gc,.int .i64 (L.cap:Int)]
 pJ:S L.bE∧¬L.own L.bE
 sh:Row w L.bS 221 [.int .i64 (L.n:Int),.iface L.oT L.ov,.slice (some ⟨L.aZ,0,none⟩) (M.tw L.n) (M.tw L.n),.slice (some ⟨L.aX,0,none⟩) L.n L.n,.slice (some ⟨L.bP,0,none⟩) (2*L.n+1) (2*L.n+1),.int .i64 ((E.cZ:Int)*129+(E.prec:Int))]
 tg:Fn w L.aZ 299 (M.tw L.n) (fun i=>.int .i64 (E.bD i))
 an:vJ w L.aX 300 L.n 3 (fun t i=>.int .i64 (E.eJ t i))
 po:∃ sp:Nat→Option Nat,vJ w L.bP 229 (2*L.n+1) 2 (fun r j=>if j=0 then .slice (some ⟨L.bW r,0,none⟩) (aR L.n) (aR L.n) else .pointer ((sp r).map fun b=>⟨b,0,none⟩))∧∀ r,r<2*L.n+1→iU R (fun k=>S k∧¬L.own k) w (E.eV r) (sp r)
 rw:∀ r,r<2*L.n+1→Fn w (L.bW r) 299 (aR L.n) (fun i=>.int .i64 (E.rw r i))
 th:∃ T,vJ w L.g 154 L.gc 30 T∧∀ t,t<L.n→∃ cv cf pv,fY R L (fun k=>S k∧¬L.own k) w t (E.th t) (T t) cv cf pv
 gd:∀ t,t<L.n→Fn w (L.gD t) 3 (aR L.n) (fun i=>.int .i64 ((E.th t).dw i))
 gg:∀ t,t<L.n→Fn w (L.gG t) 3 (M.tw L.n) (fun i=>.int .i64 ((E.th t).tg i))
 ow:∀ k,L.own k→S k
 lt:∀ k,S k→k<w.heap.size
theorem int.Sl.block {w w':World} {v:Value} {xs:List Value} {gp l c:Nat} (hv:v = .slice (some ⟨gp,0,none⟩) l c) (h:Sl w v xs) (e:w'.heap[gp]?=w.heap[gp]?):Sl w' v xs:=by
 obtain ⟨a,cap,MV,h1,h2,h3⟩:=h
 refine ⟨a,cap,MV,h1,h2,?_⟩
 rcases h3 with h3|⟨g,off,ha,h3⟩
 ·exact .inl h3
 ·refine .inr ⟨g,off,ha,fun j x hj=>?_⟩
  have:g=gp:=by
   rw [hv] at MV
   injection MV with q1
   rw [ha] at q1
   injection q1 with q2
   injection q2 with q3
   exact q3.symm
  subst this
  rw [World.cell?_of_block (w:=w) (a:=⟨g,off+j,none⟩) e]
  exact h3 j x hj
theorem int.Sl.lt {w:World} {v:Value} {xs:List Value} {gp l c:Nat} (hv:v = .slice (some ⟨gp,0,none⟩) l c) (h:Sl w v xs) (hx:xs≠[]):gp<w.heap.size:=by
 obtain ⟨a,cap,MV,h1,h2,h3⟩:=h
 rcases h3 with h3|⟨g,off,ha,h3⟩
 ·exact absurd h3 hx
 ·have:g=gp:=by
   rw [hv] at MV
   injection MV with q1
   rw [ha] at q1
   injection q1 with q2
   injection q2 with q3
   exact q3.symm
  subst this
  obtain ⟨x,hx0⟩:∃ x,xs[0]?=some x:=by cases xs with|nil=>exact absurd rfl hx|cons x r=>exact ⟨x,rfl⟩
  exact World.block_lt_of_cell? w _ (h3 0 x hx0)
theorem int.Sl.stay {w w':World} {v:Value} {xs:List Value} {gp l c:Nat} (hv:v = .slice (some ⟨gp,0,none⟩) l c) (h:Sl w v xs) (e:gp<w.heap.size→w'.heap[gp]?=w.heap[gp]?):Sl w' v xs:=by
 by_cases hx:xs=[]
 ·obtain ⟨a,cap,MV,h1,h2,h3⟩:=h
  exact ⟨a,cap,MV,h1,h2,.inl hx⟩
 ·exact Sl.block hv h (e (Sl.lt hv h hx))
theorem list.Sl.stay {w w':World} {v:Value} {xs:List Value} {gp l c:Nat} (hv:v = .slice (some ⟨gp,0,none⟩) l c) (h:Sl w v xs) (e:gp<w.heap.size→w'.heap[gp]?=w.heap[gp]?):Sl w' v xs:=by
 by_cases hx:xs=[]
 ·obtain ⟨a,cap,MV,h1,h2,h3⟩:=h
  exact ⟨a,cap,MV,h1,h2,.inl hx⟩
 ·exact Sl.block hv h (e (Sl.lt hv h hx))
theorem tree.Sl.stay {w w':World} {v:Value} {xs:List Value} {gp l c:Nat} (hv:v = .slice (some ⟨gp,0,none⟩) l c) (h:Sl w v xs) (e:gp<w.heap.size→w'.heap[gp]?=w.heap[gp]?):Sl w' v xs:=by
 by_cases hx:xs=[]
 ·obtain ⟨a,cap,MV,h1,h2,h3⟩:=h
  exact ⟨a,cap,MV,h1,h2,.inl hx⟩
 ·exact Sl.block hv h (e (Sl.lt hv h hx))
theorem row.Sl.stay {w w':World} {v:Value} {xs:List Value} {gp l c:Nat} (hv:v = .slice (some ⟨gp,0,none⟩) l c) (h:Sl w v xs) (e:gp<w.heap.size→w'.heap[gp]?=w.heap[gp]?):Sl w' v xs:=by
 by_cases hx:xs=[]
 ·obtain ⟨a,cap,MV,h1,h2,h3⟩:=h
  exact ⟨a,cap,MV,h1,h2,.inl hx⟩
 ·exact Sl.block hv h (e (Sl.lt hv h hx))
theorem int.cO.stay {I I':Nat→Prop} {w w':World} (hst:∀ k,I k→k<w.heap.size→I' k∧w'.heap[k]?=w.heap[k]?) (hI:∀ k,I k→k<w.heap.size):∀ (bs:List (Nat×List Nat)) (b:Nat),cO I w bs b→cO I' w' bs b
 |[],b,h=>⟨(hst b h.1 h.2.lt).1,h.2.of_block (hst b h.1 h.2.lt).2⟩
 |(q,p)::bs,b,h=>by
  obtain ⟨v,b',h1,h2,⟨gp,g1,g2,l,c,g3⟩,h4⟩:=h
  exact ⟨v,b',(hst b h1 h2.lt).1,h2.of_block (hst b h1 h2.lt).2,⟨gp,(hst gp g1 (hI gp g1)).1,Sl.stay g3 g2 (fun q=>(hst gp g1 q).2),l,c,g3⟩,cO.stay hst hI bs b' h4⟩
theorem list.cO.stay {I I':Nat→Prop} {w w':World} (hst:∀ k,I k→k<w.heap.size→I' k∧w'.heap[k]?=w.heap[k]?) (hI:∀ k,I k→k<w.heap.size):∀ (bs:List (Nat×List Nat)) (b:Nat),cO I w bs b→cO I' w' bs b
 |[],b,h=>⟨(hst b h.1 h.2.lt).1,h.2.of_block (hst b h.1 h.2.lt).2⟩
 |(q,p)::bs,b,h=>by
  obtain ⟨v,b',h1,h2,⟨gp,g1,g2,l,c,g3⟩,h4⟩:=h
  exact ⟨v,b',(hst b h1 h2.lt).1,h2.of_block (hst b h1 h2.lt).2,⟨gp,(hst gp g1 (hI gp g1)).1,Sl.stay g3 g2 (fun q=>(hst gp g1 q).2),l,c,g3⟩,cO.stay hst hI bs b' h4⟩
theorem tree.cO.stay {I I':Nat→Prop} {w w':World} (hst:∀ k,I k→k<w.heap.size→I' k∧w'.heap[k]?=w.heap[k]?) (hI:∀ k,I k→k<w.heap.size):∀ (bs:List (Nat×List Nat)) (b:Nat),cO I w bs b→cO I' w' bs b
 |[],b,h=>⟨(hst b h.1 h.2.lt).1,h.2.of_block (hst b h.1 h.2.lt).2⟩
 |(q,p)::bs,b,h=>by
  obtain ⟨v,b',h1,h2,⟨gp,g1,g2,l,c,g3⟩,h4⟩:=h
  exact ⟨v,b',(hst b h1 h2.lt).1,h2.of_block (hst b h1 h2.lt).2,⟨gp,(hst gp g1 (hI gp g1)).1,Sl.stay g3 g2 (fun q=>(hst gp g1 q).2),l,c,g3⟩,cO.stay hst hI bs b' h4⟩
theorem row.cO.stay {I I':Nat→Prop} {w w':World} (hst:∀ k,I k→k<w.heap.size→I' k∧w'.heap[k]?=w.heap[k]?) (hI:∀ k,I k→k<w.heap.size):∀ (bs:List (Nat×List Nat)) (b:Nat),cO I w bs b→cO I' w' bs b
 |[],b,h=>⟨(hst b h.1 h.2.lt).1,h.2.of_block (hst b h.1 h.2.lt).2⟩
 |(q,p)::bs,b,h=>by
  obtain ⟨v,b',h1,h2,⟨gp,g1,g2,l,c,g3⟩,h4⟩:=h
  exact ⟨v,b',(hst b h1 h2.lt).1,h2.of_block (hst b h1 h2.lt).2,⟨gp,(hst gp g1 (hI gp g1)).1,Sl.stay g3 g2 (fun q=>(hst gp g1 q).2),l,c,g3⟩,cO.stay hst hI bs b' h4⟩
theorem int.aV.stay {σ:Type} {R:SR σ} {I I':Nat→Prop} {w w':World} (hst:∀ k,I k→k<w.heap.size→I' k∧w'.heap[k]?=w.heap[k]?) (hI:∀ k,I k→k<w.heap.size) {v:cY σ} {c:List Value} (h:aV R I w v c):aV R I' w' v c:=by
 obtain ⟨sc,b,h1,h2,h3⟩:=h
 exact ⟨sc,b,h1,R.stay hst h2,cO.stay hst hI _ _ h3⟩
theorem list.aV.stay {σ:Type} {R:SR σ} {I I':Nat→Prop} {w w':World} (hst:∀ k,I k→k<w.heap.size→I' k∧w'.heap[k]?=w.heap[k]?) (hI:∀ k,I k→k<w.heap.size) {v:cY σ} {c:List Value} (h:aV R I w v c):aV R I' w' v c:=by
 obtain ⟨sc,b,h1,h2,h3⟩:=h
 exact ⟨sc,b,h1,R.stay hst h2,cO.stay hst hI _ _ h3⟩
theorem tree.aV.stay {σ:Type} {R:SR σ} {I I':Nat→Prop} {w w':World} (hst:∀ k,I k→k<w.heap.size→I' k∧w'.heap[k]?=w.heap[k]?) (hI:∀ k,I k→k<w.heap.size) {v:cY σ} {c:List Value} (h:aV R I w v c):aV R I' w' v c:=by
 obtain ⟨sc,b,h1,h2,h3⟩:=h
 exact ⟨sc,b,h1,R.stay hst h2,cO.stay hst hI _ _ h3⟩
theorem row.aV.stay {σ:Type} {R:SR σ} {I I':Nat→Prop} {w w':World} (hst:∀ k,I k→k<w.heap.size→I' k∧w'.heap[k]?=w.heap[k]?) (hI:∀ k,I k→k<w.heap.size) {v:cY σ} {c:List Value} (h:aV R I w v c):aV R I' w' v c:=by
 obtain ⟨sc,b,h1,h2,h3⟩:=h
 exact ⟨sc,b,h1,R.stay hst h2,cO.stay hst hI _ _ h3⟩
theorem int.iN.stay {σ:Type} {R:SR σ} {I I':Nat→Prop} {w w':World} (hst:∀ k,I k→k<w.heap.size→I' k∧w'.heap[k]?=w.heap[k]?) (hI:∀ k,I k→k<w.heap.size) {v:Option (cY σ)} {c:List Value} (h:iN R I w v c):iN R I' w' v c:=⟨h.1,fun u hu=>aV.stay hst hI (h.2 u hu)⟩
theorem list.iN.stay {σ:Type} {R:SR σ} {I I':Nat→Prop} {w w':World} (hst:∀ k,I k→k<w.heap.size→I' k∧w'.heap[k]?=w.heap[k]?) (hI:∀ k,I k→k<w.heap.size) {v:Option (cY σ)} {c:List Value} (h:iN R I w v c):iN R I' w' v c:=⟨h.1,fun u hu=>aV.stay hst hI (h.2 u hu)⟩
theorem tree.iN.stay {σ:Type} {R:SR σ} {I I':Nat→Prop} {w w':World} (hst:∀ k,I k→k<w.heap.size→I' k∧w'.heap[k]?=w.heap[k]?) (hI:∀ k,I k→k<w.heap.size) {v:Option (cY σ)} {c:List Value} (h:iN R I w v c):iN R I' w' v c:=⟨h.1,fun u hu=>aV.stay hst hI (h.2 u hu)⟩
theorem row.iN.stay {σ:Type} {R:SR σ} {I I':Nat→Prop} {w w':World} (hst:∀ k,I k→k<w.heap.size→I' k∧w'.heap[k]?=w.heap[k]?) (hI:∀ k,I k→k<w.heap.size) {v:Option (cY σ)} {c:List Value} (h:iN R I w v c):iN R I' w' v c:=⟨h.1,fun u hu=>aV.stay hst hI (h.2 u hu)⟩
theorem int.iU.stay {σ:Type} {R:SR σ} {I I':Nat→Prop} {w w':World} (hst:∀ k,I k→k<w.heap.size→I' k∧w'.heap[k]?=w.heap[k]?) (hI:∀ k,I k→k<w.heap.size) {x:Option (cY σ×cY σ)} {p:Option Nat} (h:iU R I w x p):iU R I' w' x p:=by
 intro v f hx
 obtain ⟨b,cv,cf,h1,h2,h3,h4,h5⟩:=h v f hx
 exact ⟨b,cv,cf,h1,(hst b h2 h3.lt).1,h3.of_block (hst b h2 h3.lt).2,aV.stay hst hI h4,aV.stay hst hI h5⟩
theorem list.iU.stay {σ:Type} {R:SR σ} {I I':Nat→Prop} {w w':World} (hst:∀ k,I k→k<w.heap.size→I' k∧w'.heap[k]?=w.heap[k]?) (hI:∀ k,I k→k<w.heap.size) {x:Option (cY σ×cY σ)} {p:Option Nat} (h:iU R I w x p):iU R I' w' x p:=by
 intro v f hx
 obtain ⟨b,cv,cf,h1,h2,h3,h4,h5⟩:=h v f hx
 exact ⟨b,cv,cf,h1,(hst b h2 h3.lt).1,h3.of_block (hst b h2 h3.lt).2,aV.stay hst hI h4,aV.stay hst hI h5⟩
theorem tree.iU.stay {σ:Type} {R:SR σ} {I I':Nat→Prop} {w w':World} (hst:∀ k,I k→k<w.heap.size→I' k∧w'.heap[k]?=w.heap[k]?) (hI:∀ k,I k→k<w.heap.size) {x:Option (cY σ×cY σ)} {p:Option Nat} (h:iU R I w x p):iU R I' w' x p:=by
 intro v f hx
 obtain ⟨b,cv,cf,h1,h2,h3,h4,h5⟩:=h v f hx
 exact ⟨b,cv,cf,h1,(hst b h2 h3.lt).1,h3.of_block (hst b h2 h3.lt).2,aV.stay hst hI h4,aV.stay hst hI h5⟩
theorem row.iU.stay {σ:Type} {R:SR σ} {I I':Nat→Prop} {w w':World} (hst:∀ k,I k→k<w.heap.size→I' k∧w'.heap[k]?=w.heap[k]?) (hI:∀ k,I k→k<w.heap.size) {x:Option (cY σ×cY σ)} {p:Option Nat} (h:iU R I w x p):iU R I' w' x p:=by
 intro v f hx
 obtain ⟨b,cv,cf,h1,h2,h3,h4,h5⟩:=h v f hx
 exact ⟨b,cv,cf,h1,(hst b h2 h3.lt).1,h3.of_block (hst b h2 h3.lt).2,aV.stay hst hI h4,aV.stay hst hI h5⟩
theorem int.kD.stay {I I':Nat→Prop} {w w':World} (hst:∀ k,I k→k<w.heap.size→I' k∧w'.heap[k]?=w.heap[k]?) (hI:∀ k,I k→k<w.heap.size) {p:List Nat} {v:Value} (h:kD I w p v):kD I' w' p v:=by
 rcases h with h|⟨gp,l,c,h1,h2,h3⟩
 ·exact .inl h
 ·exact .inr ⟨gp,l,c,(hst gp h1 (hI gp h1)).1,h2,Sl.stay h2 h3 (fun q=>(hst gp h1 q).2)⟩
theorem list.kD.stay {I I':Nat→Prop} {w w':World} (hst:∀ k,I k→k<w.heap.size→I' k∧w'.heap[k]?=w.heap[k]?) (hI:∀ k,I k→k<w.heap.size) {p:List Nat} {v:Value} (h:kD I w p v):kD I' w' p v:=by
 rcases h with h|⟨gp,l,c,h1,h2,h3⟩
 ·exact .inl h
 ·exact .inr ⟨gp,l,c,(hst gp h1 (hI gp h1)).1,h2,Sl.stay h2 h3 (fun q=>(hst gp h1 q).2)⟩
theorem tree.kD.stay {I I':Nat→Prop} {w w':World} (hst:∀ k,I k→k<w.heap.size→I' k∧w'.heap[k]?=w.heap[k]?) (hI:∀ k,I k→k<w.heap.size) {p:List Nat} {v:Value} (h:kD I w p v):kD I' w' p v:=by
 rcases h with h|⟨gp,l,c,h1,h2,h3⟩
 ·exact .inl h
 ·exact .inr ⟨gp,l,c,(hst gp h1 (hI gp h1)).1,h2,Sl.stay h2 h3 (fun q=>(hst gp h1 q).2)⟩
theorem row.kD.stay {I I':Nat→Prop} {w w':World} (hst:∀ k,I k→k<w.heap.size→I' k∧w'.heap[k]?=w.heap[k]?) (hI:∀ k,I k→k<w.heap.size) {p:List Nat} {v:Value} (h:kD I w p v):kD I' w' p v:=by
 rcases h with h|⟨gp,l,c,h1,h2,h3⟩
 ·exact .inl h
 ·exact .inr ⟨gp,l,c,(hst gp h1 (hI gp h1)).1,h2,Sl.stay h2 h3 (fun q=>(hst gp h1 q).2)⟩
theorem int.fY.stay {σ:Type} {R:SR σ} {I I':Nat→Prop} {w w':World} (hst:∀ k,I k→k<w.heap.size→I' k∧w'.heap[k]?=w.heap[k]?) (hI:∀ k,I k→k<w.heap.size) {L:Lt} {t:Nat} {e:aS σ} {f:Nat→Value} {cv cf:List Value} {pv:Value} (h:fY R L I w t e f cv cf pv):fY R L I' w' t e f cv cf pv :=
 ⟨h.like,iN.stay hst hI h.now,iN.stay hst hI h.cC,kD.stay hst hI h.aI⟩
theorem list.fY.stay {σ:Type} {R:SR σ} {I I':Nat→Prop} {w w':World} (hst:∀ k,I k→k<w.heap.size→I' k∧w'.heap[k]?=w.heap[k]?) (hI:∀ k,I k→k<w.heap.size) {L:Lt} {t:Nat} {e:aS σ} {f:Nat→Value} {cv cf:List Value} {pv:Value} (h:fY R L I w t e f cv cf pv):fY R L I' w' t e f cv cf pv :=
 ⟨h.like,iN.stay hst hI h.now,iN.stay hst hI h.cC,kD.stay hst hI h.aI⟩
theorem tree.fY.stay {σ:Type} {R:SR σ} {I I':Nat→Prop} {w w':World} (hst:∀ k,I k→k<w.heap.size→I' k∧w'.heap[k]?=w.heap[k]?) (hI:∀ k,I k→k<w.heap.size) {L:Lt} {t:Nat} {e:aS σ} {f:Nat→Value} {cv cf:List Value} {pv:Value} (h:fY R L I w t e f cv cf pv):fY R L I' w' t e f cv cf pv :=
 ⟨h.like,iN.stay hst hI h.now,iN.stay hst hI h.cC,kD.stay hst hI h.aI⟩
theorem row.fY.stay {σ:Type} {R:SR σ} {I I':Nat→Prop} {w w':World} (hst:∀ k,I k→k<w.heap.size→I' k∧w'.heap[k]?=w.heap[k]?) (hI:∀ k,I k→k<w.heap.size) {L:Lt} {t:Nat} {e:aS σ} {f:Nat→Value} {cv cf:List Value} {pv:Value} (h:fY R L I w t e f cv cf pv):fY R L I' w' t e f cv cf pv :=
 ⟨h.like,iN.stay hst hI h.now,iN.stay hst hI h.cC,kD.stay hst hI h.aI⟩
end Go.Proofs.YtefjhnhdagolhabGreat
