import Derived.Test.YtefjhnhdagolhaaGreatQ11
import Derived.Test.YtefjhnhdagolhaaGreatQ12
import Derived.Test.YtefjhnhdagolhaaGreatQ13
import Derived.Test.YtefjhnhdagolhaaGreatQ04
import Derived.Test.YtefjhnhdagolhaaGreatQ01
namespace Go.Proofs.YtefjhnhdagolhaaGreat.row
open Go.RowKit
attribute [local go_sem ↓] Go.wp_at_zero Go.wp_at_succ
theorem mC (bS n:Nat) (most:Int) (gD gG:Nat→Nat):∀ (k t j:Nat),t<k→j<30→(eY bS n most gD gG k)[t*30+j]?=(dK bS (t:Int) most (gD t) (gS n) (gG t) (tw n))[j]?
 |0,t,j,h,_=>absurd h (by omega)
 |k+1,t,j,h,hj=>by
  have hl:∀ k,(eY bS n most gD gG k).length=k*30:=fun k=>by
   unfold eY
   induction k with
   |zero=>rfl
   |succ k ih=>rw [List.range_succ,List.flatMap_append,List.length_append,ih];simp [mV];omega
  have hs:eY bS n most gD gG (k+1)=eY bS n most gD gG k++dK bS (k:Int) most (gD k) (gS n) (gG k) (tw n):=by
   unfold eY;rw [List.range_succ,List.flatMap_append];simp
  rw [hs]
  by_cases e:t=k
  ·subst e
   rw [List.getElem?_append_right (by rw [hl];omega),hl]
   congr 1;omega
  ·have q:t+1≤k:=by omega
   have q2:=Nat.mul_le_mul_right 30 q
   rw [List.getElem?_append_left (by rw [hl];omega)]
   exact mC bS n most gD gG k t j (by omega) hj
end Go.Proofs.YtefjhnhdagolhaaGreat.row
namespace Go.Proofs.YtefjhnhdagolhaaGreat.row
open Go.RowKit
attribute [local go_sem ↓] Go.wp_at_zero Go.wp_at_succ
theorem oN:(Tryz.prog.info? 223).map (fun i=>(i.zero,i.size,i.bytes))=some (some (.pointer none),1,8):=by kernel_rfl
end Go.Proofs.YtefjhnhdagolhaaGreat.row
namespace Go.Proofs.YtefjhnhdagolhaaGreat.row
open Go.RowKit
open M (aI aC aD Op dA aS cA tw aO)
structure Lt where
 n:Nat
 cap:Nat
 oT:TypeId
 ov:Value
 bE:Nat
 bS:Nat
 cM:Nat
 cO:Nat
 bP:Nat
 bW:Nat→Nat
 g:Nat
 gc:Nat
 gD:Nat→Nat
 gG:Nat→Nat
def Lt.own (L:Lt) (k:Nat):Prop:=k=L.bS∨k=L.cM∨k=L.cO∨k=L.bP∨(∃ r,r<2*L.n+1∧k=L.bW r)∨k=L.g∨∃ t,t<L.n∧(k=L.gD t∨k=L.gG t)
structure Lt.Ok (L:Lt):Prop where
 n1:1≤L.n
 n64:L.n≤64
 vD:L.cap≤64
 gn:L.n≤L.gc
 tw:∀ r,r<2*L.n+1→L.cM≠L.bW r
 ww:∀ r s,r<2*L.n+1→s<2*L.n+1→L.bW r=L.bW s→r=s
 dg:∀ t u,t<L.n→u<L.n→L.gD t≠L.gG u
 dd:∀ t u,t<L.n→u<L.n→L.gD t=L.gD u→t=u
 gg:∀ t u,t<L.n→u<L.n→L.gG t=L.gG u→t=u
structure SR (σ:Type) where
 sz:σ→Nat
 rep:(Nat→Prop)→World→σ→List Value→Prop
 len:∀ {I w s c},rep I w s c→c.length=2
 shape:∀ {I w s c},rep I w s c→∀ v∈c,∃ z,v=(Value.pointer) z
 stay:∀ {I I':Nat→Prop} {w w':World} {s c},(∀ k,I k→k<w.heap.size→I' k∧w'.heap[k]?=w.heap[k]?)→rep I w s c→rep I' w' s c
def eJ (I:Nat→Prop) (w:World):List (Nat×List Nat)→Nat→Prop
 |[],b=>I b∧Row w b 306 [.int .i64 0,.slice none 0 0,.pointer none]
 |(q,p)::bs,b=>∃ v b',I b∧Row w b 306 [.int .i64 (q:Int),v,.pointer (some ⟨b',0,none⟩)]∧(∃ gp,I gp∧Sl w v (ints (p.map Int.ofNat))∧∃ l c,v = .slice (some ⟨gp,0,none⟩) l c)∧eJ I w bs b'
section
variable {σ:Type} (R:SR σ)
def bU (I:Nat→Prop) (w:World) (v:dA σ) (c:List Value):Prop:=∃ sc b,c=sc++[.pointer (some ⟨b,0,none⟩)]∧R.rep I w v.st sc∧eJ I w v.bs.reverse b
theorem SR.one {I:Nat→Prop} {w:World} {s:σ} {c:List Value} (h:R.rep I w s c):∀ v∈c,v.oneCell'=true:=by
 intro v hv
 obtain ⟨z,rfl⟩:=R.shape h v hv
 rfl
theorem bU.one {I:Nat→Prop} {w:World} {v:dA σ} {c:List Value} (h:bU R I w v c):∀ u∈c,u.oneCell'=true:=by
 obtain ⟨sc,b,rfl,h1,-⟩:=h
 intro u hu
 rcases List.mem_append.1 hu with hu|hu
 ·exact SR.one R h1 u hu
 ·rw [List.mem_singleton.1 hu];rfl
theorem bU.len {I:Nat→Prop} {w:World} {v:dA σ} {c:List Value} (h:bU R I w v c):c.length=2+1:=by
 obtain ⟨sc,b,rfl,h1,-⟩:=h
 simp [R.len h1]
def mT (I:Nat→Prop) (w:World) (v:Option (dA σ)) (c:List Value):Prop:=c.length=2+1∧∀ u,v=some u→bU R I w u c
def lZ (I:Nat→Prop) (w:World) (x:Option (dA σ×dA σ)) (p:Option Nat):Prop :=
 ∀ v f,x=some (v,f)→∃ b cv cf,p=some b∧I b∧Row w b 255 (cv++cf)∧bU R I w v cv∧bU R I w f cf
def oC (I:Nat→Prop) (w:World) (p:List Nat) (v:Value):Prop:=(v = .slice none 0 0∧p=[])∨∃ gp l c,I gp∧v = .slice (some ⟨gp,0,none⟩) l c∧Sl w v (ints (p.map Int.ofNat))
def bO (L:Lt) (t:Nat) (e:aS σ) (cv cf:List Value) (pv:Value):List Value :=
 [.pointer (some ⟨L.bS,0,none⟩),.int .i64 (t:Int),.int .i64 (L.cap:Int),.int .i64 (e.phase:Int),.int .i64 (e.past:Int),.int .i64 e.op.c,.int .i64 e.op.a,.int .i64 e.op.b,.bool e.cX,.int .i64 (e.aE:Int),.bool e.again,.int .i64 (e.spare:Int),.int .i64 (e.kept:Int),.int .i64 ((e.stamp:Int)*129+(e.aW:Int)),
  .slice (some ⟨L.gD t,0,none⟩) (aO L.n) (aO L.n)]++cv++cf++[.slice (some ⟨L.gG t,0,none⟩) (M.tw L.n) (M.tw L.n),pv,.int .i64 (e.heard 0),.int .i64 (e.heard 1),.int .i64 (e.heard 2),.int .i64 (e.found:Int),.int .i64 e.zI,.int .i64 e.val,.bool e.ended]
structure fX (L:Lt) (I:Nat→Prop) (w:World) (t:Nat) (e:aS σ) (f:Nat→Value) (cv cf:List Value) (pv:Value):Prop where
 like:RL f (bO L t e cv cf pv)
 now:mT R I w e.now cv
 dM:mT R I w e.dM cf
 aK:oC I w e.aK pv
structure RE (L:Lt) (S:Nat→Prop) (E:cA σ) (w:World):Prop where
 ok:L.Ok
 fL:Row w L.bE 251 [.pointer (some ⟨L.bS,0,none⟩),.slice (some ⟨L.g,0,none⟩) L.n L.gc,.int .i64 (L.cap:Int)]
 gB:S L.bE∧¬L.own L.bE
 sh:Row w L.bS 323 [.int .i64 (L.n:Int),.iface L.oT L.ov,.slice (some ⟨L.cM,0,none⟩) (M.tw L.n) (M.tw L.n),.slice (some ⟨L.cO,0,none⟩) L.n L.n,.slice (some ⟨L.bP,0,none⟩) (2*L.n+1) (2*L.n+1),.int .i64 ((E.dZ:Int)*129+(E.prec:Int))]
 tg:Fn w L.cM 387 (M.tw L.n) (fun i=>.int .i64 (E.cC i))
 an:uQ w L.cO 388 L.n 3 (fun t i=>.int .i64 (E.eS t i))
 po:∃ sp:Nat→Option Nat,uQ w L.bP 331 (2*L.n+1) 2 (fun r j=>if j=0 then .slice (some ⟨L.bW r,0,none⟩) (aO L.n) (aO L.n) else .pointer ((sp r).map fun b=>⟨b,0,none⟩))∧∀ r,r<2*L.n+1→lZ R (fun k=>S k∧¬L.own k) w (E.gC r) (sp r)
 rw:∀ r,r<2*L.n+1→Fn w (L.bW r) 387 (aO L.n) (fun i=>.int .i64 (E.rw r i))
 th:∃ T,uQ w L.g 259 L.gc 30 T∧∀ t,t<L.n→∃ cv cf pv,fX R L (fun k=>S k∧¬L.own k) w t (E.th t) (T t) cv cf pv
 gd:∀ t,t<L.n→Fn w (L.gD t) 3 (aO L.n) (fun i=>.int .i64 ((E.th t).dw i))
 gg:∀ t,t<L.n→Fn w (L.gG t) 3 (M.tw L.n) (fun i=>.int .i64 ((E.th t).tg i))
 ow:∀ k,L.own k→S k
 lt:∀ k,S k→k<w.heap.size
end
section
variable {σ:Type} {R:SR σ} {I I':Nat→Prop} {w w':World}
theorem Sl.block {v:Value} {xs:List Value} {gp l c:Nat} (hv:v = .slice (some ⟨gp,0,none⟩) l c) (h:Sl w v xs) (e:w'.heap[gp]?=w.heap[gp]?):Sl w' v xs:=by
 obtain ⟨a,cap,vE,h1,h2,h3⟩:=h
 refine ⟨a,cap,vE,h1,h2,?_⟩
 rcases h3 with h3|⟨g,off,ha,h3⟩
 ·exact .inl h3
 ·refine .inr ⟨g,off,ha,fun j x hj=>?_⟩
  have:g=gp:=by
   rw [hv] at vE
   injection vE with q1
   rw [ha] at q1
   injection q1 with q2
   injection q2 with q3
   exact q3.symm
  subst this
  rw [World.cell?_of_block (w:=w) (a:=⟨g,off+j,none⟩) e]
  exact h3 j x hj
theorem Sl.lt {v:Value} {xs:List Value} {gp l c:Nat} (hv:v = .slice (some ⟨gp,0,none⟩) l c) (h:Sl w v xs) (hx:xs≠[]):gp<w.heap.size:=by
 obtain ⟨a,cap,vE,h1,h2,h3⟩:=h
 rcases h3 with h3|⟨g,off,ha,h3⟩
 ·exact absurd h3 hx
 ·have:g=gp:=by
   rw [hv] at vE
   injection vE with q1
   rw [ha] at q1
   injection q1 with q2
   injection q2 with q3
   exact q3.symm
  subst this
  obtain ⟨x,hx0⟩:∃ x,xs[0]?=some x:=by cases xs with|nil=>exact absurd rfl hx|cons x r=>exact ⟨x,rfl⟩
  exact World.block_lt_of_cell? w _ (h3 0 x hx0)
theorem Sl.stay {v:Value} {xs:List Value} {gp l c:Nat} (hv:v = .slice (some ⟨gp,0,none⟩) l c) (h:Sl w v xs) (e:gp<w.heap.size→w'.heap[gp]?=w.heap[gp]?):Sl w' v xs:=by
 by_cases hx:xs=[]
 ·obtain ⟨a,cap,vE,h1,h2,h3⟩:=h
  exact ⟨a,cap,vE,h1,h2,.inl hx⟩
 ·exact Sl.block hv h (e (Sl.lt hv h hx))
theorem eJ.stay (hst:∀ k,I k→k<w.heap.size→I' k∧w'.heap[k]?=w.heap[k]?) (hI:∀ k,I k→k<w.heap.size):∀ (bs:List (Nat×List Nat)) (b:Nat),eJ I w bs b→eJ I' w' bs b
 |[],b,h=>⟨(hst b h.1 h.2.lt).1,h.2.of_block (hst b h.1 h.2.lt).2⟩
 |(q,p)::bs,b,h=>by
  obtain ⟨v,b',h1,h2,⟨gp,g1,g2,l,c,g3⟩,h4⟩:=h
  exact ⟨v,b',(hst b h1 h2.lt).1,h2.of_block (hst b h1 h2.lt).2,⟨gp,(hst gp g1 (hI gp g1)).1,Sl.stay g3 g2 (fun q=>(hst gp g1 q).2),l,c,g3⟩,eJ.stay hst hI bs b' h4⟩
theorem bU.stay (hst:∀ k,I k→k<w.heap.size→I' k∧w'.heap[k]?=w.heap[k]?) (hI:∀ k,I k→k<w.heap.size) {v:dA σ} {c:List Value} (h:bU R I w v c):bU R I' w' v c:=by
 obtain ⟨sc,b,h1,h2,h3⟩:=h
 exact ⟨sc,b,h1,R.stay hst h2,eJ.stay hst hI _ _ h3⟩
theorem mT.stay (hst:∀ k,I k→k<w.heap.size→I' k∧w'.heap[k]?=w.heap[k]?) (hI:∀ k,I k→k<w.heap.size) {v:Option (dA σ)} {c:List Value} (h:mT R I w v c):mT R I' w' v c:=⟨h.1,fun u hu=>bU.stay hst hI (h.2 u hu)⟩
theorem lZ.stay (hst:∀ k,I k→k<w.heap.size→I' k∧w'.heap[k]?=w.heap[k]?) (hI:∀ k,I k→k<w.heap.size) {x:Option (dA σ×dA σ)} {p:Option Nat} (h:lZ R I w x p):lZ R I' w' x p:=by
 intro v f hx
 obtain ⟨b,cv,cf,h1,h2,h3,h4,h5⟩:=h v f hx
 exact ⟨b,cv,cf,h1,(hst b h2 h3.lt).1,h3.of_block (hst b h2 h3.lt).2,bU.stay hst hI h4,bU.stay hst hI h5⟩
theorem oC.stay (hst:∀ k,I k→k<w.heap.size→I' k∧w'.heap[k]?=w.heap[k]?) (hI:∀ k,I k→k<w.heap.size) {p:List Nat} {v:Value} (h:oC I w p v):oC I' w' p v:=by
 rcases h with h|⟨gp,l,c,h1,h2,h3⟩
 ·exact .inl h
 ·exact .inr ⟨gp,l,c,(hst gp h1 (hI gp h1)).1,h2,Sl.stay h2 h3 (fun q=>(hst gp h1 q).2)⟩
theorem fX.stay (hst:∀ k,I k→k<w.heap.size→I' k∧w'.heap[k]?=w.heap[k]?) (hI:∀ k,I k→k<w.heap.size) {L:Lt} {t:Nat} {e:aS σ} {f:Nat→Value} {cv cf:List Value} {pv:Value} (h:fX R L I w t e f cv cf pv):fX R L I' w' t e f cv cf pv :=
 ⟨h.like,mT.stay hst hI h.now,mT.stay hst hI h.dM,oC.stay hst hI h.aK⟩
end
end Go.Proofs.YtefjhnhdagolhaaGreat.row
