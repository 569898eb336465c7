import Derived.Test.YtefjhnhdagolhabGreatQ15
import Derived.Test.YtefjhnhdagolhabGreatQ13
set_option maxHeartbeats 1000000
namespace Go.Proofs.YtefjhnhdagolhabGreat
open int list tree
open Go.RowKit
open M (aH aC aE Op cY aS aK tw aR)
theorem int.wE (f:Nat→Int) (i:Nat) (v:Int) (k:Nat):aH (fun i=>Value.int .i64 (f i)) i (.int .i64 v) k = .int .i64 (aH f i v k):=by unfold aH;split<;>rfl
theorem int.xP {σ:Type} (f:Nat→aS σ) (t:Nat) (e:aS σ) (h:e.dw=(f t).dw) (u:Nat):(aH f t e u).dw=(f u).dw:=by
 by_cases q:u=t
 ·subst q;rw [aC,h]
 ·rw [aE _ _ q]
theorem int.xQ {σ:Type} (f:Nat→aS σ) (t:Nat) (e:aS σ) (h:e.tg=(f t).tg) (u:Nat):(aH f t e u).tg=(f u).tg:=by
 by_cases q:u=t
 ·subst q;rw [aC,h]
 ·rw [aE _ _ q]
theorem int.aD {l:List Value} (h:l.length=1+1):∃ c0 c1,l=[c0,c1]:=by
 match l,h with
 |[c0,c1],_=>exact ⟨c0,c1,rfl⟩
theorem row.aD {l:List Value} (h:l.length=2+1):∃ c0 c1 c2,l=[c0,c1,c2]:=by
 match l,h with
 |[c0,c1,c2],_=>exact ⟨c0,c1,c2,rfl⟩
def int.RE.oU:Prop:=∀ {σ:Type} {R:SR σ} {L:Lt} {S:Nat→Prop} {E:aK σ} {w w':World} (_h:RE R L S E w) {S':Nat→Prop} (_hb:∀ k,S k→w'.heap[k]?=w.heap[k]?) (_hS:∀ k,S k→S' k) (_hl:∀ k,S' k→k<w'.heap.size),RE R L S' E w'
def list.RE.oU:Prop:=∀ {σ:Type} {R:SR σ} {L:Lt} {S:Nat→Prop} {E:aK σ} {w w':World} (_h:RE R L S E w) {S':Nat→Prop} (_hb:∀ k,S k→w'.heap[k]?=w.heap[k]?) (_hS:∀ k,S k→S' k) (_hl:∀ k,S' k→k<w'.heap.size),RE R L S' E w'
def tree.RE.oU:Prop:=∀ {σ:Type} {R:SR σ} {L:Lt} {S:Nat→Prop} {E:aK σ} {w w':World} (_h:RE R L S E w) {S':Nat→Prop} (_hb:∀ k,S k→w'.heap[k]?=w.heap[k]?) (_hS:∀ k,S k→S' k) (_hl:∀ k,S' k→k<w'.heap.size),RE R L S' E w'
def row.RE.oU:Prop:=∀ {σ:Type} {R:SR σ} {L:Lt} {S:Nat→Prop} {E:aK σ} {w w':World} (_h:RE R L S E w) {S':Nat→Prop} (_hb:∀ k,S k→w'.heap[k]?=w.heap[k]?) (_hS:∀ k,S k→S' k) (_hl:∀ k,S' k→k<w'.heap.size),RE R L S' E w'
open row in
theorem tZ:int.RE.oU∧list.RE.oU∧tree.RE.oU∧row.RE.oU:=by
 refine ⟨?_,?_,?_,?_⟩<;>intro σ R L S E w w' h S' hb hS hl
 all_goals
  have hst:∀ k,(S k∧¬L.own k)→k<w.heap.size→(S' k∧¬L.own k)∧w'.heap[k]?=w.heap[k]?:=fun k hk _=>⟨⟨hS k hk.1,hk.2⟩,hb k hk.1⟩
  have hI:∀ k,(S k∧¬L.own k)→k<w.heap.size:=fun k hk=>h.lt k hk.1
  have ow:∀ {k},L.own k→w'.heap[k]?=w.heap[k]?:=fun hk=>hb _ (h.ow _ hk)
  obtain ⟨sp,oF,yR⟩:=h.po
  obtain ⟨T,iR,xO⟩:=h.th
  refine {ok:=h.ok,qM:=h.qM.of_block (hb _ h.pJ.1),pJ:=⟨hS _ h.pJ.1,h.pJ.2⟩,sh:=h.sh.of_block (ow (.inl rfl)),tg:=h.tg.of_block (ow (.inr (.inl rfl))),an:=h.an.of_block (ow (.inr (.inr (.inl rfl)))),po:=?po,rw:=?rw,th:=?th,gd:=?gd,gg:=?gg,ow:=fun k hk=>hS k (h.ow k hk),lt:=hl}
  case po=>exact ⟨sp,oF.of_block (ow (.inr (.inr (.inr (.inl rfl))))),fun r hr=>(yR r hr).stay hst hI⟩
  case rw=>exact fun r hr=>(h.rw r hr).of_block (ow (.inr (.inr (.inr (.inr (.inl ⟨r,hr,rfl⟩))))))
  case th =>
   refine ⟨T,iR.of_block (ow (.inr (.inr (.inr (.inr (.inr (.inl rfl))))))),fun t ht=>?_⟩
   obtain ⟨cv,cf,pv,q⟩:=xO t ht
   exact ⟨cv,cf,pv,q.stay hst hI⟩
  case gd=>exact fun t ht=>(h.gd t ht).of_block (ow (.inr (.inr (.inr (.inr (.inr (.inr ⟨t,ht,.inl rfl⟩)))))))
  case gg=>exact fun t ht=>(h.gg t ht).of_block (ow (.inr (.inr (.inr (.inr (.inr (.inr ⟨t,ht,.inr rfl⟩)))))))
theorem int.RE.stay:oU:=tZ.1
theorem list.RE.stay:oU:=tZ.2.1
theorem tree.RE.stay:oU:=tZ.2.2.1
theorem row.RE.stay:oU:=tZ.2.2.2
def int.grown (S:Nat→Prop) (w w':World) (k:Nat):Prop:=S k∨(w.heap.size≤k∧k<w'.heap.size)
theorem int.RE.below {σ:Type} {R:SR σ} {L:Lt} {S:Nat→Prop} {E:aK σ} {w w':World} (h:RE R L S E w) (hb:Below w.heap.size w w'):RE R L (grown S w w') E w':=by
 refine h.stay (fun k hk=>hb.block k (h.lt k hk)) (fun k hk=>.inl hk) (fun k hk=>?_)
 rcases hk with hk|hk
 ·exact Nat.lt_of_lt_of_le (h.lt k hk) hb.size
 ·exact hk.2
theorem list.RE.below {σ:Type} {R:SR σ} {L:Lt} {S:Nat→Prop} {E:aK σ} {w w':World} (h:RE R L S E w) (hb:Below w.heap.size w w'):RE R L (grown S w w') E w':=by
 refine h.stay (fun k hk=>hb.block k (h.lt k hk)) (fun k hk=>.inl hk) (fun k hk=>?_)
 rcases hk with hk|hk
 ·exact Nat.lt_of_lt_of_le (h.lt k hk) hb.size
 ·exact hk.2
theorem tree.RE.below {σ:Type} {R:SR σ} {L:Lt} {S:Nat→Prop} {E:aK σ} {w w':World} (h:RE R L S E w) (hb:Below w.heap.size w w'):RE R L (grown S w w') E w':=by
 refine h.stay (fun k hk=>hb.block k (h.lt k hk)) (fun k hk=>.inl hk) (fun k hk=>?_)
 rcases hk with hk|hk
 ·exact Nat.lt_of_lt_of_le (h.lt k hk) hb.size
 ·exact hk.2
theorem row.RE.below {σ:Type} {R:SR σ} {L:Lt} {S:Nat→Prop} {E:aK σ} {w w':World} (h:RE R L S E w) (hb:Below w.heap.size w w'):RE R L (grown S w w') E w':=by
 refine h.stay (fun k hk=>hb.block k (h.lt k hk)) (fun k hk=>.inl hk) (fun k hk=>?_)
 rcases hk with hk|hk
 ·exact Nat.lt_of_lt_of_le (h.lt k hk) hb.size
 ·exact hk.2
theorem int.RE.drewN {σ:Type} {R:SR σ} {L:Lt} {S:Nat→Prop} {E:aK σ} {w:World} (h:RE R L S E w) (n:Nat):RE R L S E (w.drewN n):=h.stay (fun _ _=>rfl) (fun _ hk=>hk) h.lt
theorem list.RE.drewN {σ:Type} {R:SR σ} {L:Lt} {S:Nat→Prop} {E:aK σ} {w:World} (h:RE R L S E w) (n:Nat):RE R L S E (w.drewN n):=h.stay (fun _ _=>rfl) (fun _ hk=>hk) h.lt
theorem tree.RE.drewN {σ:Type} {R:SR σ} {L:Lt} {S:Nat→Prop} {E:aK σ} {w:World} (h:RE R L S E w) (n:Nat):RE R L S E (w.drewN n):=h.stay (fun _ _=>rfl) (fun _ hk=>hk) h.lt
theorem row.RE.drewN {σ:Type} {R:SR σ} {L:Lt} {S:Nat→Prop} {E:aK σ} {w:World} (h:RE R L S E w) (n:Nat):RE R L S E (w.drewN n):=h.stay (fun _ _=>rfl) (fun _ hk=>hk) h.lt
theorem int.RE.mono {σ:Type} {R:SR σ} {L:Lt} {S:Nat→Prop} {E:aK σ} {w:World} (h:RE R L S E w) {S':Nat→Prop} (hS:∀ k,S k→S' k) (hl:∀ k,S' k→k<w.heap.size):RE R L S' E w:=h.stay (fun _ _=>rfl) hS hl
theorem list.RE.mono {σ:Type} {R:SR σ} {L:Lt} {S:Nat→Prop} {E:aK σ} {w:World} (h:RE R L S E w) {S':Nat→Prop} (hS:∀ k,S k→S' k) (hl:∀ k,S' k→k<w.heap.size):RE R L S' E w:=h.stay (fun _ _=>rfl) hS hl
theorem tree.RE.mono {σ:Type} {R:SR σ} {L:Lt} {S:Nat→Prop} {E:aK σ} {w:World} (h:RE R L S E w) {S':Nat→Prop} (hS:∀ k,S k→S' k) (hl:∀ k,S' k→k<w.heap.size):RE R L S' E w:=h.stay (fun _ _=>rfl) hS hl
theorem row.RE.mono {σ:Type} {R:SR σ} {L:Lt} {S:Nat→Prop} {E:aK σ} {w:World} (h:RE R L S E w) {S':Nat→Prop} (hS:∀ k,S k→S' k) (hl:∀ k,S' k→k<w.heap.size):RE R L S' E w:=h.stay (fun _ _=>rfl) hS hl
def int.RE.gO:Prop:=∀ {σ:Type} {R:SR σ} {L:Lt} {S:Nat→Prop} {E:aK σ} {w:World} (_h:RE R L S E w) (ps pr:Nat),RE R L S {E with cZ:=ps,prec:=pr} (w.setCell ⟨L.bS,5,none⟩ (.int .i64 ((ps:Int)*129+(pr:Int))))
def list.RE.gO:Prop:=∀ {σ:Type} {R:SR σ} {L:Lt} {S:Nat→Prop} {E:aK σ} {w:World} (_h:RE R L S E w) (ps pr:Nat),RE R L S {E with cZ:=ps,prec:=pr} (w.setCell ⟨L.bS,5,none⟩ (.int .i64 ((ps:Int)*129+(pr:Int))))
def tree.RE.gO:Prop:=∀ {σ:Type} {R:SR σ} {L:Lt} {S:Nat→Prop} {E:aK σ} {w:World} (_h:RE R L S E w) (ps pr:Nat),RE R L S {E with cZ:=ps,prec:=pr} (w.setCell ⟨L.bS,5,none⟩ (.int .i64 ((ps:Int)*129+(pr:Int))))
def row.RE.gO:Prop:=∀ {σ:Type} {R:SR σ} {L:Lt} {S:Nat→Prop} {E:aK σ} {w:World} (_h:RE R L S E w) (ps pr:Nat),RE R L S {E with cZ:=ps,prec:=pr} (w.setCell ⟨L.bS,5,none⟩ (.int .i64 ((ps:Int)*129+(pr:Int))))
open row in
theorem nL:int.RE.gO∧list.RE.gO∧tree.RE.gO∧row.RE.gO:=by
 refine ⟨?_,?_,?_,?_⟩<;>intro σ R L S E w h ps pr
 all_goals
  obtain ⟨sp,oF,yR⟩:=h.po
  obtain ⟨T,iR,xO⟩:=h.th
  have hown:L.own (L.bS):=.inl rfl
  have ho:∀ k,k≠L.bS→(w.setCell ⟨L.bS,5,none⟩ (.int .i64 ((ps:Int)*129+(pr:Int)))).heap[k]?=w.heap[k]?:=fun k hk=>Below.heap_setCell w _ _ k hk
  have hst:∀ k,(S k∧¬L.own k)→k<w.heap.size→(S k∧¬L.own k)∧(w.setCell ⟨L.bS,5,none⟩ (.int .i64 ((ps:Int)*129+(pr:Int)))).heap[k]?=w.heap[k]?:=fun k hk _=>⟨hk,ho k (by rintro rfl;exact hk.2 hown)⟩
  have hI:∀ k,(S k∧¬L.own k)→k<w.heap.size:=fun k hk=>h.lt k hk.1
  refine {ok:=h.ok,qM:=h.qM.of_block (ho _ (fun q=>h.pJ.2 (by rw [q];exact hown))),pJ:=h.pJ,sh:=?sh,tg:=?tg,an:=?an,po:=?po,rw:=?rw,th:=?th,gd:=?gd,gg:=?gg,ow:=h.ow,lt:=fun k hk=>(by simpa [World.setCell] using h.lt k hk)}
  case sh =>
   exact h.sh.set 5 _
  case tg =>
   exact h.tg.of_block (ho _ (Row.apart h.tg h.sh (by decide)))
  case an =>
   exact h.an.of_block (ho _ (Row.apart h.an h.sh (by decide)))
  case po =>
   exact ⟨sp,oF.of_block (ho _ (Row.apart oF h.sh (by decide))),fun r hr=>(yR r hr).stay hst hI⟩
  case rw =>
   exact fun r hr=>(h.rw r hr).of_block (ho _ (Row.apart (h.rw r hr) h.sh (by decide)))
  case th =>
   refine ⟨T,iR.of_block (ho _ (Row.apart iR h.sh (by decide))),fun t ht=>?_⟩
   obtain ⟨cv,cf,pv,q⟩:=xO t ht
   exact ⟨cv,cf,pv,q.stay hst hI⟩
  case gd =>
   exact fun t ht=>(h.gd t ht).of_block (ho _ (Row.apart (h.gd t ht) h.sh (by decide)))
  case gg =>
   exact fun t ht=>(h.gg t ht).of_block (ho _ (Row.apart (h.gg t ht) h.sh (by decide)))
theorem int.RE.zU:gO:=nL.1
theorem list.RE.zU:gO:=nL.2.1
theorem tree.RE.zU:gO:=nL.2.2.1
theorem row.RE.zU:gO:=nL.2.2.2
def int.RE.gP:Prop:=∀ {σ:Type} {R:SR σ} {L:Lt} {S:Nat→Prop} {E:aK σ} {w:World} (_h:RE R L S E w) (i:Nat) (v:Int),RE R L S {E with bD:=aH E.bD i v} (w.setCell ⟨L.aZ,i,none⟩ (.int .i64 v))
def list.RE.gP:Prop:=∀ {σ:Type} {R:SR σ} {L:Lt} {S:Nat→Prop} {E:aK σ} {w:World} (_h:RE R L S E w) (i:Nat) (v:Int),RE R L S {E with bD:=aH E.bD i v} (w.setCell ⟨L.aZ,i,none⟩ (.int .i64 v))
def tree.RE.gP:Prop:=∀ {σ:Type} {R:SR σ} {L:Lt} {S:Nat→Prop} {E:aK σ} {w:World} (_h:RE R L S E w) (i:Nat) (v:Int),RE R L S {E with bD:=aH E.bD i v} (w.setCell ⟨L.aZ,i,none⟩ (.int .i64 v))
def row.RE.gP:Prop:=∀ {σ:Type} {R:SR σ} {L:Lt} {S:Nat→Prop} {E:aK σ} {w:World} (_h:RE R L S E w) (i:Nat) (v:Int),RE R L S {E with bD:=aH E.bD i v} (w.setCell ⟨L.aZ,i,none⟩ (.int .i64 v))
open row in
theorem nM:int.RE.gP∧list.RE.gP∧tree.RE.gP∧row.RE.gP:=by
 refine ⟨?_,?_,?_,?_⟩<;>intro σ R L S E w h i v
 all_goals
  obtain ⟨sp,oF,yR⟩:=h.po
  obtain ⟨T,iR,xO⟩:=h.th
  have hown:L.own (L.aZ):=.inr (.inl rfl)
  have ho:∀ k,k≠L.aZ→(w.setCell ⟨L.aZ,i,none⟩ (.int .i64 v)).heap[k]?=w.heap[k]?:=fun k hk=>Below.heap_setCell w _ _ k hk
  have hst:∀ k,(S k∧¬L.own k)→k<w.heap.size→(S k∧¬L.own k)∧(w.setCell ⟨L.aZ,i,none⟩ (.int .i64 v)).heap[k]?=w.heap[k]?:=fun k hk _=>⟨hk,ho k (by rintro rfl;exact hk.2 hown)⟩
  have hI:∀ k,(S k∧¬L.own k)→k<w.heap.size:=fun k hk=>h.lt k hk.1
  refine {ok:=h.ok,qM:=h.qM.of_block (ho _ (fun q=>h.pJ.2 (by rw [q];exact hown))),pJ:=h.pJ,sh:=?sh,tg:=?tg,an:=?an,po:=?po,rw:=?rw,th:=?th,gd:=?gd,gg:=?gg,ow:=h.ow,lt:=fun k hk=>(by simpa [World.setCell] using h.lt k hk)}
  case sh =>
   exact h.sh.of_block (ho _ (Row.apart h.sh h.tg (by decide)))
  case tg =>
   exact (h.tg.set i _).congr (fun k _=>wE E.bD i v k)
  case an =>
   exact h.an.of_block (ho _ (Row.apart h.an h.tg (by decide)))
  case po =>
   exact ⟨sp,oF.of_block (ho _ (Row.apart oF h.tg (by decide))),fun r hr=>(yR r hr).stay hst hI⟩
  case rw =>
   exact fun r hr=>(h.rw r hr).of_block (ho _ (Ne.symm (h.ok.tw r hr)))
  case th =>
   refine ⟨T,iR.of_block (ho _ (Row.apart iR h.tg (by decide))),fun t ht=>?_⟩
   obtain ⟨cv,cf,pv,q⟩:=xO t ht
   exact ⟨cv,cf,pv,q.stay hst hI⟩
  case gd =>
   exact fun t ht=>(h.gd t ht).of_block (ho _ (Row.apart (h.gd t ht) h.tg (by decide)))
  case gg =>
   exact fun t ht=>(h.gg t ht).of_block (ho _ (Row.apart (h.gg t ht) h.tg (by decide)))
theorem int.RE.wF:gP:=nM.1
theorem list.RE.wF:gP:=nM.2.1
theorem tree.RE.wF:gP:=nM.2.2.1
theorem row.RE.wF:gP:=nM.2.2.2
def int.RE.gQ:Prop:=∀ {σ:Type} {R:SR σ} {L:Lt} {S:Nat→Prop} {E:aK σ} {w:World} (_h:RE R L S E w) (t1 i:Nat) (_hi:i<3) (v:Int),RE R L S {E with eJ:=aH E.eJ t1 (aH (E.eJ t1) i v)} (w.setCell ⟨L.aX,t1*3+i,none⟩ (.int .i64 v))
def list.RE.gQ:Prop:=∀ {σ:Type} {R:SR σ} {L:Lt} {S:Nat→Prop} {E:aK σ} {w:World} (_h:RE R L S E w) (t1 i:Nat) (_hi:i<3) (v:Int),RE R L S {E with eJ:=aH E.eJ t1 (aH (E.eJ t1) i v)} (w.setCell ⟨L.aX,t1*3+i,none⟩ (.int .i64 v))
def tree.RE.gQ:Prop:=∀ {σ:Type} {R:SR σ} {L:Lt} {S:Nat→Prop} {E:aK σ} {w:World} (_h:RE R L S E w) (t1 i:Nat) (_hi:i<3) (v:Int),RE R L S {E with eJ:=aH E.eJ t1 (aH (E.eJ t1) i v)} (w.setCell ⟨L.aX,t1*3+i,none⟩ (.int .i64 v))
def row.RE.gQ:Prop:=∀ {σ:Type} {R:SR σ} {L:Lt} {S:Nat→Prop} {E:aK σ} {w:World} (_h:RE R L S E w) (t1 i:Nat) (_hi:i<3) (v:Int),RE R L S {E with eJ:=aH E.eJ t1 (aH (E.eJ t1) i v)} (w.setCell ⟨L.aX,t1*3+i,none⟩ (.int .i64 v))
open row in
theorem nN:int.RE.gQ∧list.RE.gQ∧tree.RE.gQ∧row.RE.gQ:=by
 refine ⟨?_,?_,?_,?_⟩<;>intro σ R L S E w h t1 i hi v
 all_goals
  obtain ⟨sp,oF,yR⟩:=h.po
  obtain ⟨T,iR,xO⟩:=h.th
  have hown:L.own (L.aX):=.inr (.inr (.inl rfl))
  have ho:∀ k,k≠L.aX→(w.setCell ⟨L.aX,t1*3+i,none⟩ (.int .i64 v)).heap[k]?=w.heap[k]?:=fun k hk=>Below.heap_setCell w _ _ k hk
  have hst:∀ k,(S k∧¬L.own k)→k<w.heap.size→(S k∧¬L.own k)∧(w.setCell ⟨L.aX,t1*3+i,none⟩ (.int .i64 v)).heap[k]?=w.heap[k]?:=fun k hk _=>⟨hk,ho k (by rintro rfl;exact hk.2 hown)⟩
  have hI:∀ k,(S k∧¬L.own k)→k<w.heap.size:=fun k hk=>h.lt k hk.1
  refine {ok:=h.ok,qM:=h.qM.of_block (ho _ (fun q=>h.pJ.2 (by rw [q];exact hown))),pJ:=h.pJ,sh:=?sh,tg:=?tg,an:=?an,po:=?po,rw:=?rw,th:=?th,gd:=?gd,gg:=?gg,ow:=h.ow,lt:=fun k hk=>(by simpa [World.setCell] using h.lt k hk)}
  case sh =>
   exact h.sh.of_block (ho _ (Row.apart h.sh h.an (by decide)))
  case tg =>
   exact h.tg.of_block (ho _ (Row.apart h.tg h.an (by decide)))
  case an =>
   refine (h.an.set hi _).congr (fun k _=>?_)
   dsimp only
   by_cases q:k / 3=t1
   ·rw [q,aC,aC];exact wE _ i v _
   ·rw [aE _ _ q,aE _ _ q]
  case po =>
   exact ⟨sp,oF.of_block (ho _ (Row.apart oF h.an (by decide))),fun r hr=>(yR r hr).stay hst hI⟩
  case rw =>
   exact fun r hr=>(h.rw r hr).of_block (ho _ (Row.apart (h.rw r hr) h.an (by decide)))
  case th =>
   refine ⟨T,iR.of_block (ho _ (Row.apart iR h.an (by decide))),fun t ht=>?_⟩
   obtain ⟨cv,cf,pv,q⟩:=xO t ht
   exact ⟨cv,cf,pv,q.stay hst hI⟩
  case gd =>
   exact fun t ht=>(h.gd t ht).of_block (ho _ (Row.apart (h.gd t ht) h.an (by decide)))
  case gg =>
   exact fun t ht=>(h.gg t ht).of_block (ho _ (Row.apart (h.gg t ht) h.an (by decide)))
theorem int.RE.zV:gQ:=nN.1
theorem list.RE.zV:gQ:=nN.2.1
theorem tree.RE.zV:gQ:=nN.2.2.1
theorem row.RE.zV:gQ:=nN.2.2.2
def int.RE.fJ:Prop:=∀ {σ:Type} {R:SR σ} {L:Lt} {S:Nat→Prop} {E:aK σ} {w:World} (_h:RE R L S E w) (r0:Nat) (_NA:r0<2*L.n+1) (i:Nat) (v:Int),RE R L S {E with rw:=aH E.rw r0 (aH (E.rw r0) i v)} (w.setCell ⟨L.bW r0,i,none⟩ (.int .i64 v))
def list.RE.fJ:Prop:=∀ {σ:Type} {R:SR σ} {L:Lt} {S:Nat→Prop} {E:aK σ} {w:World} (_h:RE R L S E w) (r0:Nat) (_NA:r0<2*L.n+1) (i:Nat) (v:Int),RE R L S {E with rw:=aH E.rw r0 (aH (E.rw r0) i v)} (w.setCell ⟨L.bW r0,i,none⟩ (.int .i64 v))
def tree.RE.fJ:Prop:=∀ {σ:Type} {R:SR σ} {L:Lt} {S:Nat→Prop} {E:aK σ} {w:World} (_h:RE R L S E w) (r0:Nat) (_NA:r0<2*L.n+1) (i:Nat) (v:Int),RE R L S {E with rw:=aH E.rw r0 (aH (E.rw r0) i v)} (w.setCell ⟨L.bW r0,i,none⟩ (.int .i64 v))
def row.RE.fJ:Prop:=∀ {σ:Type} {R:SR σ} {L:Lt} {S:Nat→Prop} {E:aK σ} {w:World} (_h:RE R L S E w) (r0:Nat) (_NA:r0<2*L.n+1) (i:Nat) (v:Int),RE R L S {E with rw:=aH E.rw r0 (aH (E.rw r0) i v)} (w.setCell ⟨L.bW r0,i,none⟩ (.int .i64 v))
open row in
theorem mD:int.RE.fJ∧list.RE.fJ∧tree.RE.fJ∧row.RE.fJ:=by
 refine ⟨?_,?_,?_,?_⟩<;>intro σ R L S E w h r0 PK i v
 all_goals
  obtain ⟨sp,oF,yR⟩:=h.po
  obtain ⟨T,iR,xO⟩:=h.th
  have hown:L.own (L.bW r0):=.inr (.inr (.inr (.inr (.inl ⟨r0,PK,rfl⟩))))
  have ho:∀ k,k≠L.bW r0→(w.setCell ⟨L.bW r0,i,none⟩ (.int .i64 v)).heap[k]?=w.heap[k]?:=fun k hk=>Below.heap_setCell w _ _ k hk
  have hst:∀ k,(S k∧¬L.own k)→k<w.heap.size→(S k∧¬L.own k)∧(w.setCell ⟨L.bW r0,i,none⟩ (.int .i64 v)).heap[k]?=w.heap[k]?:=fun k hk _=>⟨hk,ho k (by rintro rfl;exact hk.2 hown)⟩
  have hI:∀ k,(S k∧¬L.own k)→k<w.heap.size:=fun k hk=>h.lt k hk.1
  refine {ok:=h.ok,qM:=h.qM.of_block (ho _ (fun q=>h.pJ.2 (by rw [q];exact hown))),pJ:=h.pJ,sh:=?sh,tg:=?tg,an:=?an,po:=?po,rw:=?rw,th:=?th,gd:=?gd,gg:=?gg,ow:=h.ow,lt:=fun k hk=>(by simpa [World.setCell] using h.lt k hk)}
  case sh =>
   exact h.sh.of_block (ho _ (Row.apart h.sh (h.rw r0 PK) (by decide)))
  case tg =>
   exact h.tg.of_block (ho _ (h.ok.tw r0 PK))
  case an =>
   exact h.an.of_block (ho _ (Row.apart h.an (h.rw r0 PK) (by decide)))
  case po =>
   exact ⟨sp,oF.of_block (ho _ (Row.apart oF (h.rw r0 PK) (by decide))),fun r hr=>(yR r hr).stay hst hI⟩
  case rw =>
   intro r hr
   show Fn _ _ _ _ (fun k=>.int .i64 (aH E.rw r0 (aH (E.rw r0) i v) r k))
   by_cases q:r=r0
   ·subst q
    rw [aC]
    exact ((h.rw r hr).set i _).congr (fun k _=>wE (E.rw r) i v k)
   ·rw [aE _ _ q]
    exact (h.rw r hr).of_block (ho _ (fun q2=>q (h.ok.ww r r0 hr PK q2)))
  case th =>
   refine ⟨T,iR.of_block (ho _ (Row.apart iR (h.rw r0 PK) (by decide))),fun t ht=>?_⟩
   obtain ⟨cv,cf,pv,q⟩:=xO t ht
   exact ⟨cv,cf,pv,q.stay hst hI⟩
  case gd =>
   exact fun t ht=>(h.gd t ht).of_block (ho _ (Row.apart (h.gd t ht) (h.rw r0 PK) (by decide)))
  case gg =>
   exact fun t ht=>(h.gg t ht).of_block (ho _ (Row.apart (h.gg t ht) (h.rw r0 PK) (by decide)))
theorem int.RE.wG:fJ:=mD.1
theorem list.RE.wG:fJ:=mD.2.1
theorem tree.RE.wG:fJ:=mD.2.2.1
theorem row.RE.wG:fJ:=mD.2.2.2
def int.RE.eL:Prop:=∀ {σ:Type} {R:SR σ} {L:Lt} {S:Nat→Prop} {E:aK σ} {w:World} (_h:RE R L S E w) (r0:Nat) (_NA:r0<2*L.n+1) (b:Nat) (x:Option (cY σ×cY σ)) (_hx:iU R (fun k=>S k∧¬L.own k) w x (some b)),RE R L S {E with eV:=aH E.eV r0 x} (w.setCell ⟨L.bP,r0*2+1,none⟩ (.pointer (some ⟨b,0,none⟩)))
def list.RE.eL:Prop:=∀ {σ:Type} {R:SR σ} {L:Lt} {S:Nat→Prop} {E:aK σ} {w:World} (_h:RE R L S E w) (r0:Nat) (_NA:r0<2*L.n+1) (b:Nat) (x:Option (cY σ×cY σ)) (_hx:iU R (fun k=>S k∧¬L.own k) w x (some b)),RE R L S {E with eV:=aH E.eV r0 x} (w.setCell ⟨L.bP,r0*2+1,none⟩ (.pointer (some ⟨b,0,none⟩)))
def tree.RE.eL:Prop:=∀ {σ:Type} {R:SR σ} {L:Lt} {S:Nat→Prop} {E:aK σ} {w:World} (_h:RE R L S E w) (r0:Nat) (_NA:r0<2*L.n+1) (b:Nat) (x:Option (cY σ×cY σ)) (_hx:iU R (fun k=>S k∧¬L.own k) w x (some b)),RE R L S {E with eV:=aH E.eV r0 x} (w.setCell ⟨L.bP,r0*2+1,none⟩ (.pointer (some ⟨b,0,none⟩)))
def row.RE.eL:Prop:=∀ {σ:Type} {R:SR σ} {L:Lt} {S:Nat→Prop} {E:aK σ} {w:World} (_h:RE R L S E w) (r0:Nat) (_NA:r0<2*L.n+1) (b:Nat) (x:Option (cY σ×cY σ)) (_hx:iU R (fun k=>S k∧¬L.own k) w x (some b)),RE R L S {E with eV:=aH E.eV r0 x} (w.setCell ⟨L.bP,r0*2+1,none⟩ (.pointer (some ⟨b,0,none⟩)))
open row in
theorem lD:int.RE.eL∧list.RE.eL∧tree.RE.eL∧row.RE.eL:=by
 refine ⟨?_,?_,?_,?_⟩<;>intro σ R L S E w h r0 PK b x hx
 all_goals
  obtain ⟨sp,oF,yR⟩:=h.po
  obtain ⟨T,iR,xO⟩:=h.th
  have hown:L.own (L.bP):=.inr (.inr (.inr (.inl rfl)))
  have ho:∀ k,k≠L.bP→(w.setCell ⟨L.bP,r0*2+1,none⟩ (.pointer (some ⟨b,0,none⟩))).heap[k]?=w.heap[k]?:=fun k hk=>Below.heap_setCell w _ _ k hk
  have hst:∀ k,(S k∧¬L.own k)→k<w.heap.size→(S k∧¬L.own k)∧(w.setCell ⟨L.bP,r0*2+1,none⟩ (.pointer (some ⟨b,0,none⟩))).heap[k]?=w.heap[k]?:=fun k hk _=>⟨hk,ho k (by rintro rfl;exact hk.2 hown)⟩
  have hI:∀ k,(S k∧¬L.own k)→k<w.heap.size:=fun k hk=>h.lt k hk.1
  refine {ok:=h.ok,qM:=h.qM.of_block (ho _ (fun q=>h.pJ.2 (by rw [q];exact hown))),pJ:=h.pJ,sh:=?sh,tg:=?tg,an:=?an,po:=?po,rw:=?rw,th:=?th,gd:=?gd,gg:=?gg,ow:=h.ow,lt:=fun k hk=>(by simpa [World.setCell] using h.lt k hk)}
  case sh =>
   exact h.sh.of_block (ho _ (Row.apart h.sh oF (by decide)))
  case tg =>
   exact h.tg.of_block (ho _ (Row.apart h.tg oF (by decide)))
  case an =>
   exact h.an.of_block (ho _ (Row.apart h.an oF (by decide)))
  case po =>
   refine ⟨aH sp r0 (some b),(oF.set (i:=r0) (j:=1) (by decide) _).congr (fun k _=>?_),fun r hr=>?_⟩
   ·by_cases q:k / 2=r0
    ·rw [q,aC]
     rcases Nat.mod_two_eq_zero_or_one k with m|m
     ·rw [m,aE _ _ (by decide)]
      rfl
     ·rw [m,aC]
      simp [aC]
    ·rw [aE _ _ q]
     simp [aE _ _ q]
   ·show iU R _ _ (aH E.eV r0 x r) (aH sp r0 (some b) r)
    by_cases q:r=r0
    ·subst q;rw [aC,aC];exact hx.stay hst hI
    ·rw [aE _ _ q,aE _ _ q];exact (yR r hr).stay hst hI
  case rw =>
   exact fun r hr=>(h.rw r hr).of_block (ho _ (Row.apart (h.rw r hr) oF (by decide)))
  case th =>
   refine ⟨T,iR.of_block (ho _ (Row.apart iR oF (by decide))),fun t ht=>?_⟩
   obtain ⟨cv,cf,pv,q⟩:=xO t ht
   exact ⟨cv,cf,pv,q.stay hst hI⟩
  case gd =>
   exact fun t ht=>(h.gd t ht).of_block (ho _ (Row.apart (h.gd t ht) oF (by decide)))
  case gg =>
   exact fun t ht=>(h.gg t ht).of_block (ho _ (Row.apart (h.gg t ht) oF (by decide)))
theorem int.RE.rJ:eL:=lD.1
theorem list.RE.rJ:eL:=lD.2.1
theorem tree.RE.rJ:eL:=lD.2.2.1
theorem row.RE.rJ:eL:=lD.2.2.2
def int.RE.eM:Prop:=∀ {σ:Type} {R:SR σ} {L:Lt} {S:Nat→Prop} {E:aK σ} {w:World} (_h:RE R L S E w) (t0:Nat) (_nE:t0<L.n) (i:Nat) (v:Int),RE R L S {E with th:=aH E.th t0 {E.th t0 with dw:=aH (E.th t0).dw i v}} (w.setCell ⟨L.gD t0,i,none⟩ (.int .i64 v))
def list.RE.eM:Prop:=∀ {σ:Type} {R:SR σ} {L:Lt} {S:Nat→Prop} {E:aK σ} {w:World} (_h:RE R L S E w) (t0:Nat) (_nE:t0<L.n) (i:Nat) (v:Int),RE R L S {E with th:=aH E.th t0 {E.th t0 with dw:=aH (E.th t0).dw i v}} (w.setCell ⟨L.gD t0,i,none⟩ (.int .i64 v))
def tree.RE.eM:Prop:=∀ {σ:Type} {R:SR σ} {L:Lt} {S:Nat→Prop} {E:aK σ} {w:World} (_h:RE R L S E w) (t0:Nat) (_nE:t0<L.n) (i:Nat) (v:Int),RE R L S {E with th:=aH E.th t0 {E.th t0 with dw:=aH (E.th t0).dw i v}} (w.setCell ⟨L.gD t0,i,none⟩ (.int .i64 v))
def row.RE.eM:Prop:=∀ {σ:Type} {R:SR σ} {L:Lt} {S:Nat→Prop} {E:aK σ} {w:World} (_h:RE R L S E w) (t0:Nat) (_nE:t0<L.n) (i:Nat) (v:Int),RE R L S {E with th:=aH E.th t0 {E.th t0 with dw:=aH (E.th t0).dw i v}} (w.setCell ⟨L.gD t0,i,none⟩ (.int .i64 v))
open row in
theorem lF:int.RE.eM∧list.RE.eM∧tree.RE.eM∧row.RE.eM:=by
 refine ⟨?_,?_,?_,?_⟩<;>intro σ R L S E w h t0 oG i v
 all_goals
  obtain ⟨sp,oF,yR⟩:=h.po
  obtain ⟨T,iR,xO⟩:=h.th
  have hown:L.own (L.gD t0):=.inr (.inr (.inr (.inr (.inr (.inr ⟨t0,oG,.inl rfl⟩)))))
  have ho:∀ k,k≠L.gD t0→(w.setCell ⟨L.gD t0,i,none⟩ (.int .i64 v)).heap[k]?=w.heap[k]?:=fun k hk=>Below.heap_setCell w _ _ k hk
  have hst:∀ k,(S k∧¬L.own k)→k<w.heap.size→(S k∧¬L.own k)∧(w.setCell ⟨L.gD t0,i,none⟩ (.int .i64 v)).heap[k]?=w.heap[k]?:=fun k hk _=>⟨hk,ho k (by rintro rfl;exact hk.2 hown)⟩
  have hI:∀ k,(S k∧¬L.own k)→k<w.heap.size:=fun k hk=>h.lt k hk.1
  refine {ok:=h.ok,qM:=h.qM.of_block (ho _ (fun q=>h.pJ.2 (by rw [q];exact hown))),pJ:=h.pJ,sh:=?sh,tg:=?tg,an:=?an,po:=?po,rw:=?rw,th:=?th,gd:=?gd,gg:=?gg,ow:=h.ow,lt:=fun k hk=>(by simpa [World.setCell] using h.lt k hk)}
  case sh =>
   exact h.sh.of_block (ho _ (Row.apart h.sh (h.gd t0 oG) (by decide)))
  case tg =>
   exact h.tg.of_block (ho _ (Row.apart h.tg (h.gd t0 oG) (by decide)))
  case an =>
   exact h.an.of_block (ho _ (Row.apart h.an (h.gd t0 oG) (by decide)))
  case po =>
   exact ⟨sp,oF.of_block (ho _ (Row.apart oF (h.gd t0 oG) (by decide))),fun r hr=>(yR r hr).stay hst hI⟩
  case rw =>
   exact fun r hr=>(h.rw r hr).of_block (ho _ (Row.apart (h.rw r hr) (h.gd t0 oG) (by decide)))
  case th =>
   refine ⟨T,iR.of_block (ho _ (Row.apart iR (h.gd t0 oG) (by decide))),fun t ht=>?_⟩
   obtain ⟨cv,cf,pv,q⟩:=xO t ht
   refine ⟨cv,cf,pv,?_⟩
   have q':=q.stay hst hI
   show fY R L _ _ t (aH E.th t0 _ t) _ _ _ _
   by_cases c:t=t0
   ·subst c;rw [aC];exact ⟨q'.like,q'.now,q'.cC,q'.aI⟩
   ·rw [aE _ _ c];exact q'
  case gd =>
   intro t ht
   by_cases q:t=t0
   ·subst q
    refine ((h.gd t ht).set i _).congr (fun k _=>?_)
    show _=Value.int .i64 ((aH E.th t _ t).dw k)
    rw [aC]
    exact wE (E.th t).dw i v k
   ·refine ((h.gd t ht).of_block (ho _ (fun q2=>q (h.ok.dd t t0 ht oG q2)))).congr (fun k _=>?_)
    show _=Value.int .i64 ((aH E.th t0 _ t).dw k)
    rw [aE _ _ q]
  case gg =>
   intro t ht
   refine ((h.gg t ht).of_block (ho _ (Ne.symm (h.ok.dg t0 t oG ht)))).congr (fun k _=>?_)
   exact congrArg _ (congrFun (xQ E.th t0 {E.th t0 with dw:=aH (E.th t0).dw i v} rfl t).symm k)
theorem int.RE.fX:eM:=lF.1
theorem list.RE.fX:eM:=lF.2.1
theorem tree.RE.fX:eM:=lF.2.2.1
theorem row.RE.fX:eM:=lF.2.2.2
def int.RE.fK:Prop:=∀ {σ:Type} {R:SR σ} {L:Lt} {S:Nat→Prop} {E:aK σ} {w:World} (_h:RE R L S E w) (t0:Nat) (_nE:t0<L.n) (i:Nat) (v:Int),RE R L S {E with th:=aH E.th t0 {E.th t0 with tg:=aH (E.th t0).tg i v}} (w.setCell ⟨L.gG t0,i,none⟩ (.int .i64 v))
def list.RE.fK:Prop:=∀ {σ:Type} {R:SR σ} {L:Lt} {S:Nat→Prop} {E:aK σ} {w:World} (_h:RE R L S E w) (t0:Nat) (_nE:t0<L.n) (i:Nat) (v:Int),RE R L S {E with th:=aH E.th t0 {E.th t0 with tg:=aH (E.th t0).tg i v}} (w.setCell ⟨L.gG t0,i,none⟩ (.int .i64 v))
def tree.RE.fK:Prop:=∀ {σ:Type} {R:SR σ} {L:Lt} {S:Nat→Prop} {E:aK σ} {w:World} (_h:RE R L S E w) (t0:Nat) (_nE:t0<L.n) (i:Nat) (v:Int),RE R L S {E with th:=aH E.th t0 {E.th t0 with tg:=aH (E.th t0).tg i v}} (w.setCell ⟨L.gG t0,i,none⟩ (.int .i64 v))
def row.RE.fK:Prop:=∀ {σ:Type} {R:SR σ} {L:Lt} {S:Nat→Prop} {E:aK σ} {w:World} (_h:RE R L S E w) (t0:Nat) (_nE:t0<L.n) (i:Nat) (v:Int),RE R L S {E with th:=aH E.th t0 {E.th t0 with tg:=aH (E.th t0).tg i v}} (w.setCell ⟨L.gG t0,i,none⟩ (.int .i64 v))
open row in
theorem mE:int.RE.fK∧list.RE.fK∧tree.RE.fK∧row.RE.fK:=by
 refine ⟨?_,?_,?_,?_⟩<;>intro σ R L S E w h t0 oG i v
 all_goals
  obtain ⟨sp,oF,yR⟩:=h.po
  obtain ⟨T,iR,xO⟩:=h.th
  have hown:L.own (L.gG t0):=.inr (.inr (.inr (.inr (.inr (.inr ⟨t0,oG,.inr rfl⟩)))))
  have ho:∀ k,k≠L.gG t0→(w.setCell ⟨L.gG t0,i,none⟩ (.int .i64 v)).heap[k]?=w.heap[k]?:=fun k hk=>Below.heap_setCell w _ _ k hk
  have hst:∀ k,(S k∧¬L.own k)→k<w.heap.size→(S k∧¬L.own k)∧(w.setCell ⟨L.gG t0,i,none⟩ (.int .i64 v)).heap[k]?=w.heap[k]?:=fun k hk _=>⟨hk,ho k (by rintro rfl;exact hk.2 hown)⟩
  have hI:∀ k,(S k∧¬L.own k)→k<w.heap.size:=fun k hk=>h.lt k hk.1
  refine {ok:=h.ok,qM:=h.qM.of_block (ho _ (fun q=>h.pJ.2 (by rw [q];exact hown))),pJ:=h.pJ,sh:=?sh,tg:=?tg,an:=?an,po:=?po,rw:=?rw,th:=?th,gd:=?gd,gg:=?gg,ow:=h.ow,lt:=fun k hk=>(by simpa [World.setCell] using h.lt k hk)}
  case sh =>
   exact h.sh.of_block (ho _ (Row.apart h.sh (h.gg t0 oG) (by decide)))
  case tg =>
   exact h.tg.of_block (ho _ (Row.apart h.tg (h.gg t0 oG) (by decide)))
  case an =>
   exact h.an.of_block (ho _ (Row.apart h.an (h.gg t0 oG) (by decide)))
  case po =>
   exact ⟨sp,oF.of_block (ho _ (Row.apart oF (h.gg t0 oG) (by decide))),fun r hr=>(yR r hr).stay hst hI⟩
  case rw =>
   exact fun r hr=>(h.rw r hr).of_block (ho _ (Row.apart (h.rw r hr) (h.gg t0 oG) (by decide)))
  case th =>
   refine ⟨T,iR.of_block (ho _ (Row.apart iR (h.gg t0 oG) (by decide))),fun t ht=>?_⟩
   obtain ⟨cv,cf,pv,q⟩:=xO t ht
   refine ⟨cv,cf,pv,?_⟩
   have q':=q.stay hst hI
   show fY R L _ _ t (aH E.th t0 _ t) _ _ _ _
   by_cases c:t=t0
   ·subst c;rw [aC];exact ⟨q'.like,q'.now,q'.cC,q'.aI⟩
   ·rw [aE _ _ c];exact q'
  case gd =>
   intro t ht
   refine ((h.gd t ht).of_block (ho _ (h.ok.dg t t0 ht oG))).congr (fun k _=>?_)
   exact congrArg _ (congrFun (xP E.th t0 {E.th t0 with tg:=aH (E.th t0).tg i v} rfl t).symm k)
  case gg =>
   intro t ht
   by_cases q:t=t0
   ·subst q
    refine ((h.gg t ht).set i _).congr (fun k _=>?_)
    show _=Value.int .i64 ((aH E.th t _ t).tg k)
    rw [aC]
    exact wE (E.th t).tg i v k
   ·refine ((h.gg t ht).of_block (ho _ (fun q2=>q (h.ok.gg t t0 ht oG q2)))).congr (fun k _=>?_)
    show _=Value.int .i64 ((aH E.th t0 _ t).tg k)
    rw [aE _ _ q]
theorem int.RE.wH:fK:=mE.1
theorem list.RE.wH:fK:=mE.2.1
theorem tree.RE.wH:fK:=mE.2.2.1
theorem row.RE.wH:fK:=mE.2.2.2
def int.RE.fL:Prop:=∀ {σ:Type} {R:SR σ} {L:Lt} {S:Nat→Prop} {E:aK σ} {w:World} (_h:RE R L S E w) (t0:Nat) (_nE:t0<L.n) (j:Nat) (_hj:j<28) (v:Value) (e':aS σ) (_hd:e'.dw=(E.th t0).dw) (_hg:e'.tg=(E.th t0).tg) (_hn:e'.now=(E.th t0).now) (_hf:e'.cC=(E.th t0).cC) (_hp:e'.aI=(E.th t0).aI) (_UK:∀ c0 c1 d0 d1 pv,(aO L t0 (E.th t0) [c0,c1] [d0,d1] pv).set j v=aO L t0 e' [c0,c1] [d0,d1] pv),RE R L S {E with th:=aH E.th t0 e'} (w.setCell ⟨L.g,t0*28+j,none⟩ v)
def list.RE.fL:Prop:=∀ {σ:Type} {R:SR σ} {L:Lt} {S:Nat→Prop} {E:aK σ} {w:World} (_h:RE R L S E w) (t0:Nat) (_nE:t0<L.n) (j:Nat) (_hj:j<28) (v:Value) (e':aS σ) (_hd:e'.dw=(E.th t0).dw) (_hg:e'.tg=(E.th t0).tg) (_hn:e'.now=(E.th t0).now) (_hf:e'.cC=(E.th t0).cC) (_hp:e'.aI=(E.th t0).aI) (_UK:∀ c0 c1 d0 d1 pv,(aO L t0 (E.th t0) [c0,c1] [d0,d1] pv).set j v=aO L t0 e' [c0,c1] [d0,d1] pv),RE R L S {E with th:=aH E.th t0 e'} (w.setCell ⟨L.g,t0*28+j,none⟩ v)
def tree.RE.fL:Prop:=∀ {σ:Type} {R:SR σ} {L:Lt} {S:Nat→Prop} {E:aK σ} {w:World} (_h:RE R L S E w) (t0:Nat) (_nE:t0<L.n) (j:Nat) (_hj:j<28) (v:Value) (e':aS σ) (_hd:e'.dw=(E.th t0).dw) (_hg:e'.tg=(E.th t0).tg) (_hn:e'.now=(E.th t0).now) (_hf:e'.cC=(E.th t0).cC) (_hp:e'.aI=(E.th t0).aI) (_UK:∀ c0 c1 d0 d1 pv,(aO L t0 (E.th t0) [c0,c1] [d0,d1] pv).set j v=aO L t0 e' [c0,c1] [d0,d1] pv),RE R L S {E with th:=aH E.th t0 e'} (w.setCell ⟨L.g,t0*28+j,none⟩ v)
def row.RE.fL:Prop:=∀ {σ:Type} {R:SR σ} {L:Lt} {S:Nat→Prop} {E:aK σ} {w:World} (_h:RE R L S E w) (t0:Nat) (_nE:t0<L.n) (j:Nat) (_hj:j<30) (v:Value) (e':aS σ) (_hd:e'.dw=(E.th t0).dw) (_hg:e'.tg=(E.th t0).tg) (_hn:e'.now=(E.th t0).now) (_hf:e'.cC=(E.th t0).cC) (_hp:e'.aI=(E.th t0).aI) (_UK:∀ c0 c1 c2 d0 d1 d2 pv,(aO L t0 (E.th t0) [c0,c1,c2] [d0,d1,d2] pv).set j v=aO L t0 e' [c0,c1,c2] [d0,d1,d2] pv),RE R L S {E with th:=aH E.th t0 e'} (w.setCell ⟨L.g,t0*30+j,none⟩ v)
open row in
theorem mF:int.RE.fL∧list.RE.fL∧tree.RE.fL∧row.RE.fL:=by
 refine ⟨@mkK _ 0 ?_,@mkK _ 1 ?_,@mkK _ 2 ?_,@mkK _ 3 ?_⟩<;>intro kk σ R L S E w h t0 oG j hj v e' hd hg hn hf hp wI
 all_goals
  obtain ⟨sp,oF,yR⟩:=h.po
  obtain ⟨T,iR,xO⟩:=h.th
  have hown:L.own (L.g):=.inr (.inr (.inr (.inr (.inr (.inl rfl)))))
  first|(have _:Kn 0:=kk;have ho:∀ k,k≠L.g→(w.setCell ⟨L.g,t0*28+j,none⟩ v).heap[k]?=w.heap[k]?:=fun k hk=>Below.heap_setCell w _ _ k hk)|(have _:Kn 1:=kk;have ho:∀ k,k≠L.g→(w.setCell ⟨L.g,t0*28+j,none⟩ v).heap[k]?=w.heap[k]?:=fun k hk=>Below.heap_setCell w _ _ k hk)|(have _:Kn 2:=kk;have ho:∀ k,k≠L.g→(w.setCell ⟨L.g,t0*28+j,none⟩ v).heap[k]?=w.heap[k]?:=fun k hk=>Below.heap_setCell w _ _ k hk)|(have _:Kn 3:=kk;have ho:∀ k,k≠L.g→(w.setCell ⟨L.g,t0*30+j,none⟩ v).heap[k]?=w.heap[k]?:=fun k hk=>Below.heap_setCell w _ _ k hk)
  first|(have _:Kn 0:=kk;have hst:∀ k,(S k∧¬L.own k)→k<w.heap.size→(S k∧¬L.own k)∧(w.setCell ⟨L.g,t0*28+j,none⟩ v).heap[k]?=w.heap[k]?:=fun k hk _=>⟨hk,ho k (by rintro rfl;exact hk.2 hown)⟩)|(have _:Kn 1:=kk;have hst:∀ k,(S k∧¬L.own k)→k<w.heap.size→(S k∧¬L.own k)∧(w.setCell ⟨L.g,t0*28+j,none⟩ v).heap[k]?=w.heap[k]?:=fun k hk _=>⟨hk,ho k (by rintro rfl;exact hk.2 hown)⟩)|(have _:Kn 2:=kk;have hst:∀ k,(S k∧¬L.own k)→k<w.heap.size→(S k∧¬L.own k)∧(w.setCell ⟨L.g,t0*28+j,none⟩ v).heap[k]?=w.heap[k]?:=fun k hk _=>⟨hk,ho k (by rintro rfl;exact hk.2 hown)⟩)|(have _:Kn 3:=kk;have hst:∀ k,(S k∧¬L.own k)→k<w.heap.size→(S k∧¬L.own k)∧(w.setCell ⟨L.g,t0*30+j,none⟩ v).heap[k]?=w.heap[k]?:=fun k hk _=>⟨hk,ho k (by rintro rfl;exact hk.2 hown)⟩)
  have hI:∀ k,(S k∧¬L.own k)→k<w.heap.size:=fun k hk=>h.lt k hk.1
  refine {ok:=h.ok,qM:=h.qM.of_block (ho _ (fun q=>h.pJ.2 (by rw [q];exact hown))),pJ:=h.pJ,sh:=?sh,tg:=?tg,an:=?an,po:=?po,rw:=?rw,th:=?th,gd:=?gd,gg:=?gg,ow:=h.ow,lt:=fun k hk=>(by simpa [World.setCell] using h.lt k hk)}
  case sh =>
   exact h.sh.of_block (ho _ (Row.apart h.sh iR (by decide)))
  case tg =>
   exact h.tg.of_block (ho _ (Row.apart h.tg iR (by decide)))
  case an =>
   exact h.an.of_block (ho _ (Row.apart h.an iR (by decide)))
  case po =>
   exact ⟨sp,oF.of_block (ho _ (Row.apart oF iR (by decide))),fun r hr=>(yR r hr).stay hst hI⟩
  case rw =>
   exact fun r hr=>(h.rw r hr).of_block (ho _ (Row.apart (h.rw r hr) iR (by decide)))
  case th =>
   refine ⟨_,iR.set hj v,fun t ht=>?_⟩
   obtain ⟨cv,cf,pv,q⟩:=xO t ht
   refine ⟨cv,cf,pv,?_⟩
   show fY R L _ _ t (aH E.th t0 e' t) (aH T t0 (aH (T t0) j v) t) _ _ _
   have q':=q.stay hst hI
   by_cases c:t=t0
   ·subst c
    rw [aC,aC]
    first|(have _:Kn 0:=kk;obtain ⟨c0,c1,rfl⟩:=int.aD q.now.1)|(have _:Kn 1:=kk;obtain ⟨c0,c1,rfl⟩:=int.aD q.now.1)|(have _:Kn 2:=kk;obtain ⟨c0,c1,rfl⟩:=int.aD q.now.1)|(have _:Kn 3:=kk;obtain ⟨c0,c1,c2,rfl⟩:=row.aD q.now.1)
    first|(have _:Kn 0:=kk;obtain ⟨d0,d1,rfl⟩:=int.aD q.cC.1)|(have _:Kn 1:=kk;obtain ⟨d0,d1,rfl⟩:=int.aD q.cC.1)|(have _:Kn 2:=kk;obtain ⟨d0,d1,rfl⟩:=int.aD q.cC.1)|(have _:Kn 3:=kk;obtain ⟨d0,d1,d2,rfl⟩:=row.aD q.cC.1)
    refine ⟨?_,by rw [hn];exact q'.now,by rw [hf];exact q'.cC,by rw [hp];exact q'.aI⟩
    have:=q.like.set j v
    rwa [wI] at this
   ·rw [aE _ _ c,aE _ _ c];exact q'
  case gd =>
   intro t ht
   refine ((h.gd t ht).of_block (ho _ (Row.apart (h.gd t ht) iR (by decide)))).congr (fun k _=>?_)
   show _=Value.int .i64 ((aH E.th t0 e' t).dw k)
   rw [xP _ _ _ hd]
  case gg =>
   intro t ht
   refine ((h.gg t ht).of_block (ho _ (Row.apart (h.gg t ht) iR (by decide)))).congr (fun k _=>?_)
   show _=Value.int .i64 ((aH E.th t0 e' t).tg k)
   rw [xQ _ _ _ hg]
theorem int.RE.lG:fL:=mF.1
theorem list.RE.lG:fL:=mF.2.1
theorem tree.RE.lG:fL:=mF.2.2.1
theorem row.RE.lG:fL:=mF.2.2.2
def int.RE.jC:Prop:=∀ {σ:Type} {R:SR σ} {L:Lt} {S:Nat→Prop} {E:aK σ} {w:World} (_h:RE R L S E w) (t0:Nat) (_nE:t0<L.n) (pv:Value) (p:List Nat) (_hp:kD (fun k=>S k∧¬L.own k) w p pv) (e':aS σ) (_he:e' = {E.th t0 with aI:=p}) (_hd:e'.dw=(E.th t0).dw) (_hg:e'.tg=(E.th t0).tg),RE R L S {E with th:=aH E.th t0 e'} (w.setCell ⟨L.g,t0*28+20,none⟩ pv)
def list.RE.jC:Prop:=∀ {σ:Type} {R:SR σ} {L:Lt} {S:Nat→Prop} {E:aK σ} {w:World} (_h:RE R L S E w) (t0:Nat) (_nE:t0<L.n) (pv:Value) (p:List Nat) (_hp:kD (fun k=>S k∧¬L.own k) w p pv) (e':aS σ) (_he:e' = {E.th t0 with aI:=p}) (_hd:e'.dw=(E.th t0).dw) (_hg:e'.tg=(E.th t0).tg),RE R L S {E with th:=aH E.th t0 e'} (w.setCell ⟨L.g,t0*28+20,none⟩ pv)
def tree.RE.jC:Prop:=∀ {σ:Type} {R:SR σ} {L:Lt} {S:Nat→Prop} {E:aK σ} {w:World} (_h:RE R L S E w) (t0:Nat) (_nE:t0<L.n) (pv:Value) (p:List Nat) (_hp:kD (fun k=>S k∧¬L.own k) w p pv) (e':aS σ) (_he:e' = {E.th t0 with aI:=p}) (_hd:e'.dw=(E.th t0).dw) (_hg:e'.tg=(E.th t0).tg),RE R L S {E with th:=aH E.th t0 e'} (w.setCell ⟨L.g,t0*28+20,none⟩ pv)
theorem qN:int.RE.jC∧list.RE.jC∧tree.RE.jC:=by
 refine ⟨?_,?_,?_⟩<;>intro σ R L S E w h t0 oG pv p hp e' he hd hg
 all_goals
  obtain ⟨sp,oF,yR⟩:=h.po
  obtain ⟨T,iR,xO⟩:=h.th
  have hown:L.own (L.g):=.inr (.inr (.inr (.inr (.inr (.inl rfl)))))
  have ho:∀ k,k≠L.g→(w.setCell ⟨L.g,t0*28+20,none⟩ pv).heap[k]?=w.heap[k]?:=fun k hk=>Below.heap_setCell w _ _ k hk
  have hst:∀ k,(S k∧¬L.own k)→k<w.heap.size→(S k∧¬L.own k)∧(w.setCell ⟨L.g,t0*28+20,none⟩ pv).heap[k]?=w.heap[k]?:=fun k hk _=>⟨hk,ho k (by rintro rfl;exact hk.2 hown)⟩
  have hI:∀ k,(S k∧¬L.own k)→k<w.heap.size:=fun k hk=>h.lt k hk.1
  refine {ok:=h.ok,qM:=h.qM.of_block (ho _ (fun q=>h.pJ.2 (by rw [q];exact hown))),pJ:=h.pJ,sh:=?sh,tg:=?tg,an:=?an,po:=?po,rw:=?rw,th:=?th,gd:=?gd,gg:=?gg,ow:=h.ow,lt:=fun k hk=>(by simpa [World.setCell] using h.lt k hk)}
  case sh =>
   exact h.sh.of_block (ho _ (Row.apart h.sh iR (by decide)))
  case tg =>
   exact h.tg.of_block (ho _ (Row.apart h.tg iR (by decide)))
  case an =>
   exact h.an.of_block (ho _ (Row.apart h.an iR (by decide)))
  case po =>
   exact ⟨sp,oF.of_block (ho _ (Row.apart oF iR (by decide))),fun r hr=>(yR r hr).stay hst hI⟩
  case rw =>
   exact fun r hr=>(h.rw r hr).of_block (ho _ (Row.apart (h.rw r hr) iR (by decide)))
  case th =>
   refine ⟨_,iR.set (j:=20) (by decide) pv,fun t ht=>?_⟩
   obtain ⟨cv,cf,pv0,q⟩:=xO t ht
   have q':=q.stay hst hI
   by_cases c:t=t0
   ·subst c
    refine ⟨cv,cf,pv,?_⟩
    show fY R L _ _ t (aH E.th t e' t) (aH T t (aH (T t) 20 pv) t) _ _ _
    rw [aC,aC,he]
    obtain ⟨c0,c1,rfl⟩:=aD q.now.1
    obtain ⟨d0,d1,rfl⟩:=aD q.cC.1
    exact ⟨q.like.set 20 pv,q'.now,q'.cC,hp.stay hst hI⟩
   ·refine ⟨cv,cf,pv0,?_⟩
    show fY R L _ _ t (aH E.th t0 e' t) (aH T t0 (aH (T t0) 20 pv) t) _ _ _
    rw [aE _ _ c,aE _ _ c];exact q'
  case gd =>
   intro t ht
   refine ((h.gd t ht).of_block (ho _ (Row.apart (h.gd t ht) iR (by decide)))).congr (fun k _=>?_)
   show _=Value.int .i64 ((aH E.th t0 e' t).dw k)
   rw [xP _ _ _ hd]
  case gg =>
   intro t ht
   refine ((h.gg t ht).of_block (ho _ (Row.apart (h.gg t ht) iR (by decide)))).congr (fun k _=>?_)
   show _=Value.int .i64 ((aH E.th t0 e' t).tg k)
   rw [xQ _ _ _ hg]
theorem int.RE.wJ:jC:=qN.1
theorem list.RE.wJ:jC:=qN.2.1
theorem tree.RE.wJ:jC:=qN.2.2
theorem row.RE.wJ {σ:Type} {R:SR σ} {L:Lt} {S:Nat→Prop} {E:aK σ} {w:World} (h:RE R L S E w) (t0:Nat) (oG:t0<L.n) (pv:Value) (p:List Nat) (hp:kD (fun k=>S k∧¬L.own k) w p pv) (e':aS σ) (he:e' = {E.th t0 with aI:=p}) (hd:e'.dw=(E.th t0).dw) (hg:e'.tg=(E.th t0).tg):RE R L S {E with th:=aH E.th t0 e'} (w.setCell ⟨L.g,t0*30+22,none⟩ pv):=by
 obtain ⟨sp,oF,yR⟩:=h.po
 obtain ⟨T,iR,xO⟩:=h.th
 have hown:L.own (L.g):=.inr (.inr (.inr (.inr (.inr (.inl rfl)))))
 have ho:∀ k,k≠L.g→(w.setCell ⟨L.g,t0*30+22,none⟩ pv).heap[k]?=w.heap[k]?:=fun k hk=>Below.heap_setCell w _ _ k hk
 have hst:∀ k,(S k∧¬L.own k)→k<w.heap.size→(S k∧¬L.own k)∧(w.setCell ⟨L.g,t0*30+22,none⟩ pv).heap[k]?=w.heap[k]?:=fun k hk _=>⟨hk,ho k (by rintro rfl;exact hk.2 hown)⟩
 have hI:∀ k,(S k∧¬L.own k)→k<w.heap.size:=fun k hk=>h.lt k hk.1
 refine {ok:=h.ok,qM:=h.qM.of_block (ho _ (fun q=>h.pJ.2 (by rw [q];exact hown))),pJ:=h.pJ,sh:=?sh,tg:=?tg,an:=?an,po:=?po,rw:=?rw,th:=?th,gd:=?gd,gg:=?gg,ow:=h.ow,lt:=fun k hk=>(by simpa [World.setCell] using h.lt k hk)}
 case sh =>
  exact h.sh.of_block (ho _ (Row.apart h.sh iR (by decide)))
 case tg =>
  exact h.tg.of_block (ho _ (Row.apart h.tg iR (by decide)))
 case an =>
  exact h.an.of_block (ho _ (Row.apart h.an iR (by decide)))
 case po =>
  exact ⟨sp,oF.of_block (ho _ (Row.apart oF iR (by decide))),fun r hr=>(yR r hr).stay hst hI⟩
 case rw =>
  exact fun r hr=>(h.rw r hr).of_block (ho _ (Row.apart (h.rw r hr) iR (by decide)))
 case th =>
  refine ⟨_,iR.set (j:=22) (by decide) pv,fun t ht=>?_⟩
  obtain ⟨cv,cf,pv0,q⟩:=xO t ht
  have q':=q.stay hst hI
  by_cases c:t=t0
  ·subst c
   refine ⟨cv,cf,pv,?_⟩
   show fY R L _ _ t (aH E.th t e' t) (aH T t (aH (T t) 22 pv) t) _ _ _
   rw [aC,aC,he]
   obtain ⟨c0,c1,c2,rfl⟩:=aD q.now.1
   obtain ⟨d0,d1,d2,rfl⟩:=aD q.cC.1
   exact ⟨q.like.set 22 pv,q'.now,q'.cC,hp.stay hst hI⟩
  ·refine ⟨cv,cf,pv0,?_⟩
   show fY R L _ _ t (aH E.th t0 e' t) (aH T t0 (aH (T t0) 22 pv) t) _ _ _
   rw [aE _ _ c,aE _ _ c];exact q'
 case gd =>
  intro t ht
  refine ((h.gd t ht).of_block (ho _ (Row.apart (h.gd t ht) iR (by decide)))).congr (fun k _=>?_)
  show _=Value.int .i64 ((aH E.th t0 e' t).dw k)
  rw [xP _ _ _ hd]
 case gg =>
  intro t ht
  refine ((h.gg t ht).of_block (ho _ (Row.apart (h.gg t ht) iR (by decide)))).congr (fun k _=>?_)
  show _=Value.int .i64 ((aH E.th t0 e' t).tg k)
  rw [xQ _ _ _ hg]
end Go.Proofs.YtefjhnhdagolhabGreat
