import Derived.Test.YtefjhnhdagolhaaGreatQ19
import Derived.Test.YtefjhnhdagolhaaGreatQ13
set_option maxHeartbeats 1000000
namespace Go.Proofs.YtefjhnhdagolhaaGreat
open int list tree
open Go.RowKit
open M (aI aC aD Op cY aS aK tw aQ)
theorem int.xA (f:Nat→Int) (i:Nat) (v:Int) (k:Nat):aI (fun i=>Value.int .i64 (f i)) i (.int .i64 v) k = .int .i64 (aI f i v k):=by unfold aI;split<;>rfl
theorem int.yI {σ:Type} (f:Nat→aS σ) (t:Nat) (e:aS σ) (h:e.dw=(f t).dw) (u:Nat):(aI f t e u).dw=(f u).dw:=by
 by_cases q:u=t
 ·subst q;rw [aC,h]
 ·rw [aD _ _ q]
theorem int.yJ {σ:Type} (f:Nat→aS σ) (t:Nat) (e:aS σ) (h:e.tg=(f t).tg) (u:Nat):(aI f t e u).tg=(f u).tg:=by
 by_cases q:u=t
 ·subst q;rw [aC,h]
 ·rw [aD _ _ q]
theorem int.aE {l:List Value} (h:l.length=1+1):∃ c0 c1,l=[c0,c1]:=by
 match l,h with
 |[c0,c1],_=>exact ⟨c0,c1,rfl⟩
theorem row.aE {l:List Value} (h:l.length=2+1):∃ c0 c1 c2,l=[c0,c1,c2]:=by
 match l,h with
 |[c0,c1,c2],_=>exact ⟨c0,c1,c2,rfl⟩
def int.RE.pE:Prop:=∀ {σ:Type} {R:SR σ} {L:Lt} {S:Nat→Prop} {E:aK σ} {w w':World} (_h:RE R L S E w) {S':Nat→Prop} (_hb:∀ k,S k→w'.heap[k]?=w.heap[k]?) (_hS:∀ k,S k→S' k) (_hl:∀ k,S' k→k<w'.heap.size),RE R L S' E w'
def list.RE.pE:Prop:=∀ {σ:Type} {R:SR σ} {L:Lt} {S:Nat→Prop} {E:aK σ} {w w':World} (_h:RE R L S E w) {S':Nat→Prop} (_hb:∀ k,S k→w'.heap[k]?=w.heap[k]?) (_hS:∀ k,S k→S' k) (_hl:∀ k,S' k→k<w'.heap.size),RE R L S' E w'
def tree.RE.pE:Prop:=∀ {σ:Type} {R:SR σ} {L:Lt} {S:Nat→Prop} {E:aK σ} {w w':World} (_h:RE R L S E w) {S':Nat→Prop} (_hb:∀ k,S k→w'.heap[k]?=w.heap[k]?) (_hS:∀ k,S k→S' k) (_hl:∀ k,S' k→k<w'.heap.size),RE R L S' E w'
def row.RE.pE:Prop:=∀ {σ:Type} {R:SR σ} {L:Lt} {S:Nat→Prop} {E:aK σ} {w w':World} (_h:RE R L S E w) {S':Nat→Prop} (_hb:∀ k,S k→w'.heap[k]?=w.heap[k]?) (_hS:∀ k,S k→S' k) (_hl:∀ k,S' k→k<w'.heap.size),RE R L S' E w'
open row in
theorem uQ:int.RE.pE∧list.RE.pE∧tree.RE.pE∧row.RE.pE:=by
 refine ⟨?_,?_,?_,?_⟩<;>intro σ R L S E w w' h S' hb hS hl
 all_goals
  have hst:∀ k,(S k∧¬L.own k)→k<w.heap.size→(S' k∧¬L.own k)∧w'.heap[k]?=w.heap[k]?:=fun k hk _=>⟨⟨hS k hk.1,hk.2⟩,hb k hk.1⟩
  have hI:∀ k,(S k∧¬L.own k)→k<w.heap.size:=fun k hk=>h.lt k hk.1
  have ow:∀ {k},L.own k→w'.heap[k]?=w.heap[k]?:=fun hk=>hb _ (h.ow _ hk)
  obtain ⟨sp,lY,qC⟩:=h.po
  obtain ⟨T,iZ,zQ⟩:=h.th
  refine {ok:=h.ok,oQ:=h.oQ.of_block (hb _ h.pU.1),pU:=⟨hS _ h.pU.1,h.pU.2⟩,sh:=h.sh.of_block (ow (.inl rfl)),tg:=h.tg.of_block (ow (.inr (.inl rfl))),an:=h.an.of_block (ow (.inr (.inr (.inl rfl)))),po:=?po,rw:=?rw,th:=?th,gd:=?gd,gg:=?gg,ow:=fun k hk=>hS k (h.ow k hk),lt:=hl}
  case po=>exact ⟨sp,lY.of_block (ow (.inr (.inr (.inr (.inl rfl))))),fun r hr=>(qC r hr).stay hst hI⟩
  case rw=>exact fun r hr=>(h.rw r hr).of_block (ow (.inr (.inr (.inr (.inr (.inl ⟨r,hr,rfl⟩))))))
  case th =>
   refine ⟨T,iZ.of_block (ow (.inr (.inr (.inr (.inr (.inr (.inl rfl))))))),fun t ht=>?_⟩
   obtain ⟨cv,cf,pv,q⟩:=zQ t ht
   exact ⟨cv,cf,pv,q.stay hst hI⟩
  case gd=>exact fun t ht=>(h.gd t ht).of_block (ow (.inr (.inr (.inr (.inr (.inr (.inr ⟨t,ht,.inl rfl⟩)))))))
  case gg=>exact fun t ht=>(h.gg t ht).of_block (ow (.inr (.inr (.inr (.inr (.inr (.inr ⟨t,ht,.inr rfl⟩)))))))
theorem int.RE.stay:pE:=uQ.1
theorem list.RE.stay:pE:=uQ.2.1
theorem tree.RE.stay:pE:=uQ.2.2.1
theorem row.RE.stay:pE:=uQ.2.2.2
def int.grown (S:Nat→Prop) (w w':World) (k:Nat):Prop:=S k∨(w.heap.size≤k∧k<w'.heap.size)
theorem int.RE.below {σ:Type} {R:SR σ} {L:Lt} {S:Nat→Prop} {E:aK σ} {w w':World} (h:RE R L S E w) (hb:Below w.heap.size w w'):RE R L (grown S w w') E w':=by
 refine h.stay (fun k hk=>hb.block k (h.lt k hk)) (fun k hk=>.inl hk) (fun k hk=>?_)
 rcases hk with hk|hk
 ·exact Nat.lt_of_lt_of_le (h.lt k hk) hb.size
 ·exact hk.2
theorem list.RE.below {σ:Type} {R:SR σ} {L:Lt} {S:Nat→Prop} {E:aK σ} {w w':World} (h:RE R L S E w) (hb:Below w.heap.size w w'):RE R L (grown S w w') E w':=by
 refine h.stay (fun k hk=>hb.block k (h.lt k hk)) (fun k hk=>.inl hk) (fun k hk=>?_)
 rcases hk with hk|hk
 ·exact Nat.lt_of_lt_of_le (h.lt k hk) hb.size
 ·exact hk.2
theorem tree.RE.below {σ:Type} {R:SR σ} {L:Lt} {S:Nat→Prop} {E:aK σ} {w w':World} (h:RE R L S E w) (hb:Below w.heap.size w w'):RE R L (grown S w w') E w':=by
 refine h.stay (fun k hk=>hb.block k (h.lt k hk)) (fun k hk=>.inl hk) (fun k hk=>?_)
 rcases hk with hk|hk
 ·exact Nat.lt_of_lt_of_le (h.lt k hk) hb.size
 ·exact hk.2
theorem row.RE.below {σ:Type} {R:SR σ} {L:Lt} {S:Nat→Prop} {E:aK σ} {w w':World} (h:RE R L S E w) (hb:Below w.heap.size w w'):RE R L (grown S w w') E w':=by
 refine h.stay (fun k hk=>hb.block k (h.lt k hk)) (fun k hk=>.inl hk) (fun k hk=>?_)
 rcases hk with hk|hk
 ·exact Nat.lt_of_lt_of_le (h.lt k hk) hb.size
 ·exact hk.2
theorem int.RE.drewN {σ:Type} {R:SR σ} {L:Lt} {S:Nat→Prop} {E:aK σ} {w:World} (h:RE R L S E w) (n:Nat):RE R L S E (w.drewN n):=h.stay (fun _ _=>rfl) (fun _ hk=>hk) h.lt
theorem list.RE.drewN {σ:Type} {R:SR σ} {L:Lt} {S:Nat→Prop} {E:aK σ} {w:World} (h:RE R L S E w) (n:Nat):RE R L S E (w.drewN n):=h.stay (fun _ _=>rfl) (fun _ hk=>hk) h.lt
theorem tree.RE.drewN {σ:Type} {R:SR σ} {L:Lt} {S:Nat→Prop} {E:aK σ} {w:World} (h:RE R L S E w) (n:Nat):RE R L S E (w.drewN n):=h.stay (fun _ _=>rfl) (fun _ hk=>hk) h.lt
theorem row.RE.drewN {σ:Type} {R:SR σ} {L:Lt} {S:Nat→Prop} {E:aK σ} {w:World} (h:RE R L S E w) (n:Nat):RE R L S E (w.drewN n):=h.stay (fun _ _=>rfl) (fun _ hk=>hk) h.lt
theorem int.RE.mono {σ:Type} {R:SR σ} {L:Lt} {S:Nat→Prop} {E:aK σ} {w:World} (h:RE R L S E w) {S':Nat→Prop} (hS:∀ k,S k→S' k) (hl:∀ k,S' k→k<w.heap.size):RE R L S' E w:=h.stay (fun _ _=>rfl) hS hl
theorem list.RE.mono {σ:Type} {R:SR σ} {L:Lt} {S:Nat→Prop} {E:aK σ} {w:World} (h:RE R L S E w) {S':Nat→Prop} (hS:∀ k,S k→S' k) (hl:∀ k,S' k→k<w.heap.size):RE R L S' E w:=h.stay (fun _ _=>rfl) hS hl
theorem tree.RE.mono {σ:Type} {R:SR σ} {L:Lt} {S:Nat→Prop} {E:aK σ} {w:World} (h:RE R L S E w) {S':Nat→Prop} (hS:∀ k,S k→S' k) (hl:∀ k,S' k→k<w.heap.size):RE R L S' E w:=h.stay (fun _ _=>rfl) hS hl
theorem row.RE.mono {σ:Type} {R:SR σ} {L:Lt} {S:Nat→Prop} {E:aK σ} {w:World} (h:RE R L S E w) {S':Nat→Prop} (hS:∀ k,S k→S' k) (hl:∀ k,S' k→k<w.heap.size):RE R L S' E w:=h.stay (fun _ _=>rfl) hS hl
def int.RE.gS:Prop:=∀ {σ:Type} {R:SR σ} {L:Lt} {S:Nat→Prop} {E:aK σ} {w:World} (_h:RE R L S E w) (ps pr:Nat),RE R L S {E with cZ:=ps,prec:=pr} (w.setCell ⟨L.bS,5,none⟩ (.int .i64 ((ps:Int)*129+(pr:Int))))
def list.RE.gS:Prop:=∀ {σ:Type} {R:SR σ} {L:Lt} {S:Nat→Prop} {E:aK σ} {w:World} (_h:RE R L S E w) (ps pr:Nat),RE R L S {E with cZ:=ps,prec:=pr} (w.setCell ⟨L.bS,5,none⟩ (.int .i64 ((ps:Int)*129+(pr:Int))))
def tree.RE.gS:Prop:=∀ {σ:Type} {R:SR σ} {L:Lt} {S:Nat→Prop} {E:aK σ} {w:World} (_h:RE R L S E w) (ps pr:Nat),RE R L S {E with cZ:=ps,prec:=pr} (w.setCell ⟨L.bS,5,none⟩ (.int .i64 ((ps:Int)*129+(pr:Int))))
def row.RE.gS:Prop:=∀ {σ:Type} {R:SR σ} {L:Lt} {S:Nat→Prop} {E:aK σ} {w:World} (_h:RE R L S E w) (ps pr:Nat),RE R L S {E with cZ:=ps,prec:=pr} (w.setCell ⟨L.bS,5,none⟩ (.int .i64 ((ps:Int)*129+(pr:Int))))
open row in
theorem nX:int.RE.gS∧list.RE.gS∧tree.RE.gS∧row.RE.gS:=by
 refine ⟨?_,?_,?_,?_⟩<;>intro σ R L S E w h ps pr
 all_goals
  obtain ⟨sp,lY,qC⟩:=h.po
  obtain ⟨T,iZ,zQ⟩:=h.th
  have hown:L.own (L.bS):=.inl rfl
  have ho:∀ k,k≠L.bS→(w.setCell ⟨L.bS,5,none⟩ (.int .i64 ((ps:Int)*129+(pr:Int)))).heap[k]?=w.heap[k]?:=fun k hk=>Below.heap_setCell w _ _ k hk
  have hst:∀ k,(S k∧¬L.own k)→k<w.heap.size→(S k∧¬L.own k)∧(w.setCell ⟨L.bS,5,none⟩ (.int .i64 ((ps:Int)*129+(pr:Int)))).heap[k]?=w.heap[k]?:=fun k hk _=>⟨hk,ho k (by rintro rfl;exact hk.2 hown)⟩
  have hI:∀ k,(S k∧¬L.own k)→k<w.heap.size:=fun k hk=>h.lt k hk.1
  refine {ok:=h.ok,oQ:=h.oQ.of_block (ho _ (fun q=>h.pU.2 (by rw [q];exact hown))),pU:=h.pU,sh:=?sh,tg:=?tg,an:=?an,po:=?po,rw:=?rw,th:=?th,gd:=?gd,gg:=?gg,ow:=h.ow,lt:=fun k hk=>(by simpa [World.setCell] using h.lt k hk)}
  case sh =>
   exact h.sh.set 5 _
  case tg =>
   exact h.tg.of_block (ho _ (Row.apart h.tg h.sh (by decide)))
  case an =>
   exact h.an.of_block (ho _ (Row.apart h.an h.sh (by decide)))
  case po =>
   exact ⟨sp,lY.of_block (ho _ (Row.apart lY h.sh (by decide))),fun r hr=>(qC r hr).stay hst hI⟩
  case rw =>
   exact fun r hr=>(h.rw r hr).of_block (ho _ (Row.apart (h.rw r hr) h.sh (by decide)))
  case th =>
   refine ⟨T,iZ.of_block (ho _ (Row.apart iZ h.sh (by decide))),fun t ht=>?_⟩
   obtain ⟨cv,cf,pv,q⟩:=zQ t ht
   exact ⟨cv,cf,pv,q.stay hst hI⟩
  case gd =>
   exact fun t ht=>(h.gd t ht).of_block (ho _ (Row.apart (h.gd t ht) h.sh (by decide)))
  case gg =>
   exact fun t ht=>(h.gg t ht).of_block (ho _ (Row.apart (h.gg t ht) h.sh (by decide)))
theorem int.RE.AD:gS:=nX.1
theorem list.RE.AD:gS:=nX.2.1
theorem tree.RE.AD:gS:=nX.2.2.1
theorem row.RE.AD:gS:=nX.2.2.2
def int.RE.gT:Prop:=∀ {σ:Type} {R:SR σ} {L:Lt} {S:Nat→Prop} {E:aK σ} {w:World} (_h:RE R L S E w) (i:Nat) (v:Int),RE R L S {E with bC:=aI E.bC i v} (w.setCell ⟨L.aY,i,none⟩ (.int .i64 v))
def list.RE.gT:Prop:=∀ {σ:Type} {R:SR σ} {L:Lt} {S:Nat→Prop} {E:aK σ} {w:World} (_h:RE R L S E w) (i:Nat) (v:Int),RE R L S {E with bC:=aI E.bC i v} (w.setCell ⟨L.aY,i,none⟩ (.int .i64 v))
def tree.RE.gT:Prop:=∀ {σ:Type} {R:SR σ} {L:Lt} {S:Nat→Prop} {E:aK σ} {w:World} (_h:RE R L S E w) (i:Nat) (v:Int),RE R L S {E with bC:=aI E.bC i v} (w.setCell ⟨L.aY,i,none⟩ (.int .i64 v))
def row.RE.gT:Prop:=∀ {σ:Type} {R:SR σ} {L:Lt} {S:Nat→Prop} {E:aK σ} {w:World} (_h:RE R L S E w) (i:Nat) (v:Int),RE R L S {E with bC:=aI E.bC i v} (w.setCell ⟨L.aY,i,none⟩ (.int .i64 v))
open row in
theorem nY:int.RE.gT∧list.RE.gT∧tree.RE.gT∧row.RE.gT:=by
 refine ⟨?_,?_,?_,?_⟩<;>intro σ R L S E w h i v
 all_goals
  obtain ⟨sp,lY,qC⟩:=h.po
  obtain ⟨T,iZ,zQ⟩:=h.th
  have hown:L.own (L.aY):=.inr (.inl rfl)
  have ho:∀ k,k≠L.aY→(w.setCell ⟨L.aY,i,none⟩ (.int .i64 v)).heap[k]?=w.heap[k]?:=fun k hk=>Below.heap_setCell w _ _ k hk
  have hst:∀ k,(S k∧¬L.own k)→k<w.heap.size→(S k∧¬L.own k)∧(w.setCell ⟨L.aY,i,none⟩ (.int .i64 v)).heap[k]?=w.heap[k]?:=fun k hk _=>⟨hk,ho k (by rintro rfl;exact hk.2 hown)⟩
  have hI:∀ k,(S k∧¬L.own k)→k<w.heap.size:=fun k hk=>h.lt k hk.1
  refine {ok:=h.ok,oQ:=h.oQ.of_block (ho _ (fun q=>h.pU.2 (by rw [q];exact hown))),pU:=h.pU,sh:=?sh,tg:=?tg,an:=?an,po:=?po,rw:=?rw,th:=?th,gd:=?gd,gg:=?gg,ow:=h.ow,lt:=fun k hk=>(by simpa [World.setCell] using h.lt k hk)}
  case sh =>
   exact h.sh.of_block (ho _ (Row.apart h.sh h.tg (by decide)))
  case tg =>
   exact (h.tg.set i _).congr (fun k _=>xA E.bC i v k)
  case an =>
   exact h.an.of_block (ho _ (Row.apart h.an h.tg (by decide)))
  case po =>
   exact ⟨sp,lY.of_block (ho _ (Row.apart lY h.tg (by decide))),fun r hr=>(qC r hr).stay hst hI⟩
  case rw =>
   exact fun r hr=>(h.rw r hr).of_block (ho _ (Ne.symm (h.ok.tw r hr)))
  case th =>
   refine ⟨T,iZ.of_block (ho _ (Row.apart iZ h.tg (by decide))),fun t ht=>?_⟩
   obtain ⟨cv,cf,pv,q⟩:=zQ t ht
   exact ⟨cv,cf,pv,q.stay hst hI⟩
  case gd =>
   exact fun t ht=>(h.gd t ht).of_block (ho _ (Row.apart (h.gd t ht) h.tg (by decide)))
  case gg =>
   exact fun t ht=>(h.gg t ht).of_block (ho _ (Row.apart (h.gg t ht) h.tg (by decide)))
theorem int.RE.xB:gT:=nY.1
theorem list.RE.xB:gT:=nY.2.1
theorem tree.RE.xB:gT:=nY.2.2.1
theorem row.RE.xB:gT:=nY.2.2.2
def int.RE.gU:Prop:=∀ {σ:Type} {R:SR σ} {L:Lt} {S:Nat→Prop} {E:aK σ} {w:World} (_h:RE R L S E w) (t1 i:Nat) (_hi:i<3) (v:Int),RE R L S {E with eH:=aI E.eH t1 (aI (E.eH t1) i v)} (w.setCell ⟨L.aX,t1*3+i,none⟩ (.int .i64 v))
def list.RE.gU:Prop:=∀ {σ:Type} {R:SR σ} {L:Lt} {S:Nat→Prop} {E:aK σ} {w:World} (_h:RE R L S E w) (t1 i:Nat) (_hi:i<3) (v:Int),RE R L S {E with eH:=aI E.eH t1 (aI (E.eH t1) i v)} (w.setCell ⟨L.aX,t1*3+i,none⟩ (.int .i64 v))
def tree.RE.gU:Prop:=∀ {σ:Type} {R:SR σ} {L:Lt} {S:Nat→Prop} {E:aK σ} {w:World} (_h:RE R L S E w) (t1 i:Nat) (_hi:i<3) (v:Int),RE R L S {E with eH:=aI E.eH t1 (aI (E.eH t1) i v)} (w.setCell ⟨L.aX,t1*3+i,none⟩ (.int .i64 v))
def row.RE.gU:Prop:=∀ {σ:Type} {R:SR σ} {L:Lt} {S:Nat→Prop} {E:aK σ} {w:World} (_h:RE R L S E w) (t1 i:Nat) (_hi:i<3) (v:Int),RE R L S {E with eH:=aI E.eH t1 (aI (E.eH t1) i v)} (w.setCell ⟨L.aX,t1*3+i,none⟩ (.int .i64 v))
open row in
theorem nZ:int.RE.gU∧list.RE.gU∧tree.RE.gU∧row.RE.gU:=by
 refine ⟨?_,?_,?_,?_⟩<;>intro σ R L S E w h t1 i hi v
 all_goals
  obtain ⟨sp,lY,qC⟩:=h.po
  obtain ⟨T,iZ,zQ⟩:=h.th
  have hown:L.own (L.aX):=.inr (.inr (.inl rfl))
  have ho:∀ k,k≠L.aX→(w.setCell ⟨L.aX,t1*3+i,none⟩ (.int .i64 v)).heap[k]?=w.heap[k]?:=fun k hk=>Below.heap_setCell w _ _ k hk
  have hst:∀ k,(S k∧¬L.own k)→k<w.heap.size→(S k∧¬L.own k)∧(w.setCell ⟨L.aX,t1*3+i,none⟩ (.int .i64 v)).heap[k]?=w.heap[k]?:=fun k hk _=>⟨hk,ho k (by rintro rfl;exact hk.2 hown)⟩
  have hI:∀ k,(S k∧¬L.own k)→k<w.heap.size:=fun k hk=>h.lt k hk.1
  refine {ok:=h.ok,oQ:=h.oQ.of_block (ho _ (fun q=>h.pU.2 (by rw [q];exact hown))),pU:=h.pU,sh:=?sh,tg:=?tg,an:=?an,po:=?po,rw:=?rw,th:=?th,gd:=?gd,gg:=?gg,ow:=h.ow,lt:=fun k hk=>(by simpa [World.setCell] using h.lt k hk)}
  case sh =>
   exact h.sh.of_block (ho _ (Row.apart h.sh h.an (by decide)))
  case tg =>
   exact h.tg.of_block (ho _ (Row.apart h.tg h.an (by decide)))
  case an =>
   refine (h.an.set hi _).congr (fun k _=>?_)
   dsimp only
   by_cases q:k / 3=t1
   ·rw [q,aC,aC];exact xA _ i v _
   ·rw [aD _ _ q,aD _ _ q]
  case po =>
   exact ⟨sp,lY.of_block (ho _ (Row.apart lY h.an (by decide))),fun r hr=>(qC r hr).stay hst hI⟩
  case rw =>
   exact fun r hr=>(h.rw r hr).of_block (ho _ (Row.apart (h.rw r hr) h.an (by decide)))
  case th =>
   refine ⟨T,iZ.of_block (ho _ (Row.apart iZ h.an (by decide))),fun t ht=>?_⟩
   obtain ⟨cv,cf,pv,q⟩:=zQ t ht
   exact ⟨cv,cf,pv,q.stay hst hI⟩
  case gd =>
   exact fun t ht=>(h.gd t ht).of_block (ho _ (Row.apart (h.gd t ht) h.an (by decide)))
  case gg =>
   exact fun t ht=>(h.gg t ht).of_block (ho _ (Row.apart (h.gg t ht) h.an (by decide)))
theorem int.RE.AE:gU:=nZ.1
theorem list.RE.AE:gU:=nZ.2.1
theorem tree.RE.AE:gU:=nZ.2.2.1
theorem row.RE.AE:gU:=nZ.2.2.2
def int.RE.fK:Prop:=∀ {σ:Type} {R:SR σ} {L:Lt} {S:Nat→Prop} {E:aK σ} {w:World} (_h:RE R L S E w) (r0:Nat) (_NQ:r0<2*L.n+1) (i:Nat) (v:Int),RE R L S {E with rw:=aI E.rw r0 (aI (E.rw r0) i v)} (w.setCell ⟨L.bW r0,i,none⟩ (.int .i64 v))
def list.RE.fK:Prop:=∀ {σ:Type} {R:SR σ} {L:Lt} {S:Nat→Prop} {E:aK σ} {w:World} (_h:RE R L S E w) (r0:Nat) (_NQ:r0<2*L.n+1) (i:Nat) (v:Int),RE R L S {E with rw:=aI E.rw r0 (aI (E.rw r0) i v)} (w.setCell ⟨L.bW r0,i,none⟩ (.int .i64 v))
def tree.RE.fK:Prop:=∀ {σ:Type} {R:SR σ} {L:Lt} {S:Nat→Prop} {E:aK σ} {w:World} (_h:RE R L S E w) (r0:Nat) (_NQ:r0<2*L.n+1) (i:Nat) (v:Int),RE R L S {E with rw:=aI E.rw r0 (aI (E.rw r0) i v)} (w.setCell ⟨L.bW r0,i,none⟩ (.int .i64 v))
def row.RE.fK:Prop:=∀ {σ:Type} {R:SR σ} {L:Lt} {S:Nat→Prop} {E:aK σ} {w:World} (_h:RE R L S E w) (r0:Nat) (_NQ:r0<2*L.n+1) (i:Nat) (v:Int),RE R L S {E with rw:=aI E.rw r0 (aI (E.rw r0) i v)} (w.setCell ⟨L.bW r0,i,none⟩ (.int .i64 v))
open row in
theorem mH:int.RE.fK∧list.RE.fK∧tree.RE.fK∧row.RE.fK:=by
 refine ⟨?_,?_,?_,?_⟩<;>intro σ R L S E w h r0 QF i v
 all_goals
  obtain ⟨sp,lY,qC⟩:=h.po
  obtain ⟨T,iZ,zQ⟩:=h.th
  have hown:L.own (L.bW r0):=.inr (.inr (.inr (.inr (.inl ⟨r0,QF,rfl⟩))))
  have ho:∀ k,k≠L.bW r0→(w.setCell ⟨L.bW r0,i,none⟩ (.int .i64 v)).heap[k]?=w.heap[k]?:=fun k hk=>Below.heap_setCell w _ _ k hk
  have hst:∀ k,(S k∧¬L.own k)→k<w.heap.size→(S k∧¬L.own k)∧(w.setCell ⟨L.bW r0,i,none⟩ (.int .i64 v)).heap[k]?=w.heap[k]?:=fun k hk _=>⟨hk,ho k (by rintro rfl;exact hk.2 hown)⟩
  have hI:∀ k,(S k∧¬L.own k)→k<w.heap.size:=fun k hk=>h.lt k hk.1
  refine {ok:=h.ok,oQ:=h.oQ.of_block (ho _ (fun q=>h.pU.2 (by rw [q];exact hown))),pU:=h.pU,sh:=?sh,tg:=?tg,an:=?an,po:=?po,rw:=?rw,th:=?th,gd:=?gd,gg:=?gg,ow:=h.ow,lt:=fun k hk=>(by simpa [World.setCell] using h.lt k hk)}
  case sh =>
   exact h.sh.of_block (ho _ (Row.apart h.sh (h.rw r0 QF) (by decide)))
  case tg =>
   exact h.tg.of_block (ho _ (h.ok.tw r0 QF))
  case an =>
   exact h.an.of_block (ho _ (Row.apart h.an (h.rw r0 QF) (by decide)))
  case po =>
   exact ⟨sp,lY.of_block (ho _ (Row.apart lY (h.rw r0 QF) (by decide))),fun r hr=>(qC r hr).stay hst hI⟩
  case rw =>
   intro r hr
   show Fn _ _ _ _ (fun k=>.int .i64 (aI E.rw r0 (aI (E.rw r0) i v) r k))
   by_cases q:r=r0
   ·subst q
    rw [aC]
    exact ((h.rw r hr).set i _).congr (fun k _=>xA (E.rw r) i v k)
   ·rw [aD _ _ q]
    exact (h.rw r hr).of_block (ho _ (fun q2=>q (h.ok.ww r r0 hr QF q2)))
  case th =>
   refine ⟨T,iZ.of_block (ho _ (Row.apart iZ (h.rw r0 QF) (by decide))),fun t ht=>?_⟩
   obtain ⟨cv,cf,pv,q⟩:=zQ t ht
   exact ⟨cv,cf,pv,q.stay hst hI⟩
  case gd =>
   exact fun t ht=>(h.gd t ht).of_block (ho _ (Row.apart (h.gd t ht) (h.rw r0 QF) (by decide)))
  case gg =>
   exact fun t ht=>(h.gg t ht).of_block (ho _ (Row.apart (h.gg t ht) (h.rw r0 QF) (by decide)))
theorem int.RE.xC:fK:=mH.1
theorem list.RE.xC:fK:=mH.2.1
theorem tree.RE.xC:fK:=mH.2.2.1
theorem row.RE.xC:fK:=mH.2.2.2
def int.RE.eJ:Prop:=∀ {σ:Type} {R:SR σ} {L:Lt} {S:Nat→Prop} {E:aK σ} {w:World} (_h:RE R L S E w) (r0:Nat) (_NQ:r0<2*L.n+1) (b:Nat) (x:Option (cY σ×cY σ)) (_hx:jC R (fun k=>S k∧¬L.own k) w x (some b)),RE R L S {E with eX:=aI E.eX r0 x} (w.setCell ⟨L.bP,r0*2+1,none⟩ (.pointer (some ⟨b,0,none⟩)))
def list.RE.eJ:Prop:=∀ {σ:Type} {R:SR σ} {L:Lt} {S:Nat→Prop} {E:aK σ} {w:World} (_h:RE R L S E w) (r0:Nat) (_NQ:r0<2*L.n+1) (b:Nat) (x:Option (cY σ×cY σ)) (_hx:jC R (fun k=>S k∧¬L.own k) w x (some b)),RE R L S {E with eX:=aI E.eX r0 x} (w.setCell ⟨L.bP,r0*2+1,none⟩ (.pointer (some ⟨b,0,none⟩)))
def tree.RE.eJ:Prop:=∀ {σ:Type} {R:SR σ} {L:Lt} {S:Nat→Prop} {E:aK σ} {w:World} (_h:RE R L S E w) (r0:Nat) (_NQ:r0<2*L.n+1) (b:Nat) (x:Option (cY σ×cY σ)) (_hx:jC R (fun k=>S k∧¬L.own k) w x (some b)),RE R L S {E with eX:=aI E.eX r0 x} (w.setCell ⟨L.bP,r0*2+1,none⟩ (.pointer (some ⟨b,0,none⟩)))
def row.RE.eJ:Prop:=∀ {σ:Type} {R:SR σ} {L:Lt} {S:Nat→Prop} {E:aK σ} {w:World} (_h:RE R L S E w) (r0:Nat) (_NQ:r0<2*L.n+1) (b:Nat) (x:Option (cY σ×cY σ)) (_hx:jC R (fun k=>S k∧¬L.own k) w x (some b)),RE R L S {E with eX:=aI E.eX r0 x} (w.setCell ⟨L.bP,r0*2+1,none⟩ (.pointer (some ⟨b,0,none⟩)))
open row in
theorem lH:int.RE.eJ∧list.RE.eJ∧tree.RE.eJ∧row.RE.eJ:=by
 refine ⟨?_,?_,?_,?_⟩<;>intro σ R L S E w h r0 QF b x hx
 all_goals
  obtain ⟨sp,lY,qC⟩:=h.po
  obtain ⟨T,iZ,zQ⟩:=h.th
  have hown:L.own (L.bP):=.inr (.inr (.inr (.inl rfl)))
  have ho:∀ k,k≠L.bP→(w.setCell ⟨L.bP,r0*2+1,none⟩ (.pointer (some ⟨b,0,none⟩))).heap[k]?=w.heap[k]?:=fun k hk=>Below.heap_setCell w _ _ k hk
  have hst:∀ k,(S k∧¬L.own k)→k<w.heap.size→(S k∧¬L.own k)∧(w.setCell ⟨L.bP,r0*2+1,none⟩ (.pointer (some ⟨b,0,none⟩))).heap[k]?=w.heap[k]?:=fun k hk _=>⟨hk,ho k (by rintro rfl;exact hk.2 hown)⟩
  have hI:∀ k,(S k∧¬L.own k)→k<w.heap.size:=fun k hk=>h.lt k hk.1
  refine {ok:=h.ok,oQ:=h.oQ.of_block (ho _ (fun q=>h.pU.2 (by rw [q];exact hown))),pU:=h.pU,sh:=?sh,tg:=?tg,an:=?an,po:=?po,rw:=?rw,th:=?th,gd:=?gd,gg:=?gg,ow:=h.ow,lt:=fun k hk=>(by simpa [World.setCell] using h.lt k hk)}
  case sh =>
   exact h.sh.of_block (ho _ (Row.apart h.sh lY (by decide)))
  case tg =>
   exact h.tg.of_block (ho _ (Row.apart h.tg lY (by decide)))
  case an =>
   exact h.an.of_block (ho _ (Row.apart h.an lY (by decide)))
  case po =>
   refine ⟨aI sp r0 (some b),(lY.set (i:=r0) (j:=1) (by decide) _).congr (fun k _=>?_),fun r hr=>?_⟩
   ·by_cases q:k / 2=r0
    ·rw [q,aC]
     rcases Nat.mod_two_eq_zero_or_one k with m|m
     ·rw [m,aD _ _ (by decide)]
      rfl
     ·rw [m,aC]
      simp [aC]
    ·rw [aD _ _ q]
     simp [aD _ _ q]
   ·show jC R _ _ (aI E.eX r0 x r) (aI sp r0 (some b) r)
    by_cases q:r=r0
    ·subst q;rw [aC,aC];exact hx.stay hst hI
    ·rw [aD _ _ q,aD _ _ q];exact (qC r hr).stay hst hI
  case rw =>
   exact fun r hr=>(h.rw r hr).of_block (ho _ (Row.apart (h.rw r hr) lY (by decide)))
  case th =>
   refine ⟨T,iZ.of_block (ho _ (Row.apart iZ lY (by decide))),fun t ht=>?_⟩
   obtain ⟨cv,cf,pv,q⟩:=zQ t ht
   exact ⟨cv,cf,pv,q.stay hst hI⟩
  case gd =>
   exact fun t ht=>(h.gd t ht).of_block (ho _ (Row.apart (h.gd t ht) lY (by decide)))
  case gg =>
   exact fun t ht=>(h.gg t ht).of_block (ho _ (Row.apart (h.gg t ht) lY (by decide)))
theorem int.RE.rU:eJ:=lH.1
theorem list.RE.rU:eJ:=lH.2.1
theorem tree.RE.rU:eJ:=lH.2.2.1
theorem row.RE.rU:eJ:=lH.2.2.2
def int.RE.eK:Prop:=∀ {σ:Type} {R:SR σ} {L:Lt} {S:Nat→Prop} {E:aK σ} {w:World} (_h:RE R L S E w) (t0:Nat) (_nR:t0<L.n) (i:Nat) (v:Int),RE R L S {E with th:=aI E.th t0 {E.th t0 with dw:=aI (E.th t0).dw i v}} (w.setCell ⟨L.gD t0,i,none⟩ (.int .i64 v))
def list.RE.eK:Prop:=∀ {σ:Type} {R:SR σ} {L:Lt} {S:Nat→Prop} {E:aK σ} {w:World} (_h:RE R L S E w) (t0:Nat) (_nR:t0<L.n) (i:Nat) (v:Int),RE R L S {E with th:=aI E.th t0 {E.th t0 with dw:=aI (E.th t0).dw i v}} (w.setCell ⟨L.gD t0,i,none⟩ (.int .i64 v))
def tree.RE.eK:Prop:=∀ {σ:Type} {R:SR σ} {L:Lt} {S:Nat→Prop} {E:aK σ} {w:World} (_h:RE R L S E w) (t0:Nat) (_nR:t0<L.n) (i:Nat) (v:Int),RE R L S {E with th:=aI E.th t0 {E.th t0 with dw:=aI (E.th t0).dw i v}} (w.setCell ⟨L.gD t0,i,none⟩ (.int .i64 v))
def row.RE.eK:Prop:=∀ {σ:Type} {R:SR σ} {L:Lt} {S:Nat→Prop} {E:aK σ} {w:World} (_h:RE R L S E w) (t0:Nat) (_nR:t0<L.n) (i:Nat) (v:Int),RE R L S {E with th:=aI E.th t0 {E.th t0 with dw:=aI (E.th t0).dw i v}} (w.setCell ⟨L.gD t0,i,none⟩ (.int .i64 v))
open row in
theorem lI:int.RE.eK∧list.RE.eK∧tree.RE.eK∧row.RE.eK:=by
 refine ⟨?_,?_,?_,?_⟩<;>intro σ R L S E w h t0 nQ i v
 all_goals
  obtain ⟨sp,lY,qC⟩:=h.po
  obtain ⟨T,iZ,zQ⟩:=h.th
  have hown:L.own (L.gD t0):=.inr (.inr (.inr (.inr (.inr (.inr ⟨t0,nQ,.inl rfl⟩)))))
  have ho:∀ k,k≠L.gD t0→(w.setCell ⟨L.gD t0,i,none⟩ (.int .i64 v)).heap[k]?=w.heap[k]?:=fun k hk=>Below.heap_setCell w _ _ k hk
  have hst:∀ k,(S k∧¬L.own k)→k<w.heap.size→(S k∧¬L.own k)∧(w.setCell ⟨L.gD t0,i,none⟩ (.int .i64 v)).heap[k]?=w.heap[k]?:=fun k hk _=>⟨hk,ho k (by rintro rfl;exact hk.2 hown)⟩
  have hI:∀ k,(S k∧¬L.own k)→k<w.heap.size:=fun k hk=>h.lt k hk.1
  refine {ok:=h.ok,oQ:=h.oQ.of_block (ho _ (fun q=>h.pU.2 (by rw [q];exact hown))),pU:=h.pU,sh:=?sh,tg:=?tg,an:=?an,po:=?po,rw:=?rw,th:=?th,gd:=?gd,gg:=?gg,ow:=h.ow,lt:=fun k hk=>(by simpa [World.setCell] using h.lt k hk)}
  case sh =>
   exact h.sh.of_block (ho _ (Row.apart h.sh (h.gd t0 nQ) (by decide)))
  case tg =>
   exact h.tg.of_block (ho _ (Row.apart h.tg (h.gd t0 nQ) (by decide)))
  case an =>
   exact h.an.of_block (ho _ (Row.apart h.an (h.gd t0 nQ) (by decide)))
  case po =>
   exact ⟨sp,lY.of_block (ho _ (Row.apart lY (h.gd t0 nQ) (by decide))),fun r hr=>(qC r hr).stay hst hI⟩
  case rw =>
   exact fun r hr=>(h.rw r hr).of_block (ho _ (Row.apart (h.rw r hr) (h.gd t0 nQ) (by decide)))
  case th =>
   refine ⟨T,iZ.of_block (ho _ (Row.apart iZ (h.gd t0 nQ) (by decide))),fun t ht=>?_⟩
   obtain ⟨cv,cf,pv,q⟩:=zQ t ht
   refine ⟨cv,cf,pv,?_⟩
   have q':=q.stay hst hI
   show gC R L _ _ t (aI E.th t0 _ t) _ _ _ _
   by_cases c:t=t0
   ·subst c;rw [aC];exact ⟨q'.like,q'.now,q'.cD,q'.aJ⟩
   ·rw [aD _ _ c];exact q'
  case gd =>
   intro t ht
   by_cases q:t=t0
   ·subst q
    refine ((h.gd t ht).set i _).congr (fun k _=>?_)
    show _=Value.int .i64 ((aI E.th t _ t).dw k)
    rw [aC]
    exact xA (E.th t).dw i v k
   ·refine ((h.gd t ht).of_block (ho _ (fun q2=>q (h.ok.dd t t0 ht nQ q2)))).congr (fun k _=>?_)
    show _=Value.int .i64 ((aI E.th t0 _ t).dw k)
    rw [aD _ _ q]
  case gg =>
   intro t ht
   refine ((h.gg t ht).of_block (ho _ (Ne.symm (h.ok.dg t0 t nQ ht)))).congr (fun k _=>?_)
   exact congrArg _ (congrFun (yJ E.th t0 {E.th t0 with dw:=aI (E.th t0).dw i v} rfl t).symm k)
theorem int.RE.fY:eK:=lI.1
theorem list.RE.fY:eK:=lI.2.1
theorem tree.RE.fY:eK:=lI.2.2.1
theorem row.RE.fY:eK:=lI.2.2.2
def int.RE.fL:Prop:=∀ {σ:Type} {R:SR σ} {L:Lt} {S:Nat→Prop} {E:aK σ} {w:World} (_h:RE R L S E w) (t0:Nat) (_nR:t0<L.n) (i:Nat) (v:Int),RE R L S {E with th:=aI E.th t0 {E.th t0 with tg:=aI (E.th t0).tg i v}} (w.setCell ⟨L.gG t0,i,none⟩ (.int .i64 v))
def list.RE.fL:Prop:=∀ {σ:Type} {R:SR σ} {L:Lt} {S:Nat→Prop} {E:aK σ} {w:World} (_h:RE R L S E w) (t0:Nat) (_nR:t0<L.n) (i:Nat) (v:Int),RE R L S {E with th:=aI E.th t0 {E.th t0 with tg:=aI (E.th t0).tg i v}} (w.setCell ⟨L.gG t0,i,none⟩ (.int .i64 v))
def tree.RE.fL:Prop:=∀ {σ:Type} {R:SR σ} {L:Lt} {S:Nat→Prop} {E:aK σ} {w:World} (_h:RE R L S E w) (t0:Nat) (_nR:t0<L.n) (i:Nat) (v:Int),RE R L S {E with th:=aI E.th t0 {E.th t0 with tg:=aI (E.th t0).tg i v}} (w.setCell ⟨L.gG t0,i,none⟩ (.int .i64 v))
def row.RE.fL:Prop:=∀ {σ:Type} {R:SR σ} {L:Lt} {S:Nat→Prop} {E:aK σ} {w:World} (_h:RE R L S E w) (t0:Nat) (_nR:t0<L.n) (i:Nat) (v:Int),RE R L S {E with th:=aI E.th t0 {E.th t0 with tg:=aI (E.th t0).tg i v}} (w.setCell ⟨L.gG t0,i,none⟩ (.int .i64 v))
open row in
theorem mI:int.RE.fL∧list.RE.fL∧tree.RE.fL∧row.RE.fL:=by
 refine ⟨?_,?_,?_,?_⟩<;>intro σ R L S E w h t0 nQ i v
 all_goals
  obtain ⟨sp,lY,qC⟩:=h.po
  obtain ⟨T,iZ,zQ⟩:=h.th
  have hown:L.own (L.gG t0):=.inr (.inr (.inr (.inr (.inr (.inr ⟨t0,nQ,.inr rfl⟩)))))
  have ho:∀ k,k≠L.gG t0→(w.setCell ⟨L.gG t0,i,none⟩ (.int .i64 v)).heap[k]?=w.heap[k]?:=fun k hk=>Below.heap_setCell w _ _ k hk
  have hst:∀ k,(S k∧¬L.own k)→k<w.heap.size→(S k∧¬L.own k)∧(w.setCell ⟨L.gG t0,i,none⟩ (.int .i64 v)).heap[k]?=w.heap[k]?:=fun k hk _=>⟨hk,ho k (by rintro rfl;exact hk.2 hown)⟩
  have hI:∀ k,(S k∧¬L.own k)→k<w.heap.size:=fun k hk=>h.lt k hk.1
  refine {ok:=h.ok,oQ:=h.oQ.of_block (ho _ (fun q=>h.pU.2 (by rw [q];exact hown))),pU:=h.pU,sh:=?sh,tg:=?tg,an:=?an,po:=?po,rw:=?rw,th:=?th,gd:=?gd,gg:=?gg,ow:=h.ow,lt:=fun k hk=>(by simpa [World.setCell] using h.lt k hk)}
  case sh =>
   exact h.sh.of_block (ho _ (Row.apart h.sh (h.gg t0 nQ) (by decide)))
  case tg =>
   exact h.tg.of_block (ho _ (Row.apart h.tg (h.gg t0 nQ) (by decide)))
  case an =>
   exact h.an.of_block (ho _ (Row.apart h.an (h.gg t0 nQ) (by decide)))
  case po =>
   exact ⟨sp,lY.of_block (ho _ (Row.apart lY (h.gg t0 nQ) (by decide))),fun r hr=>(qC r hr).stay hst hI⟩
  case rw =>
   exact fun r hr=>(h.rw r hr).of_block (ho _ (Row.apart (h.rw r hr) (h.gg t0 nQ) (by decide)))
  case th =>
   refine ⟨T,iZ.of_block (ho _ (Row.apart iZ (h.gg t0 nQ) (by decide))),fun t ht=>?_⟩
   obtain ⟨cv,cf,pv,q⟩:=zQ t ht
   refine ⟨cv,cf,pv,?_⟩
   have q':=q.stay hst hI
   show gC R L _ _ t (aI E.th t0 _ t) _ _ _ _
   by_cases c:t=t0
   ·subst c;rw [aC];exact ⟨q'.like,q'.now,q'.cD,q'.aJ⟩
   ·rw [aD _ _ c];exact q'
  case gd =>
   intro t ht
   refine ((h.gd t ht).of_block (ho _ (h.ok.dg t t0 ht nQ))).congr (fun k _=>?_)
   exact congrArg _ (congrFun (yI E.th t0 {E.th t0 with tg:=aI (E.th t0).tg i v} rfl t).symm k)
  case gg =>
   intro t ht
   by_cases q:t=t0
   ·subst q
    refine ((h.gg t ht).set i _).congr (fun k _=>?_)
    show _=Value.int .i64 ((aI E.th t _ t).tg k)
    rw [aC]
    exact xA (E.th t).tg i v k
   ·refine ((h.gg t ht).of_block (ho _ (fun q2=>q (h.ok.gg t t0 ht nQ q2)))).congr (fun k _=>?_)
    show _=Value.int .i64 ((aI E.th t0 _ t).tg k)
    rw [aD _ _ q]
theorem int.RE.xD:fL:=mI.1
theorem list.RE.xD:fL:=mI.2.1
theorem tree.RE.xD:fL:=mI.2.2.1
theorem row.RE.xD:fL:=mI.2.2.2
def int.RE.fM:Prop:=∀ {σ:Type} {R:SR σ} {L:Lt} {S:Nat→Prop} {E:aK σ} {w:World} (_h:RE R L S E w) (t0:Nat) (_nR:t0<L.n) (j:Nat) (_hj:j<28) (v:Value) (e':aS σ) (_hd:e'.dw=(E.th t0).dw) (_hg:e'.tg=(E.th t0).tg) (_hn:e'.now=(E.th t0).now) (_hf:e'.cD=(E.th t0).cD) (_hp:e'.aJ=(E.th t0).aJ) (_VS:∀ c0 c1 d0 d1 pv,(aO L t0 (E.th t0) [c0,c1] [d0,d1] pv).set j v=aO L t0 e' [c0,c1] [d0,d1] pv),RE R L S {E with th:=aI E.th t0 e'} (w.setCell ⟨L.g,t0*28+j,none⟩ v)
def list.RE.fM:Prop:=∀ {σ:Type} {R:SR σ} {L:Lt} {S:Nat→Prop} {E:aK σ} {w:World} (_h:RE R L S E w) (t0:Nat) (_nR:t0<L.n) (j:Nat) (_hj:j<28) (v:Value) (e':aS σ) (_hd:e'.dw=(E.th t0).dw) (_hg:e'.tg=(E.th t0).tg) (_hn:e'.now=(E.th t0).now) (_hf:e'.cD=(E.th t0).cD) (_hp:e'.aJ=(E.th t0).aJ) (_VS:∀ c0 c1 d0 d1 pv,(aO L t0 (E.th t0) [c0,c1] [d0,d1] pv).set j v=aO L t0 e' [c0,c1] [d0,d1] pv),RE R L S {E with th:=aI E.th t0 e'} (w.setCell ⟨L.g,t0*28+j,none⟩ v)
def tree.RE.fM:Prop:=∀ {σ:Type} {R:SR σ} {L:Lt} {S:Nat→Prop} {E:aK σ} {w:World} (_h:RE R L S E w) (t0:Nat) (_nR:t0<L.n) (j:Nat) (_hj:j<28) (v:Value) (e':aS σ) (_hd:e'.dw=(E.th t0).dw) (_hg:e'.tg=(E.th t0).tg) (_hn:e'.now=(E.th t0).now) (_hf:e'.cD=(E.th t0).cD) (_hp:e'.aJ=(E.th t0).aJ) (_VS:∀ c0 c1 d0 d1 pv,(aO L t0 (E.th t0) [c0,c1] [d0,d1] pv).set j v=aO L t0 e' [c0,c1] [d0,d1] pv),RE R L S {E with th:=aI E.th t0 e'} (w.setCell ⟨L.g,t0*28+j,none⟩ v)
def row.RE.fM:Prop:=∀ {σ:Type} {R:SR σ} {L:Lt} {S:Nat→Prop} {E:aK σ} {w:World} (_h:RE R L S E w) (t0:Nat) (_nR:t0<L.n) (j:Nat) (_hj:j<30) (v:Value) (e':aS σ) (_hd:e'.dw=(E.th t0).dw) (_hg:e'.tg=(E.th t0).tg) (_hn:e'.now=(E.th t0).now) (_hf:e'.cD=(E.th t0).cD) (_hp:e'.aJ=(E.th t0).aJ) (_VS:∀ c0 c1 c2 d0 d1 d2 pv,(aO L t0 (E.th t0) [c0,c1,c2] [d0,d1,d2] pv).set j v=aO L t0 e' [c0,c1,c2] [d0,d1,d2] pv),RE R L S {E with th:=aI E.th t0 e'} (w.setCell ⟨L.g,t0*30+j,none⟩ v)
open row in
theorem mJ:int.RE.fM∧list.RE.fM∧tree.RE.fM∧row.RE.fM:=by
 refine ⟨@mkK _ 0 ?_,@mkK _ 1 ?_,@mkK _ 2 ?_,@mkK _ 3 ?_⟩<;>intro kk σ R L S E w h t0 nQ j hj v e' hd hg hn hf hp xE
 all_goals
  obtain ⟨sp,lY,qC⟩:=h.po
  obtain ⟨T,iZ,zQ⟩:=h.th
  have hown:L.own (L.g):=.inr (.inr (.inr (.inr (.inr (.inl rfl)))))
  first|(have _:Kn 0:=kk;have ho:∀ k,k≠L.g→(w.setCell ⟨L.g,t0*28+j,none⟩ v).heap[k]?=w.heap[k]?:=fun k hk=>Below.heap_setCell w _ _ k hk)|(have _:Kn 1:=kk;have ho:∀ k,k≠L.g→(w.setCell ⟨L.g,t0*28+j,none⟩ v).heap[k]?=w.heap[k]?:=fun k hk=>Below.heap_setCell w _ _ k hk)|(have _:Kn 2:=kk;have ho:∀ k,k≠L.g→(w.setCell ⟨L.g,t0*28+j,none⟩ v).heap[k]?=w.heap[k]?:=fun k hk=>Below.heap_setCell w _ _ k hk)|(have _:Kn 3:=kk;have ho:∀ k,k≠L.g→(w.setCell ⟨L.g,t0*30+j,none⟩ v).heap[k]?=w.heap[k]?:=fun k hk=>Below.heap_setCell w _ _ k hk)
  first|(have _:Kn 0:=kk;have hst:∀ k,(S k∧¬L.own k)→k<w.heap.size→(S k∧¬L.own k)∧(w.setCell ⟨L.g,t0*28+j,none⟩ v).heap[k]?=w.heap[k]?:=fun k hk _=>⟨hk,ho k (by rintro rfl;exact hk.2 hown)⟩)|(have _:Kn 1:=kk;have hst:∀ k,(S k∧¬L.own k)→k<w.heap.size→(S k∧¬L.own k)∧(w.setCell ⟨L.g,t0*28+j,none⟩ v).heap[k]?=w.heap[k]?:=fun k hk _=>⟨hk,ho k (by rintro rfl;exact hk.2 hown)⟩)|(have _:Kn 2:=kk;have hst:∀ k,(S k∧¬L.own k)→k<w.heap.size→(S k∧¬L.own k)∧(w.setCell ⟨L.g,t0*28+j,none⟩ v).heap[k]?=w.heap[k]?:=fun k hk _=>⟨hk,ho k (by rintro rfl;exact hk.2 hown)⟩)|(have _:Kn 3:=kk;have hst:∀ k,(S k∧¬L.own k)→k<w.heap.size→(S k∧¬L.own k)∧(w.setCell ⟨L.g,t0*30+j,none⟩ v).heap[k]?=w.heap[k]?:=fun k hk _=>⟨hk,ho k (by rintro rfl;exact hk.2 hown)⟩)
  have hI:∀ k,(S k∧¬L.own k)→k<w.heap.size:=fun k hk=>h.lt k hk.1
  refine {ok:=h.ok,oQ:=h.oQ.of_block (ho _ (fun q=>h.pU.2 (by rw [q];exact hown))),pU:=h.pU,sh:=?sh,tg:=?tg,an:=?an,po:=?po,rw:=?rw,th:=?th,gd:=?gd,gg:=?gg,ow:=h.ow,lt:=fun k hk=>(by simpa [World.setCell] using h.lt k hk)}
  case sh =>
   exact h.sh.of_block (ho _ (Row.apart h.sh iZ (by decide)))
  case tg =>
   exact h.tg.of_block (ho _ (Row.apart h.tg iZ (by decide)))
  case an =>
   exact h.an.of_block (ho _ (Row.apart h.an iZ (by decide)))
  case po =>
   exact ⟨sp,lY.of_block (ho _ (Row.apart lY iZ (by decide))),fun r hr=>(qC r hr).stay hst hI⟩
  case rw =>
   exact fun r hr=>(h.rw r hr).of_block (ho _ (Row.apart (h.rw r hr) iZ (by decide)))
  case th =>
   refine ⟨_,iZ.set hj v,fun t ht=>?_⟩
   obtain ⟨cv,cf,pv,q⟩:=zQ t ht
   refine ⟨cv,cf,pv,?_⟩
   show gC R L _ _ t (aI E.th t0 e' t) (aI T t0 (aI (T t0) j v) t) _ _ _
   have q':=q.stay hst hI
   by_cases c:t=t0
   ·subst c
    rw [aC,aC]
    first|(have _:Kn 0:=kk;obtain ⟨c0,c1,rfl⟩:=int.aE q.now.1)|(have _:Kn 1:=kk;obtain ⟨c0,c1,rfl⟩:=int.aE q.now.1)|(have _:Kn 2:=kk;obtain ⟨c0,c1,rfl⟩:=int.aE q.now.1)|(have _:Kn 3:=kk;obtain ⟨c0,c1,c2,rfl⟩:=row.aE q.now.1)
    first|(have _:Kn 0:=kk;obtain ⟨d0,d1,rfl⟩:=int.aE q.cD.1)|(have _:Kn 1:=kk;obtain ⟨d0,d1,rfl⟩:=int.aE q.cD.1)|(have _:Kn 2:=kk;obtain ⟨d0,d1,rfl⟩:=int.aE q.cD.1)|(have _:Kn 3:=kk;obtain ⟨d0,d1,d2,rfl⟩:=row.aE q.cD.1)
    refine ⟨?_,by rw [hn];exact q'.now,by rw [hf];exact q'.cD,by rw [hp];exact q'.aJ⟩
    have:=q.like.set j v
    rwa [xE] at this
   ·rw [aD _ _ c,aD _ _ c];exact q'
  case gd =>
   intro t ht
   refine ((h.gd t ht).of_block (ho _ (Row.apart (h.gd t ht) iZ (by decide)))).congr (fun k _=>?_)
   show _=Value.int .i64 ((aI E.th t0 e' t).dw k)
   rw [yI _ _ _ hd]
  case gg =>
   intro t ht
   refine ((h.gg t ht).of_block (ho _ (Row.apart (h.gg t ht) iZ (by decide)))).congr (fun k _=>?_)
   show _=Value.int .i64 ((aI E.th t0 e' t).tg k)
   rw [yJ _ _ _ hg]
theorem int.RE.lJ:fM:=mJ.1
theorem list.RE.lJ:fM:=mJ.2.1
theorem tree.RE.lJ:fM:=mJ.2.2.1
theorem row.RE.lJ:fM:=mJ.2.2.2
def int.RE.jI:Prop:=∀ {σ:Type} {R:SR σ} {L:Lt} {S:Nat→Prop} {E:aK σ} {w:World} (_h:RE R L S E w) (t0:Nat) (_nR:t0<L.n) (pv:Value) (p:List Nat) (_hp:kG (fun k=>S k∧¬L.own k) w p pv) (e':aS σ) (_he:e' = {E.th t0 with aJ:=p}) (_hd:e'.dw=(E.th t0).dw) (_hg:e'.tg=(E.th t0).tg),RE R L S {E with th:=aI E.th t0 e'} (w.setCell ⟨L.g,t0*28+20,none⟩ pv)
def list.RE.jI:Prop:=∀ {σ:Type} {R:SR σ} {L:Lt} {S:Nat→Prop} {E:aK σ} {w:World} (_h:RE R L S E w) (t0:Nat) (_nR:t0<L.n) (pv:Value) (p:List Nat) (_hp:kG (fun k=>S k∧¬L.own k) w p pv) (e':aS σ) (_he:e' = {E.th t0 with aJ:=p}) (_hd:e'.dw=(E.th t0).dw) (_hg:e'.tg=(E.th t0).tg),RE R L S {E with th:=aI E.th t0 e'} (w.setCell ⟨L.g,t0*28+20,none⟩ pv)
def tree.RE.jI:Prop:=∀ {σ:Type} {R:SR σ} {L:Lt} {S:Nat→Prop} {E:aK σ} {w:World} (_h:RE R L S E w) (t0:Nat) (_nR:t0<L.n) (pv:Value) (p:List Nat) (_hp:kG (fun k=>S k∧¬L.own k) w p pv) (e':aS σ) (_he:e' = {E.th t0 with aJ:=p}) (_hd:e'.dw=(E.th t0).dw) (_hg:e'.tg=(E.th t0).tg),RE R L S {E with th:=aI E.th t0 e'} (w.setCell ⟨L.g,t0*28+20,none⟩ pv)
theorem rE:int.RE.jI∧list.RE.jI∧tree.RE.jI:=by
 refine ⟨?_,?_,?_⟩<;>intro σ R L S E w h t0 nQ pv p hp e' he hd hg
 all_goals
  obtain ⟨sp,lY,qC⟩:=h.po
  obtain ⟨T,iZ,zQ⟩:=h.th
  have hown:L.own (L.g):=.inr (.inr (.inr (.inr (.inr (.inl rfl)))))
  have ho:∀ k,k≠L.g→(w.setCell ⟨L.g,t0*28+20,none⟩ pv).heap[k]?=w.heap[k]?:=fun k hk=>Below.heap_setCell w _ _ k hk
  have hst:∀ k,(S k∧¬L.own k)→k<w.heap.size→(S k∧¬L.own k)∧(w.setCell ⟨L.g,t0*28+20,none⟩ pv).heap[k]?=w.heap[k]?:=fun k hk _=>⟨hk,ho k (by rintro rfl;exact hk.2 hown)⟩
  have hI:∀ k,(S k∧¬L.own k)→k<w.heap.size:=fun k hk=>h.lt k hk.1
  refine {ok:=h.ok,oQ:=h.oQ.of_block (ho _ (fun q=>h.pU.2 (by rw [q];exact hown))),pU:=h.pU,sh:=?sh,tg:=?tg,an:=?an,po:=?po,rw:=?rw,th:=?th,gd:=?gd,gg:=?gg,ow:=h.ow,lt:=fun k hk=>(by simpa [World.setCell] using h.lt k hk)}
  case sh =>
   exact h.sh.of_block (ho _ (Row.apart h.sh iZ (by decide)))
  case tg =>
   exact h.tg.of_block (ho _ (Row.apart h.tg iZ (by decide)))
  case an =>
   exact h.an.of_block (ho _ (Row.apart h.an iZ (by decide)))
  case po =>
   exact ⟨sp,lY.of_block (ho _ (Row.apart lY iZ (by decide))),fun r hr=>(qC r hr).stay hst hI⟩
  case rw =>
   exact fun r hr=>(h.rw r hr).of_block (ho _ (Row.apart (h.rw r hr) iZ (by decide)))
  case th =>
   refine ⟨_,iZ.set (j:=20) (by decide) pv,fun t ht=>?_⟩
   obtain ⟨cv,cf,pv0,q⟩:=zQ t ht
   have q':=q.stay hst hI
   by_cases c:t=t0
   ·subst c
    refine ⟨cv,cf,pv,?_⟩
    show gC R L _ _ t (aI E.th t e' t) (aI T t (aI (T t) 20 pv) t) _ _ _
    rw [aC,aC,he]
    obtain ⟨c0,c1,rfl⟩:=aE q.now.1
    obtain ⟨d0,d1,rfl⟩:=aE q.cD.1
    exact ⟨q.like.set 20 pv,q'.now,q'.cD,hp.stay hst hI⟩
   ·refine ⟨cv,cf,pv0,?_⟩
    show gC R L _ _ t (aI E.th t0 e' t) (aI T t0 (aI (T t0) 20 pv) t) _ _ _
    rw [aD _ _ c,aD _ _ c];exact q'
  case gd =>
   intro t ht
   refine ((h.gd t ht).of_block (ho _ (Row.apart (h.gd t ht) iZ (by decide)))).congr (fun k _=>?_)
   show _=Value.int .i64 ((aI E.th t0 e' t).dw k)
   rw [yI _ _ _ hd]
  case gg =>
   intro t ht
   refine ((h.gg t ht).of_block (ho _ (Row.apart (h.gg t ht) iZ (by decide)))).congr (fun k _=>?_)
   show _=Value.int .i64 ((aI E.th t0 e' t).tg k)
   rw [yJ _ _ _ hg]
theorem int.RE.xF:jI:=rE.1
theorem list.RE.xF:jI:=rE.2.1
theorem tree.RE.xF:jI:=rE.2.2
theorem row.RE.xF {σ:Type} {R:SR σ} {L:Lt} {S:Nat→Prop} {E:aK σ} {w:World} (h:RE R L S E w) (t0:Nat) (nQ:t0<L.n) (pv:Value) (p:List Nat) (hp:kG (fun k=>S k∧¬L.own k) w p pv) (e':aS σ) (he:e' = {E.th t0 with aJ:=p}) (hd:e'.dw=(E.th t0).dw) (hg:e'.tg=(E.th t0).tg):RE R L S {E with th:=aI E.th t0 e'} (w.setCell ⟨L.g,t0*30+22,none⟩ pv):=by
 obtain ⟨sp,lY,qC⟩:=h.po
 obtain ⟨T,iZ,zQ⟩:=h.th
 have hown:L.own (L.g):=.inr (.inr (.inr (.inr (.inr (.inl rfl)))))
 have ho:∀ k,k≠L.g→(w.setCell ⟨L.g,t0*30+22,none⟩ pv).heap[k]?=w.heap[k]?:=fun k hk=>Below.heap_setCell w _ _ k hk
 have hst:∀ k,(S k∧¬L.own k)→k<w.heap.size→(S k∧¬L.own k)∧(w.setCell ⟨L.g,t0*30+22,none⟩ pv).heap[k]?=w.heap[k]?:=fun k hk _=>⟨hk,ho k (by rintro rfl;exact hk.2 hown)⟩
 have hI:∀ k,(S k∧¬L.own k)→k<w.heap.size:=fun k hk=>h.lt k hk.1
 refine {ok:=h.ok,oQ:=h.oQ.of_block (ho _ (fun q=>h.pU.2 (by rw [q];exact hown))),pU:=h.pU,sh:=?sh,tg:=?tg,an:=?an,po:=?po,rw:=?rw,th:=?th,gd:=?gd,gg:=?gg,ow:=h.ow,lt:=fun k hk=>(by simpa [World.setCell] using h.lt k hk)}
 case sh =>
  exact h.sh.of_block (ho _ (Row.apart h.sh iZ (by decide)))
 case tg =>
  exact h.tg.of_block (ho _ (Row.apart h.tg iZ (by decide)))
 case an =>
  exact h.an.of_block (ho _ (Row.apart h.an iZ (by decide)))
 case po =>
  exact ⟨sp,lY.of_block (ho _ (Row.apart lY iZ (by decide))),fun r hr=>(qC r hr).stay hst hI⟩
 case rw =>
  exact fun r hr=>(h.rw r hr).of_block (ho _ (Row.apart (h.rw r hr) iZ (by decide)))
 case th =>
  refine ⟨_,iZ.set (j:=22) (by decide) pv,fun t ht=>?_⟩
  obtain ⟨cv,cf,pv0,q⟩:=zQ t ht
  have q':=q.stay hst hI
  by_cases c:t=t0
  ·subst c
   refine ⟨cv,cf,pv,?_⟩
   show gC R L _ _ t (aI E.th t e' t) (aI T t (aI (T t) 22 pv) t) _ _ _
   rw [aC,aC,he]
   obtain ⟨c0,c1,c2,rfl⟩:=aE q.now.1
   obtain ⟨d0,d1,d2,rfl⟩:=aE q.cD.1
   exact ⟨q.like.set 22 pv,q'.now,q'.cD,hp.stay hst hI⟩
  ·refine ⟨cv,cf,pv0,?_⟩
   show gC R L _ _ t (aI E.th t0 e' t) (aI T t0 (aI (T t0) 22 pv) t) _ _ _
   rw [aD _ _ c,aD _ _ c];exact q'
 case gd =>
  intro t ht
  refine ((h.gd t ht).of_block (ho _ (Row.apart (h.gd t ht) iZ (by decide)))).congr (fun k _=>?_)
  show _=Value.int .i64 ((aI E.th t0 e' t).dw k)
  rw [yI _ _ _ hd]
 case gg =>
  intro t ht
  refine ((h.gg t ht).of_block (ho _ (Row.apart (h.gg t ht) iZ (by decide)))).congr (fun k _=>?_)
  show _=Value.int .i64 ((aI E.th t0 e' t).tg k)
  rw [yJ _ _ _ hg]
end Go.Proofs.YtefjhnhdagolhaaGreat
