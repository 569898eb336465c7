import Derived.Test.YtefjhnhdagolhaaGreatA12
import Derived.Test.YtefjhnhdagolhaaGreatA13
set_option maxHeartbeats 1000000
set_option maxRecDepth 20000
namespace Go.Proofs.YtefjhnhdagolhaaGreat
open int list tree
open Go.RowKit
open M (aM aC aD Op eX bU bD tw bC)
theorem int.IV (f:Nat→Int) (i:Nat) (v:Int) (k:Nat):aM (fun i=>Value.int .i64 (f i)) i (.int .i64 v) k = .int .i64 (aM f i v k):=by unfold aM;split<;>rfl
theorem int.EY {σ:Type} (f:Nat→bU σ) (t:Nat) (e:bU σ) (h:e.dw=(f t).dw) (u:Nat):(aM f t e u).dw=(f u).dw:=by
 by_cases q:u=t
 ·subst q;rw [aC,h]
 ·rw [aD _ _ q]
theorem int.EZ {σ:Type} (f:Nat→bU σ) (t:Nat) (e:bU σ) (h:e.tg=(f t).tg) (u:Nat):(aM f t e u).tg=(f u).tg:=by
 by_cases q:u=t
 ·subst q;rw [aC,h]
 ·rw [aD _ _ q]
theorem int.aF {l:List Value} (h:l.length=1+1):∃ c0 c1,l=[c0,c1]:=by
 match l,h with
 |[c0,c1],_=>exact ⟨c0,c1,rfl⟩
theorem row.aF {l:List Value} (h:l.length=2+1):∃ c0 c1 c2,l=[c0,c1,c2]:=by
 match l,h with
 |[c0,c1,c2],_=>exact ⟨c0,c1,c2,rfl⟩
def BU (SR:Type→Type) (RE:lA SR):Prop:=∀ {σ:Type} {R:SR σ} {L:Lt} {S:Nat→Prop} {E:bD σ} {w w':World} (_h:RE R L S E w) {S':Nat→Prop} (_hb:∀ k,S k→w'.heap[k]?=w.heap[k]?) (_hS:∀ k,S k→S' k) (_hl:∀ k,S' k→k<w'.heap.size),RE R L S' E w'
open row in
theorem oA:BU int.SR @int.RE∧BU list.SR @list.RE∧BU tree.SR @tree.RE∧BU row.SR @row.RE:=by
 refine ⟨?_,?_,?_,?_⟩<;>intro σ R L S E w w' h S' hb hS hl
 all_goals
  have hst:∀ k,(S k∧¬L.own k)→k<w.heap.size→(S' k∧¬L.own k)∧w'.heap[k]?=w.heap[k]?:=fun k hk _=>⟨⟨hS k hk.1,hk.2⟩,hb k hk.1⟩
  have hI:∀ k,(S k∧¬L.own k)→k<w.heap.size:=fun k hk=>h.lt k hk.1
  have ow:∀ {k},L.own k→w'.heap[k]?=w.heap[k]?:=fun hk=>hb _ (h.ow _ hk)
  obtain ⟨sp,pU,CJ⟩:=h.po;obtain ⟨T,fM,xW⟩:=h.th;refine {ok:=h.ok,qQ:=h.qQ.of_block (hb _ h.vL.1),vL:=⟨hS _ h.vL.1,h.vL.2⟩,sh:=h.sh.of_block (ow (.inl rfl)),tg:=h.tg.of_block (ow (.inr (.inl rfl))),an:=h.an.of_block (ow (.inr (.inr (.inl rfl)))),po:=?po,rw:=?rw,th:=?th,gd:=?gd,gg:=?gg,ow:=fun k hk=>hS k (h.ow k hk),lt:=hl}
  case po=>exact ⟨sp,pU.of_block (ow (.inr (.inr (.inr (.inl rfl))))),fun r hr=>(CJ r hr).stay hst hI⟩
  case rw=>exact fun r hr=>(h.rw r hr).of_block (ow (.inr (.inr (.inr (.inr (.inl ⟨r,hr,rfl⟩))))))
  case th =>
   refine ⟨T,fM.of_block (ow (.inr (.inr (.inr (.inr (.inr (.inl rfl))))))),fun t ht=>?_⟩;obtain ⟨cv,cf,pv,q⟩:=xW t ht;exact ⟨cv,cf,pv,q.stay hst hI⟩
  case gd=>exact fun t ht=>(h.gd t ht).of_block (ow (.inr (.inr (.inr (.inr (.inr (.inr ⟨t,ht,.inl rfl⟩)))))))
  case gg=>exact fun t ht=>(h.gg t ht).of_block (ow (.inr (.inr (.inr (.inr (.inr (.inr ⟨t,ht,.inr rfl⟩)))))))
theorem int.RE.stay:BU int.SR @int.RE:=oA.1
theorem list.RE.stay:BU list.SR @list.RE:=oA.2.1
theorem tree.RE.stay:BU tree.SR @tree.RE:=oA.2.2.1
theorem row.RE.stay:BU row.SR @row.RE:=oA.2.2.2
def int.grown (S:Nat→Prop) (w w':World) (k:Nat):Prop:=S k∨(w.heap.size≤k∧k<w'.heap.size)
def yS (SR:Type→Type) (RE:lA SR):Prop:=∀ {σ:Type} {R:SR σ} {L:Lt} {S:Nat→Prop} {E:bD σ} {w w':World} (_h:RE R L S E w) (_hb:Below w.heap.size w w'),RE R L (grown S w w') E w'
open row in
theorem lQ:yS int.SR @int.RE∧yS list.SR @list.RE∧yS tree.SR @tree.RE∧yS row.SR @row.RE:=by
 refine ⟨?_,?_,?_,?_⟩<;>intro σ R L S E w w' h hb
 all_goals
  refine h.stay (fun k hk=>hb.block k (h.lt k hk)) (fun k hk=>.inl hk) (fun k hk=>?_)
  rcases hk with hk|hk
  ·exact cH (h.lt k hk) hb.size
  ·exact hk.2
theorem int.RE.below:yS int.SR @int.RE:=lQ.1
theorem list.RE.below:yS list.SR @list.RE:=lQ.2.1
theorem tree.RE.below:yS tree.SR @tree.RE:=lQ.2.2.1
theorem row.RE.below:yS row.SR @row.RE:=lQ.2.2.2
theorem int.RE.drewN {σ:Type} {R:SR σ} {L:Lt} {S:Nat→Prop} {E:bD σ} {w:World} (h:RE R L S E w) (n:Nat):RE R L S E (w.drewN n):=h.stay (fun _ _=>rfl) (fun _ hk=>hk) h.lt
theorem list.RE.drewN {σ:Type} {R:SR σ} {L:Lt} {S:Nat→Prop} {E:bD σ} {w:World} (h:RE R L S E w) (n:Nat):RE R L S E (w.drewN n):=h.stay (fun _ _=>rfl) (fun _ hk=>hk) h.lt
theorem tree.RE.drewN {σ:Type} {R:SR σ} {L:Lt} {S:Nat→Prop} {E:bD σ} {w:World} (h:RE R L S E w) (n:Nat):RE R L S E (w.drewN n):=h.stay (fun _ _=>rfl) (fun _ hk=>hk) h.lt
theorem row.RE.drewN {σ:Type} {R:SR σ} {L:Lt} {S:Nat→Prop} {E:bD σ} {w:World} (h:RE R L S E w) (n:Nat):RE R L S E (w.drewN n):=h.stay (fun _ _=>rfl) (fun _ hk=>hk) h.lt
theorem int.RE.mono {σ:Type} {R:SR σ} {L:Lt} {S:Nat→Prop} {E:bD σ} {w:World} (h:RE R L S E w) {S':Nat→Prop} (hS:∀ k,S k→S' k) (hl:∀ k,S' k→k<w.heap.size):RE R L S' E w:=h.stay (fun _ _=>rfl) hS hl
theorem list.RE.mono {σ:Type} {R:SR σ} {L:Lt} {S:Nat→Prop} {E:bD σ} {w:World} (h:RE R L S E w) {S':Nat→Prop} (hS:∀ k,S k→S' k) (hl:∀ k,S' k→k<w.heap.size):RE R L S' E w:=h.stay (fun _ _=>rfl) hS hl
theorem tree.RE.mono {σ:Type} {R:SR σ} {L:Lt} {S:Nat→Prop} {E:bD σ} {w:World} (h:RE R L S E w) {S':Nat→Prop} (hS:∀ k,S k→S' k) (hl:∀ k,S' k→k<w.heap.size):RE R L S' E w:=h.stay (fun _ _=>rfl) hS hl
theorem row.RE.mono {σ:Type} {R:SR σ} {L:Lt} {S:Nat→Prop} {E:bD σ} {w:World} (h:RE R L S E w) {S':Nat→Prop} (hS:∀ k,S k→S' k) (hl:∀ k,S' k→k<w.heap.size):RE R L S' E w:=h.stay (fun _ _=>rfl) hS hl
def tM (SR:Type→Type) (RE:lA SR):Prop:=∀ {σ:Type} {R:SR σ} {L:Lt} {S:Nat→Prop} {E:bD σ} {w:World} (_h:RE R L S E w) (ps pr:Nat),RE R L S {E with gB:=ps,prec:=pr} (w.setCell ⟨L.bS,5,none⟩ (.int .i64 ((ps:Int)*129+(pr:Int))))
open row in
theorem iQ:tM int.SR @int.RE∧tM list.SR @list.RE∧tM tree.SR @tree.RE∧tM row.SR @row.RE:=by
 refine ⟨?_,?_,?_,?_⟩<;>intro σ R L S E w h ps pr
 all_goals
  obtain ⟨sp,pU,CJ⟩:=h.po;obtain ⟨T,fM,xW⟩:=h.th;have hown:L.own (L.bS):=.inl rfl;have ho:∀ k,k≠L.bS→(w.setCell ⟨L.bS,5,none⟩ (.int .i64 ((ps:Int)*129+(pr:Int)))).heap[k]?=w.heap[k]?:=fun k hk=>cZ w _ _ k hk
  have hst:∀ k,(S k∧¬L.own k)→k<w.heap.size→(S k∧¬L.own k)∧(w.setCell ⟨L.bS,5,none⟩ (.int .i64 ((ps:Int)*129+(pr:Int)))).heap[k]?=w.heap[k]?:=fun k hk _=>⟨hk,ho k (by rintro rfl;exact hk.2 hown)⟩
  have hI:∀ k,(S k∧¬L.own k)→k<w.heap.size:=fun k hk=>h.lt k hk.1
  refine {ok:=h.ok,qQ:=h.qQ.of_block (ho _ (fun q=>h.vL.2 (by rw [q];exact hown))),vL:=h.vL,sh:=?sh,tg:=?tg,an:=?an,po:=?po,rw:=?rw,th:=?th,gd:=?gd,gg:=?gg,ow:=h.ow,lt:=fun k hk=>(by simpa [World.setCell] using h.lt k hk)}
  case sh =>
   exact h.sh.set 5 _
  case tg =>
   exact h.tg.of_block (ho _ (Row.apart h.tg h.sh (by decide)))
  case an =>
   exact h.an.of_block (ho _ (Row.apart h.an h.sh (by decide)))
  case po =>
   exact ⟨sp,pU.of_block (ho _ (Row.apart pU h.sh (by decide))),fun r hr=>(CJ r hr).stay hst hI⟩
  case rw =>
   exact fun r hr=>(h.rw r hr).of_block (ho _ (Row.apart (h.rw r hr) h.sh (by decide)))
  case th =>
   refine ⟨T,fM.of_block (ho _ (Row.apart fM h.sh (by decide))),fun t ht=>?_⟩;obtain ⟨cv,cf,pv,q⟩:=xW t ht;exact ⟨cv,cf,pv,q.stay hst hI⟩
  case gd =>
   exact fun t ht=>(h.gd t ht).of_block (ho _ (Row.apart (h.gd t ht) h.sh (by decide)))
  case gg =>
   exact fun t ht=>(h.gg t ht).of_block (ho _ (Row.apart (h.gg t ht) h.sh (by decide)))
theorem int.RE.MS:tM int.SR @int.RE:=iQ.1
theorem list.RE.MS:tM list.SR @list.RE:=iQ.2.1
theorem tree.RE.MS:tM tree.SR @tree.RE:=iQ.2.2.1
theorem row.RE.MS:tM row.SR @row.RE:=iQ.2.2.2
def tN (SR:Type→Type) (RE:lA SR):Prop:=∀ {σ:Type} {R:SR σ} {L:Lt} {S:Nat→Prop} {E:bD σ} {w:World} (_h:RE R L S E w) (i:Nat) (v:Int),RE R L S {E with dS:=aM E.dS i v} (w.setCell ⟨L.cS,i,none⟩ (.int .i64 v))
open row in
theorem iR:tN int.SR @int.RE∧tN list.SR @list.RE∧tN tree.SR @tree.RE∧tN row.SR @row.RE:=by
 refine ⟨?_,?_,?_,?_⟩<;>intro σ R L S E w h i v
 all_goals
  obtain ⟨sp,pU,CJ⟩:=h.po;obtain ⟨T,fM,xW⟩:=h.th;have hown:L.own (L.cS):=.inr (.inl rfl);have ho:∀ k,k≠L.cS→(w.setCell ⟨L.cS,i,none⟩ (.int .i64 v)).heap[k]?=w.heap[k]?:=fun k hk=>cZ w _ _ k hk
  have hst:∀ k,(S k∧¬L.own k)→k<w.heap.size→(S k∧¬L.own k)∧(w.setCell ⟨L.cS,i,none⟩ (.int .i64 v)).heap[k]?=w.heap[k]?:=fun k hk _=>⟨hk,ho k (by rintro rfl;exact hk.2 hown)⟩
  have hI:∀ k,(S k∧¬L.own k)→k<w.heap.size:=fun k hk=>h.lt k hk.1
  refine {ok:=h.ok,qQ:=h.qQ.of_block (ho _ (fun q=>h.vL.2 (by rw [q];exact hown))),vL:=h.vL,sh:=?sh,tg:=?tg,an:=?an,po:=?po,rw:=?rw,th:=?th,gd:=?gd,gg:=?gg,ow:=h.ow,lt:=fun k hk=>(by simpa [World.setCell] using h.lt k hk)}
  case sh =>
   exact h.sh.of_block (ho _ (Row.apart h.sh h.tg (by decide)))
  case tg =>
   exact (h.tg.set i _).congr (fun k _=>IV E.dS i v k)
  case an =>
   exact h.an.of_block (ho _ (Row.apart h.an h.tg (by decide)))
  case po =>
   exact ⟨sp,pU.of_block (ho _ (Row.apart pU h.tg (by decide))),fun r hr=>(CJ r hr).stay hst hI⟩
  case rw =>
   exact fun r hr=>(h.rw r hr).of_block (ho _ (nI (h.ok.tw r hr)))
  case th =>
   refine ⟨T,fM.of_block (ho _ (Row.apart fM h.tg (by decide))),fun t ht=>?_⟩;obtain ⟨cv,cf,pv,q⟩:=xW t ht;exact ⟨cv,cf,pv,q.stay hst hI⟩
  case gd =>
   exact fun t ht=>(h.gd t ht).of_block (ho _ (Row.apart (h.gd t ht) h.tg (by decide)))
  case gg =>
   exact fun t ht=>(h.gg t ht).of_block (ho _ (Row.apart (h.gg t ht) h.tg (by decide)))
theorem int.RE.GZ:tN int.SR @int.RE:=iR.1
theorem list.RE.GZ:tN list.SR @list.RE:=iR.2.1
theorem tree.RE.GZ:tN tree.SR @tree.RE:=iR.2.2.1
theorem row.RE.GZ:tN row.SR @row.RE:=iR.2.2.2
def tK (SR:Type→Type) (RE:lA SR):Prop:=∀ {σ:Type} {R:SR σ} {L:Lt} {S:Nat→Prop} {E:bD σ} {w:World} (_h:RE R L S E w) (t1 i:Nat) (_hi:i<3) (v:Int),RE R L S {E with gY:=aM E.gY t1 (aM (E.gY t1) i v)} (w.setCell ⟨L.cQ,t1*3+i,none⟩ (.int .i64 v))
open row in
theorem iP:tK int.SR @int.RE∧tK list.SR @list.RE∧tK tree.SR @tree.RE∧tK row.SR @row.RE:=by
 refine ⟨?_,?_,?_,?_⟩<;>intro σ R L S E w h t1 i hi v
 all_goals
  obtain ⟨sp,pU,CJ⟩:=h.po;obtain ⟨T,fM,xW⟩:=h.th;have hown:L.own (L.cQ):=.inr (.inr (.inl rfl));have ho:∀ k,k≠L.cQ→(w.setCell ⟨L.cQ,t1*3+i,none⟩ (.int .i64 v)).heap[k]?=w.heap[k]?:=fun k hk=>cZ w _ _ k hk
  have hst:∀ k,(S k∧¬L.own k)→k<w.heap.size→(S k∧¬L.own k)∧(w.setCell ⟨L.cQ,t1*3+i,none⟩ (.int .i64 v)).heap[k]?=w.heap[k]?:=fun k hk _=>⟨hk,ho k (by rintro rfl;exact hk.2 hown)⟩
  have hI:∀ k,(S k∧¬L.own k)→k<w.heap.size:=fun k hk=>h.lt k hk.1
  refine {ok:=h.ok,qQ:=h.qQ.of_block (ho _ (fun q=>h.vL.2 (by rw [q];exact hown))),vL:=h.vL,sh:=?sh,tg:=?tg,an:=?an,po:=?po,rw:=?rw,th:=?th,gd:=?gd,gg:=?gg,ow:=h.ow,lt:=fun k hk=>(by simpa [World.setCell] using h.lt k hk)}
  case sh =>
   exact h.sh.of_block (ho _ (Row.apart h.sh h.an (by decide)))
  case tg =>
   exact h.tg.of_block (ho _ (Row.apart h.tg h.an (by decide)))
  case an =>
   refine (h.an.set hi _).congr (fun k _=>?_);dsimp only
   by_cases q:k / 3=t1
   ·rw [q,aC,aC];exact IV _ i v _
   ·rw [aD _ _ q,aD _ _ q]
  case po =>
   exact ⟨sp,pU.of_block (ho _ (Row.apart pU h.an (by decide))),fun r hr=>(CJ r hr).stay hst hI⟩
  case rw =>
   exact fun r hr=>(h.rw r hr).of_block (ho _ (Row.apart (h.rw r hr) h.an (by decide)))
  case th =>
   refine ⟨T,fM.of_block (ho _ (Row.apart fM h.an (by decide))),fun t ht=>?_⟩;obtain ⟨cv,cf,pv,q⟩:=xW t ht;exact ⟨cv,cf,pv,q.stay hst hI⟩
  case gd =>
   exact fun t ht=>(h.gd t ht).of_block (ho _ (Row.apart (h.gd t ht) h.an (by decide)))
  case gg =>
   exact fun t ht=>(h.gg t ht).of_block (ho _ (Row.apart (h.gg t ht) h.an (by decide)))
theorem int.RE.MR:tK int.SR @int.RE:=iP.1
theorem list.RE.MR:tK list.SR @list.RE:=iP.2.1
theorem tree.RE.MR:tK tree.SR @tree.RE:=iP.2.2.1
theorem row.RE.MR:tK row.SR @row.RE:=iP.2.2.2
def qN (SR:Type→Type) (RE:lA SR):Prop:=∀ {σ:Type} {R:SR σ} {L:Lt} {S:Nat→Prop} {E:bD σ} {w:World} (_h:RE R L S E w) (r0:Nat) (_hr0:r0<2*L.n+1) (i:Nat) (v:Int),RE R L S {E with rw:=aM E.rw r0 (aM (E.rw r0) i v)} (w.setCell ⟨L.bW r0,i,none⟩ (.int .i64 v))
open row in
theorem gM:qN int.SR @int.RE∧qN list.SR @list.RE∧qN tree.SR @tree.RE∧qN row.SR @row.RE:=by
 refine ⟨?_,?_,?_,?_⟩<;>intro σ R L S E w h r0 om i v
 all_goals
  obtain ⟨sp,pU,CJ⟩:=h.po;obtain ⟨T,fM,xW⟩:=h.th;have hown:L.own (L.bW r0):=.inr (.inr (.inr (.inr (.inl ⟨r0,om,rfl⟩))));have ho:∀ k,k≠L.bW r0→(w.setCell ⟨L.bW r0,i,none⟩ (.int .i64 v)).heap[k]?=w.heap[k]?:=fun k hk=>cZ w _ _ k hk
  have hst:∀ k,(S k∧¬L.own k)→k<w.heap.size→(S k∧¬L.own k)∧(w.setCell ⟨L.bW r0,i,none⟩ (.int .i64 v)).heap[k]?=w.heap[k]?:=fun k hk _=>⟨hk,ho k (by rintro rfl;exact hk.2 hown)⟩
  have hI:∀ k,(S k∧¬L.own k)→k<w.heap.size:=fun k hk=>h.lt k hk.1
  refine {ok:=h.ok,qQ:=h.qQ.of_block (ho _ (fun q=>h.vL.2 (by rw [q];exact hown))),vL:=h.vL,sh:=?sh,tg:=?tg,an:=?an,po:=?po,rw:=?rw,th:=?th,gd:=?gd,gg:=?gg,ow:=h.ow,lt:=fun k hk=>(by simpa [World.setCell] using h.lt k hk)}
  case sh =>
   exact h.sh.of_block (ho _ (Row.apart h.sh (h.rw r0 om) (by decide)))
  case tg =>
   exact h.tg.of_block (ho _ (h.ok.tw r0 om))
  case an =>
   exact h.an.of_block (ho _ (Row.apart h.an (h.rw r0 om) (by decide)))
  case po =>
   exact ⟨sp,pU.of_block (ho _ (Row.apart pU (h.rw r0 om) (by decide))),fun r hr=>(CJ r hr).stay hst hI⟩
  case rw =>
   intro r hr;show Fn _ _ _ _ (fun k=>.int .i64 (aM E.rw r0 (aM (E.rw r0) i v) r k))
   by_cases q:r=r0
   ·subst q
    rw [aC];exact ((h.rw r hr).set i _).congr (fun k _=>IV (E.rw r) i v k)
   ·rw [aD _ _ q]
    exact (h.rw r hr).of_block (ho _ (fun q2=>q (h.ok.ww r r0 hr om q2)))
  case th =>
   refine ⟨T,fM.of_block (ho _ (Row.apart fM (h.rw r0 om) (by decide))),fun t ht=>?_⟩;obtain ⟨cv,cf,pv,q⟩:=xW t ht;exact ⟨cv,cf,pv,q.stay hst hI⟩
  case gd =>
   exact fun t ht=>(h.gd t ht).of_block (ho _ (Row.apart (h.gd t ht) (h.rw r0 om) (by decide)))
  case gg =>
   exact fun t ht=>(h.gg t ht).of_block (ho _ (Row.apart (h.gg t ht) (h.rw r0 om) (by decide)))
theorem int.RE.HZ:qN int.SR @int.RE:=gM.1
theorem list.RE.HZ:qN list.SR @list.RE:=gM.2.1
theorem tree.RE.HZ:qN tree.SR @tree.RE:=gM.2.2.1
theorem row.RE.HZ:qN row.SR @row.RE:=gM.2.2.2
def oZ (SR:Type→Type) (RE:lA SR) (kV:{σ:Type}→SR σ→(Nat→Prop)→World→Option (M.eX σ×M.eX σ)→Option Nat→Prop):Prop:=∀ {σ:Type} {R:SR σ} {L:Lt} {S:Nat→Prop} {E:bD σ} {w:World} (_h:RE R L S E w) (r0:Nat) (_hr0:r0<2*L.n+1) (b:Nat) (x:Option (eX σ×eX σ)) (_hx:kV R (fun k=>S k∧¬L.own k) w x (some b)),RE R L S {E with lI:=aM E.lI r0 x} (w.setCell ⟨L.bP,r0*2+1,none⟩ (.pointer (some ⟨b,0,none⟩)))
open row in
theorem fL:oZ int.SR @int.RE @int.kV∧oZ list.SR @list.RE @list.kV∧oZ tree.SR @tree.RE @tree.kV∧oZ row.SR @row.RE @row.kV:=by
 refine ⟨?_,?_,?_,?_⟩<;>intro σ R L S E w h r0 om b x hx
 all_goals
  obtain ⟨sp,pU,CJ⟩:=h.po;obtain ⟨T,fM,xW⟩:=h.th;have hown:L.own (L.bP):=.inr (.inr (.inr (.inl rfl)));have ho:∀ k,k≠L.bP→(w.setCell ⟨L.bP,r0*2+1,none⟩ (.pointer (some ⟨b,0,none⟩))).heap[k]?=w.heap[k]?:=fun k hk=>cZ w _ _ k hk
  have hst:∀ k,(S k∧¬L.own k)→k<w.heap.size→(S k∧¬L.own k)∧(w.setCell ⟨L.bP,r0*2+1,none⟩ (.pointer (some ⟨b,0,none⟩))).heap[k]?=w.heap[k]?:=fun k hk _=>⟨hk,ho k (by rintro rfl;exact hk.2 hown)⟩
  have hI:∀ k,(S k∧¬L.own k)→k<w.heap.size:=fun k hk=>h.lt k hk.1
  refine {ok:=h.ok,qQ:=h.qQ.of_block (ho _ (fun q=>h.vL.2 (by rw [q];exact hown))),vL:=h.vL,sh:=?sh,tg:=?tg,an:=?an,po:=?po,rw:=?rw,th:=?th,gd:=?gd,gg:=?gg,ow:=h.ow,lt:=fun k hk=>(by simpa [World.setCell] using h.lt k hk)}
  case sh =>
   exact h.sh.of_block (ho _ (Row.apart h.sh pU (by decide)))
  case tg =>
   exact h.tg.of_block (ho _ (Row.apart h.tg pU (by decide)))
  case an =>
   exact h.an.of_block (ho _ (Row.apart h.an pU (by decide)))
  case po =>
   refine ⟨aM sp r0 (some b),(pU.set (i:=r0) (j:=1) (by decide) _).congr (fun k _=>?_),fun r hr=>?_⟩
   ·by_cases q:k / 2=r0
    ·rw [q,aC]
     rcases Nat.mod_two_eq_zero_or_one k with m|m
     ·rw [m,aD _ _ (by decide)]
      rfl
     ·rw [m,aC]
      simp [aC]
    ·rw [aD _ _ q]
     simp [aD _ _ q]
   ·show kV R _ _ (aM E.lI r0 x r) (aM sp r0 (some b) r)
    by_cases q:r=r0
    ·subst q;rw [aC,aC];exact hx.stay hst hI
    ·rw [aD _ _ q,aD _ _ q];exact (CJ r hr).stay hst hI
  case rw =>
   exact fun r hr=>(h.rw r hr).of_block (ho _ (Row.apart (h.rw r hr) pU (by decide)))
  case th =>
   refine ⟨T,fM.of_block (ho _ (Row.apart fM pU (by decide))),fun t ht=>?_⟩;obtain ⟨cv,cf,pv,q⟩:=xW t ht;exact ⟨cv,cf,pv,q.stay hst hI⟩
  case gd =>
   exact fun t ht=>(h.gd t ht).of_block (ho _ (Row.apart (h.gd t ht) pU (by decide)))
  case gg =>
   exact fun t ht=>(h.gg t ht).of_block (ho _ (Row.apart (h.gg t ht) pU (by decide)))
theorem int.RE.yC:oZ int.SR @int.RE @int.kV:=fL.1
theorem list.RE.yC:oZ list.SR @list.RE @list.kV:=fL.2.1
theorem tree.RE.yC:oZ tree.SR @tree.RE @tree.kV:=fL.2.2.1
theorem row.RE.yC:oZ row.SR @row.RE @row.kV:=fL.2.2.2
def oY (SR:Type→Type) (RE:lA SR):Prop:=∀ {σ:Type} {R:SR σ} {L:Lt} {S:Nat→Prop} {E:bD σ} {w:World} (_h:RE R L S E w) (t0:Nat) (_qw:t0<L.n) (i:Nat) (v:Int),RE R L S {E with th:=aM E.th t0 {E.th t0 with dw:=aM (E.th t0).dw i v}} (w.setCell ⟨L.gD t0,i,none⟩ (.int .i64 v))
open row in
theorem fK:oY int.SR @int.RE∧oY list.SR @list.RE∧oY tree.SR @tree.RE∧oY row.SR @row.RE:=by
 refine ⟨?_,?_,?_,?_⟩<;>intro σ R L S E w h t0 mP i v
 all_goals
  obtain ⟨sp,pU,CJ⟩:=h.po;obtain ⟨T,fM,xW⟩:=h.th;have hown:L.own (L.gD t0):=.inr (.inr (.inr (.inr (.inr (.inr ⟨t0,mP,.inl rfl⟩)))));have ho:∀ k,k≠L.gD t0→(w.setCell ⟨L.gD t0,i,none⟩ (.int .i64 v)).heap[k]?=w.heap[k]?:=fun k hk=>cZ w _ _ k hk
  have hst:∀ k,(S k∧¬L.own k)→k<w.heap.size→(S k∧¬L.own k)∧(w.setCell ⟨L.gD t0,i,none⟩ (.int .i64 v)).heap[k]?=w.heap[k]?:=fun k hk _=>⟨hk,ho k (by rintro rfl;exact hk.2 hown)⟩
  have hI:∀ k,(S k∧¬L.own k)→k<w.heap.size:=fun k hk=>h.lt k hk.1
  refine {ok:=h.ok,qQ:=h.qQ.of_block (ho _ (fun q=>h.vL.2 (by rw [q];exact hown))),vL:=h.vL,sh:=?sh,tg:=?tg,an:=?an,po:=?po,rw:=?rw,th:=?th,gd:=?gd,gg:=?gg,ow:=h.ow,lt:=fun k hk=>(by simpa [World.setCell] using h.lt k hk)}
  case sh =>
   exact h.sh.of_block (ho _ (Row.apart h.sh (h.gd t0 mP) (by decide)))
  case tg =>
   exact h.tg.of_block (ho _ (Row.apart h.tg (h.gd t0 mP) (by decide)))
  case an =>
   exact h.an.of_block (ho _ (Row.apart h.an (h.gd t0 mP) (by decide)))
  case po =>
   exact ⟨sp,pU.of_block (ho _ (Row.apart pU (h.gd t0 mP) (by decide))),fun r hr=>(CJ r hr).stay hst hI⟩
  case rw =>
   exact fun r hr=>(h.rw r hr).of_block (ho _ (Row.apart (h.rw r hr) (h.gd t0 mP) (by decide)))
  case th =>
   refine ⟨T,fM.of_block (ho _ (Row.apart fM (h.gd t0 mP) (by decide))),fun t ht=>?_⟩;obtain ⟨cv,cf,pv,q⟩:=xW t ht;refine ⟨cv,cf,pv,?_⟩;have q':=q.stay hst hI;show iU R L _ _ t (aM E.th t0 _ t) _ _ _ _
   by_cases c:t=t0
   ·subst c;rw [aC];exact ⟨q'.like,q'.now,q'.fD,q'.aK⟩
   ·rw [aD _ _ c];exact q'
  case gd =>
   intro t ht
   by_cases q:t=t0
   ·subst q
    refine ((h.gd t ht).set i _).congr (fun k _=>?_);show _=Value.int .i64 ((aM E.th t _ t).dw k);rw [aC];exact IV (E.th t).dw i v k
   ·refine ((h.gd t ht).of_block (ho _ (fun q2=>q (h.ok.dd t t0 ht mP q2)))).congr (fun k _=>?_)
    show _=Value.int .i64 ((aM E.th t0 _ t).dw k);rw [aD _ _ q]
  case gg =>
   intro t ht;refine ((h.gg t ht).of_block (ho _ (nI (h.ok.dg t0 t mP ht)))).congr (fun k _=>?_);exact congrArg _ (congrFun (EZ E.th t0 {E.th t0 with dw:=aM (E.th t0).dw i v} rfl t).symm k)
theorem int.RE.iG:oY int.SR @int.RE:=fK.1
theorem list.RE.iG:oY list.SR @list.RE:=fK.2.1
theorem tree.RE.iG:oY tree.SR @tree.RE:=fK.2.2.1
theorem row.RE.iG:oY row.SR @row.RE:=fK.2.2.2
def qM (SR:Type→Type) (RE:lA SR):Prop:=∀ {σ:Type} {R:SR σ} {L:Lt} {S:Nat→Prop} {E:bD σ} {w:World} (_h:RE R L S E w) (t0:Nat) (_qw:t0<L.n) (i:Nat) (v:Int),RE R L S {E with th:=aM E.th t0 {E.th t0 with tg:=aM (E.th t0).tg i v}} (w.setCell ⟨L.gG t0,i,none⟩ (.int .i64 v))
open row in
theorem gL:qM int.SR @int.RE∧qM list.SR @list.RE∧qM tree.SR @tree.RE∧qM row.SR @row.RE:=by
 refine ⟨?_,?_,?_,?_⟩<;>intro σ R L S E w h t0 mP i v
 all_goals
  obtain ⟨sp,pU,CJ⟩:=h.po;obtain ⟨T,fM,xW⟩:=h.th;have hown:L.own (L.gG t0):=.inr (.inr (.inr (.inr (.inr (.inr ⟨t0,mP,.inr rfl⟩)))));have ho:∀ k,k≠L.gG t0→(w.setCell ⟨L.gG t0,i,none⟩ (.int .i64 v)).heap[k]?=w.heap[k]?:=fun k hk=>cZ w _ _ k hk
  have hst:∀ k,(S k∧¬L.own k)→k<w.heap.size→(S k∧¬L.own k)∧(w.setCell ⟨L.gG t0,i,none⟩ (.int .i64 v)).heap[k]?=w.heap[k]?:=fun k hk _=>⟨hk,ho k (by rintro rfl;exact hk.2 hown)⟩
  have hI:∀ k,(S k∧¬L.own k)→k<w.heap.size:=fun k hk=>h.lt k hk.1
  refine {ok:=h.ok,qQ:=h.qQ.of_block (ho _ (fun q=>h.vL.2 (by rw [q];exact hown))),vL:=h.vL,sh:=?sh,tg:=?tg,an:=?an,po:=?po,rw:=?rw,th:=?th,gd:=?gd,gg:=?gg,ow:=h.ow,lt:=fun k hk=>(by simpa [World.setCell] using h.lt k hk)}
  case sh =>
   exact h.sh.of_block (ho _ (Row.apart h.sh (h.gg t0 mP) (by decide)))
  case tg =>
   exact h.tg.of_block (ho _ (Row.apart h.tg (h.gg t0 mP) (by decide)))
  case an =>
   exact h.an.of_block (ho _ (Row.apart h.an (h.gg t0 mP) (by decide)))
  case po =>
   exact ⟨sp,pU.of_block (ho _ (Row.apart pU (h.gg t0 mP) (by decide))),fun r hr=>(CJ r hr).stay hst hI⟩
  case rw =>
   exact fun r hr=>(h.rw r hr).of_block (ho _ (Row.apart (h.rw r hr) (h.gg t0 mP) (by decide)))
  case th =>
   refine ⟨T,fM.of_block (ho _ (Row.apart fM (h.gg t0 mP) (by decide))),fun t ht=>?_⟩;obtain ⟨cv,cf,pv,q⟩:=xW t ht;refine ⟨cv,cf,pv,?_⟩;have q':=q.stay hst hI;show iU R L _ _ t (aM E.th t0 _ t) _ _ _ _
   by_cases c:t=t0
   ·subst c;rw [aC];exact ⟨q'.like,q'.now,q'.fD,q'.aK⟩
   ·rw [aD _ _ c];exact q'
  case gd =>
   intro t ht;refine ((h.gd t ht).of_block (ho _ (h.ok.dg t t0 ht mP))).congr (fun k _=>?_);exact congrArg _ (congrFun (EY E.th t0 {E.th t0 with tg:=aM (E.th t0).tg i v} rfl t).symm k)
  case gg =>
   intro t ht
   by_cases q:t=t0
   ·subst q
    refine ((h.gg t ht).set i _).congr (fun k _=>?_);show _=Value.int .i64 ((aM E.th t _ t).tg k);rw [aC];exact IV (E.th t).tg i v k
   ·refine ((h.gg t ht).of_block (ho _ (fun q2=>q (h.ok.gg t t0 ht mP q2)))).congr (fun k _=>?_)
    show _=Value.int .i64 ((aM E.th t0 _ t).tg k);rw [aD _ _ q]
theorem int.RE.GY:qM int.SR @int.RE:=gL.1
theorem list.RE.GY:qM list.SR @list.RE:=gL.2.1
theorem tree.RE.GY:qM tree.SR @tree.RE:=gL.2.2.1
theorem row.RE.GY:qM row.SR @row.RE:=gL.2.2.2
def xC (SR:Type→Type) (RE:lA SR):Prop:=∀ {σ:Type} {R:SR σ} {L:Lt} {S:Nat→Prop} {E:bD σ} {w:World} (_h:RE R L S E w) (t0:Nat) (_qw:t0<L.n) (j:Nat) (_hj:j<28) (v:Value) (e':bU σ) (_hd:e'.dw=(E.th t0).dw) (_hg:e'.tg=(E.th t0).tg) (_hn:e'.now=(E.th t0).now) (_hf:e'.fD=(E.th t0).fD) (_hp:e'.aK=(E.th t0).aK) (_aGM:∀ c0 c1 d0 d1 pv,(cN L t0 (E.th t0) [c0,c1] [d0,d1] pv).set j v=cN L t0 e' [c0,c1] [d0,d1] pv),RE R L S {E with th:=aM E.th t0 e'} (w.setCell ⟨L.g,t0*28+j,none⟩ v)
theorem kX:xC int.SR @int.RE∧xC list.SR @list.RE∧xC tree.SR @tree.RE:=by
 refine ⟨?_,?_,?_⟩<;>intro σ R L S E w h t0 mP j hj v e' hd hg hn hf hp LO
 all_goals
  obtain ⟨sp,pU,CJ⟩:=h.po;obtain ⟨T,fM,xW⟩:=h.th;have hown:L.own (L.g):=.inr (.inr (.inr (.inr (.inr (.inl rfl)))));have ho:∀ k,k≠L.g→(w.setCell ⟨L.g,t0*28+j,none⟩ v).heap[k]?=w.heap[k]?:=fun k hk=>cZ w _ _ k hk
  have hst:∀ k,(S k∧¬L.own k)→k<w.heap.size→(S k∧¬L.own k)∧(w.setCell ⟨L.g,t0*28+j,none⟩ v).heap[k]?=w.heap[k]?:=fun k hk _=>⟨hk,ho k (by rintro rfl;exact hk.2 hown)⟩
  have hI:∀ k,(S k∧¬L.own k)→k<w.heap.size:=fun k hk=>h.lt k hk.1
  refine {ok:=h.ok,qQ:=h.qQ.of_block (ho _ (fun q=>h.vL.2 (by rw [q];exact hown))),vL:=h.vL,sh:=?sh,tg:=?tg,an:=?an,po:=?po,rw:=?rw,th:=?th,gd:=?gd,gg:=?gg,ow:=h.ow,lt:=fun k hk=>(by simpa [World.setCell] using h.lt k hk)}
  case sh =>
   exact h.sh.of_block (ho _ (Row.apart h.sh fM (by decide)))
  case tg =>
   exact h.tg.of_block (ho _ (Row.apart h.tg fM (by decide)))
  case an =>
   exact h.an.of_block (ho _ (Row.apart h.an fM (by decide)))
  case po =>
   exact ⟨sp,pU.of_block (ho _ (Row.apart pU fM (by decide))),fun r hr=>(CJ r hr).stay hst hI⟩
  case rw =>
   exact fun r hr=>(h.rw r hr).of_block (ho _ (Row.apart (h.rw r hr) fM (by decide)))
  case th =>
   refine ⟨_,fM.set hj v,fun t ht=>?_⟩;obtain ⟨cv,cf,pv,q⟩:=xW t ht;refine ⟨cv,cf,pv,?_⟩;show iU R L _ _ t (aM E.th t0 e' t) (aM T t0 (aM (T t0) j v) t) _ _ _;have q':=q.stay hst hI
   by_cases c:t=t0
   ·subst c
    rw [aC,aC];obtain ⟨c0,c1,rfl⟩:=aF q.now.1;obtain ⟨d0,d1,rfl⟩:=aF q.fD.1;refine ⟨?_,by rw [hn];exact q'.now,by rw [hf];exact q'.fD,by rw [hp];exact q'.aK⟩;have:=q.like.set j v
    rwa [LO] at this
   ·rw [aD _ _ c,aD _ _ c];exact q'
  case gd =>
   intro t ht;refine ((h.gd t ht).of_block (ho _ (Row.apart (h.gd t ht) fM (by decide)))).congr (fun k _=>?_);show _=Value.int .i64 ((aM E.th t0 e' t).dw k);rw [EY _ _ _ hd]
  case gg =>
   intro t ht;refine ((h.gg t ht).of_block (ho _ (Row.apart (h.gg t ht) fM (by decide)))).congr (fun k _=>?_);show _=Value.int .i64 ((aM E.th t0 e' t).tg k);rw [EZ _ _ _ hg]
theorem int.RE.vF:xC int.SR @int.RE:=kX.1
theorem list.RE.vF:xC list.SR @list.RE:=kX.2.1
theorem tree.RE.vF:xC tree.SR @tree.RE:=kX.2.2
theorem row.RE.vF {σ:Type} {R:SR σ} {L:Lt} {S:Nat→Prop} {E:bD σ} {w:World} (h:RE R L S E w) (t0:Nat) (mP:t0<L.n) (j:Nat) (hj:j<30) (v:Value) (e':bU σ) (hd:e'.dw=(E.th t0).dw) (hg:e'.tg=(E.th t0).tg) (hn:e'.now=(E.th t0).now) (hf:e'.fD=(E.th t0).fD) (hp:e'.aK=(E.th t0).aK) (LO:∀ c0 c1 c2 d0 d1 d2 pv,(cN L t0 (E.th t0) [c0,c1,c2] [d0,d1,d2] pv).set j v=cN L t0 e' [c0,c1,c2] [d0,d1,d2] pv):RE R L S {E with th:=aM E.th t0 e'} (w.setCell ⟨L.g,t0*30+j,none⟩ v):=by
 obtain ⟨sp,pU,CJ⟩:=h.po;obtain ⟨T,fM,xW⟩:=h.th;have hown:L.own (L.g):=.inr (.inr (.inr (.inr (.inr (.inl rfl)))));have ho:∀ k,k≠L.g→(w.setCell ⟨L.g,t0*30+j,none⟩ v).heap[k]?=w.heap[k]?:=fun k hk=>cZ w _ _ k hk
 have hst:∀ k,(S k∧¬L.own k)→k<w.heap.size→(S k∧¬L.own k)∧(w.setCell ⟨L.g,t0*30+j,none⟩ v).heap[k]?=w.heap[k]?:=fun k hk _=>⟨hk,ho k (by rintro rfl;exact hk.2 hown)⟩
 have hI:∀ k,(S k∧¬L.own k)→k<w.heap.size:=fun k hk=>h.lt k hk.1
 refine {ok:=h.ok,qQ:=h.qQ.of_block (ho _ (fun q=>h.vL.2 (by rw [q];exact hown))),vL:=h.vL,sh:=?sh,tg:=?tg,an:=?an,po:=?po,rw:=?rw,th:=?th,gd:=?gd,gg:=?gg,ow:=h.ow,lt:=fun k hk=>(by simpa [World.setCell] using h.lt k hk)}
 case sh =>
  exact h.sh.of_block (ho _ (Row.apart h.sh fM (by decide)))
 case tg =>
  exact h.tg.of_block (ho _ (Row.apart h.tg fM (by decide)))
 case an =>
  exact h.an.of_block (ho _ (Row.apart h.an fM (by decide)))
 case po =>
  exact ⟨sp,pU.of_block (ho _ (Row.apart pU fM (by decide))),fun r hr=>(CJ r hr).stay hst hI⟩
 case rw =>
  exact fun r hr=>(h.rw r hr).of_block (ho _ (Row.apart (h.rw r hr) fM (by decide)))
 case th =>
  refine ⟨_,fM.set hj v,fun t ht=>?_⟩;obtain ⟨cv,cf,pv,q⟩:=xW t ht;refine ⟨cv,cf,pv,?_⟩;show iU R L _ _ t (aM E.th t0 e' t) (aM T t0 (aM (T t0) j v) t) _ _ _;have q':=q.stay hst hI
  by_cases c:t=t0
  ·subst c
   rw [aC,aC];obtain ⟨c0,c1,c2,rfl⟩:=aF q.now.1;obtain ⟨d0,d1,d2,rfl⟩:=aF q.fD.1;refine ⟨?_,by rw [hn];exact q'.now,by rw [hf];exact q'.fD,by rw [hp];exact q'.aK⟩;have:=q.like.set j v
   rwa [LO] at this
  ·rw [aD _ _ c,aD _ _ c];exact q'
 case gd =>
  intro t ht;refine ((h.gd t ht).of_block (ho _ (Row.apart (h.gd t ht) fM (by decide)))).congr (fun k _=>?_);show _=Value.int .i64 ((aM E.th t0 e' t).dw k);rw [EY _ _ _ hd]
 case gg =>
  intro t ht;refine ((h.gg t ht).of_block (ho _ (Row.apart (h.gg t ht) fM (by decide)))).congr (fun k _=>?_);show _=Value.int .i64 ((aM E.th t0 e' t).tg k);rw [EZ _ _ _ hg]
def xD (SR:Type→Type) (RE:lA SR):Prop:=∀ {σ:Type} {R:SR σ} {L:Lt} {S:Nat→Prop} {E:bD σ} {w:World} (_h:RE R L S E w) (t0:Nat) (_qw:t0<L.n) (pv:Value) (p:List Nat) (_hp:EH (fun k=>S k∧¬L.own k) w p pv) (e':bU σ) (_he:e' = {E.th t0 with aK:=p}) (_hd:e'.dw=(E.th t0).dw) (_hg:e'.tg=(E.th t0).tg),RE R L S {E with th:=aM E.th t0 e'} (w.setCell ⟨L.g,t0*28+20,none⟩ pv)
theorem kY:xD int.SR @int.RE∧xD list.SR @list.RE∧xD tree.SR @tree.RE:=by
 refine ⟨?_,?_,?_⟩<;>intro σ R L S E w h t0 mP pv p hp e' he hd hg
 all_goals
  obtain ⟨sp,pU,CJ⟩:=h.po;obtain ⟨T,fM,xW⟩:=h.th;have hown:L.own (L.g):=.inr (.inr (.inr (.inr (.inr (.inl rfl)))));have ho:∀ k,k≠L.g→(w.setCell ⟨L.g,t0*28+20,none⟩ pv).heap[k]?=w.heap[k]?:=fun k hk=>cZ w _ _ k hk
  have hst:∀ k,(S k∧¬L.own k)→k<w.heap.size→(S k∧¬L.own k)∧(w.setCell ⟨L.g,t0*28+20,none⟩ pv).heap[k]?=w.heap[k]?:=fun k hk _=>⟨hk,ho k (by rintro rfl;exact hk.2 hown)⟩
  have hI:∀ k,(S k∧¬L.own k)→k<w.heap.size:=fun k hk=>h.lt k hk.1
  refine {ok:=h.ok,qQ:=h.qQ.of_block (ho _ (fun q=>h.vL.2 (by rw [q];exact hown))),vL:=h.vL,sh:=?sh,tg:=?tg,an:=?an,po:=?po,rw:=?rw,th:=?th,gd:=?gd,gg:=?gg,ow:=h.ow,lt:=fun k hk=>(by simpa [World.setCell] using h.lt k hk)}
  case sh =>
   exact h.sh.of_block (ho _ (Row.apart h.sh fM (by decide)))
  case tg =>
   exact h.tg.of_block (ho _ (Row.apart h.tg fM (by decide)))
  case an =>
   exact h.an.of_block (ho _ (Row.apart h.an fM (by decide)))
  case po =>
   exact ⟨sp,pU.of_block (ho _ (Row.apart pU fM (by decide))),fun r hr=>(CJ r hr).stay hst hI⟩
  case rw =>
   exact fun r hr=>(h.rw r hr).of_block (ho _ (Row.apart (h.rw r hr) fM (by decide)))
  case th =>
   refine ⟨_,fM.set (j:=20) (by decide) pv,fun t ht=>?_⟩;obtain ⟨cv,cf,pv0,q⟩:=xW t ht;have q':=q.stay hst hI
   by_cases c:t=t0
   ·subst c
    refine ⟨cv,cf,pv,?_⟩;show iU R L _ _ t (aM E.th t e' t) (aM T t (aM (T t) 20 pv) t) _ _ _;rw [aC,aC,he];obtain ⟨c0,c1,rfl⟩:=aF q.now.1;obtain ⟨d0,d1,rfl⟩:=aF q.fD.1;exact ⟨q.like.set 20 pv,q'.now,q'.fD,hp.stay hst hI⟩
   ·refine ⟨cv,cf,pv0,?_⟩
    show iU R L _ _ t (aM E.th t0 e' t) (aM T t0 (aM (T t0) 20 pv) t) _ _ _;rw [aD _ _ c,aD _ _ c];exact q'
  case gd =>
   intro t ht;refine ((h.gd t ht).of_block (ho _ (Row.apart (h.gd t ht) fM (by decide)))).congr (fun k _=>?_);show _=Value.int .i64 ((aM E.th t0 e' t).dw k);rw [EY _ _ _ hd]
  case gg =>
   intro t ht;refine ((h.gg t ht).of_block (ho _ (Row.apart (h.gg t ht) fM (by decide)))).congr (fun k _=>?_);show _=Value.int .i64 ((aM E.th t0 e' t).tg k);rw [EZ _ _ _ hg]
theorem int.RE.GX:xD int.SR @int.RE:=kY.1
theorem list.RE.GX:xD list.SR @list.RE:=kY.2.1
theorem tree.RE.GX:xD tree.SR @tree.RE:=kY.2.2
theorem row.RE.GX {σ:Type} {R:SR σ} {L:Lt} {S:Nat→Prop} {E:bD σ} {w:World} (h:RE R L S E w) (t0:Nat) (mP:t0<L.n) (pv:Value) (p:List Nat) (hp:EH (fun k=>S k∧¬L.own k) w p pv) (e':bU σ) (he:e' = {E.th t0 with aK:=p}) (hd:e'.dw=(E.th t0).dw) (hg:e'.tg=(E.th t0).tg):RE R L S {E with th:=aM E.th t0 e'} (w.setCell ⟨L.g,t0*30+22,none⟩ pv):=by
 obtain ⟨sp,pU,CJ⟩:=h.po;obtain ⟨T,fM,xW⟩:=h.th;have hown:L.own (L.g):=.inr (.inr (.inr (.inr (.inr (.inl rfl)))));have ho:∀ k,k≠L.g→(w.setCell ⟨L.g,t0*30+22,none⟩ pv).heap[k]?=w.heap[k]?:=fun k hk=>cZ w _ _ k hk
 have hst:∀ k,(S k∧¬L.own k)→k<w.heap.size→(S k∧¬L.own k)∧(w.setCell ⟨L.g,t0*30+22,none⟩ pv).heap[k]?=w.heap[k]?:=fun k hk _=>⟨hk,ho k (by rintro rfl;exact hk.2 hown)⟩
 have hI:∀ k,(S k∧¬L.own k)→k<w.heap.size:=fun k hk=>h.lt k hk.1
 refine {ok:=h.ok,qQ:=h.qQ.of_block (ho _ (fun q=>h.vL.2 (by rw [q];exact hown))),vL:=h.vL,sh:=?sh,tg:=?tg,an:=?an,po:=?po,rw:=?rw,th:=?th,gd:=?gd,gg:=?gg,ow:=h.ow,lt:=fun k hk=>(by simpa [World.setCell] using h.lt k hk)}
 case sh =>
  exact h.sh.of_block (ho _ (Row.apart h.sh fM (by decide)))
 case tg =>
  exact h.tg.of_block (ho _ (Row.apart h.tg fM (by decide)))
 case an =>
  exact h.an.of_block (ho _ (Row.apart h.an fM (by decide)))
 case po =>
  exact ⟨sp,pU.of_block (ho _ (Row.apart pU fM (by decide))),fun r hr=>(CJ r hr).stay hst hI⟩
 case rw =>
  exact fun r hr=>(h.rw r hr).of_block (ho _ (Row.apart (h.rw r hr) fM (by decide)))
 case th =>
  refine ⟨_,fM.set (j:=22) (by decide) pv,fun t ht=>?_⟩;obtain ⟨cv,cf,pv0,q⟩:=xW t ht;have q':=q.stay hst hI
  by_cases c:t=t0
  ·subst c
   refine ⟨cv,cf,pv,?_⟩;show iU R L _ _ t (aM E.th t e' t) (aM T t (aM (T t) 22 pv) t) _ _ _;rw [aC,aC,he];obtain ⟨c0,c1,c2,rfl⟩:=aF q.now.1;obtain ⟨d0,d1,d2,rfl⟩:=aF q.fD.1;exact ⟨q.like.set 22 pv,q'.now,q'.fD,hp.stay hst hI⟩
  ·refine ⟨cv,cf,pv0,?_⟩
   show iU R L _ _ t (aM E.th t0 e' t) (aM T t0 (aM (T t0) 22 pv) t) _ _ _;rw [aD _ _ c,aD _ _ c];exact q'
 case gd =>
  intro t ht;refine ((h.gd t ht).of_block (ho _ (Row.apart (h.gd t ht) fM (by decide)))).congr (fun k _=>?_);show _=Value.int .i64 ((aM E.th t0 e' t).dw k);rw [EY _ _ _ hd]
 case gg =>
  intro t ht;refine ((h.gg t ht).of_block (ho _ (Row.apart (h.gg t ht) fM (by decide)))).congr (fun k _=>?_);show _=Value.int .i64 ((aM E.th t0 e' t).tg k);rw [EZ _ _ _ hg]
end Go.Proofs.YtefjhnhdagolhaaGreat
