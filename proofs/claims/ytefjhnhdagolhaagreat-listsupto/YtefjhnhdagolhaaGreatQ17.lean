import Derived.Test.YtefjhnhdagolhaaGreatQ06
import Derived.Test.YtefjhnhdagolhaaGreatQ16
import Derived.Test.YtefjhnhdagolhaaGreatQ13
namespace Go.Proofs.YtefjhnhdagolhaaGreat.list
open Go.RowKit
open M (aI aC aD Op dA aS cA tw aO)
theorem iU (f:Nat→Int) (i:Nat) (v:Int) (k:Nat):aI (fun i=>Value.int .i64 (f i)) i (.int .i64 v) k = .int .i64 (aI f i v k):=by unfold aI;split<;>rfl
theorem kG {σ:Type} (f:Nat→aS σ) (t:Nat) (e:aS σ) (h:e.dw=(f t).dw) (u:Nat):(aI f t e u).dw=(f u).dw:=by
 by_cases q:u=t
 ·subst q;rw [aC,h]
 ·rw [aD _ _ q]
theorem kH {σ:Type} (f:Nat→aS σ) (t:Nat) (e:aS σ) (h:e.tg=(f t).tg) (u:Nat):(aI f t e u).tg=(f u).tg:=by
 by_cases q:u=t
 ·subst q;rw [aC,h]
 ·rw [aD _ _ q]
section
variable {σ:Type} {R:SR σ} {L:Lt} {S:Nat→Prop} {E:cA σ} {w w':World}
theorem aH {l:List Value} (h:l.length=1+1):∃ c0 c1,l=[c0,c1]:=by
 match l,h with
 |[c0,c1],_=>exact ⟨c0,c1,rfl⟩
theorem RE.stay (h:RE R L S E w) {S':Nat→Prop} (hb:∀ k,S k→w'.heap[k]?=w.heap[k]?) (hS:∀ k,S k→S' k) (hl:∀ k,S' k→k<w'.heap.size):RE R L S' E w':=by
 have hst:∀ k,(S k∧¬L.own k)→k<w.heap.size→(S' k∧¬L.own k)∧w'.heap[k]?=w.heap[k]?:=fun k hk _=>⟨⟨hS k hk.1,hk.2⟩,hb k hk.1⟩
 have hI:∀ k,(S k∧¬L.own k)→k<w.heap.size:=fun k hk=>h.lt k hk.1
 have ow:∀ {k},L.own k→w'.heap[k]?=w.heap[k]?:=fun hk=>hb _ (h.ow _ hk)
 obtain ⟨sp,fE,jK⟩:=h.po
 obtain ⟨T,dD,iM⟩:=h.th
 refine {ok:=h.ok,fL:=h.fL.of_block (hb _ h.gB.1),gB:=⟨hS _ h.gB.1,h.gB.2⟩,sh:=h.sh.of_block (ow (.inl rfl)),tg:=h.tg.of_block (ow (.inr (.inl rfl))),an:=h.an.of_block (ow (.inr (.inr (.inl rfl)))),po:=?po,rw:=?rw,th:=?th,gd:=?gd,gg:=?gg,ow:=fun k hk=>hS k (h.ow k hk),lt:=hl}
 case po=>exact ⟨sp,fE.of_block (ow (.inr (.inr (.inr (.inl rfl))))),fun r hr=>(jK r hr).stay hst hI⟩
 case rw=>exact fun r hr=>(h.rw r hr).of_block (ow (.inr (.inr (.inr (.inr (.inl ⟨r,hr,rfl⟩))))))
 case th =>
  refine ⟨T,dD.of_block (ow (.inr (.inr (.inr (.inr (.inr (.inl rfl))))))),fun t ht=>?_⟩
  obtain ⟨cv,cf,pv,q⟩:=iM t ht
  exact ⟨cv,cf,pv,q.stay hst hI⟩
 case gd=>exact fun t ht=>(h.gd t ht).of_block (ow (.inr (.inr (.inr (.inr (.inr (.inr ⟨t,ht,.inl rfl⟩)))))))
 case gg=>exact fun t ht=>(h.gg t ht).of_block (ow (.inr (.inr (.inr (.inr (.inr (.inr ⟨t,ht,.inr rfl⟩)))))))
def grown (S:Nat→Prop) (w w':World) (k:Nat):Prop:=S k∨(w.heap.size≤k∧k<w'.heap.size)
theorem RE.below (h:RE R L S E w) (hb:Below w.heap.size w w'):RE R L (grown S w w') E w':=by
 refine h.stay (fun k hk=>hb.block k (h.lt k hk)) (fun k hk=>.inl hk) (fun k hk=>?_)
 rcases hk with hk|hk
 ·exact Nat.lt_of_lt_of_le (h.lt k hk) hb.size
 ·exact hk.2
theorem RE.drewN (h:RE R L S E w) (n:Nat):RE R L S E (w.drewN n):=h.stay (fun _ _=>rfl) (fun _ hk=>hk) h.lt
theorem RE.mono (h:RE R L S E w) {S':Nat→Prop} (hS:∀ k,S k→S' k) (hl:∀ k,S' k→k<w.heap.size):RE R L S' E w:=h.stay (fun _ _=>rfl) hS hl
theorem RE.CS (h:RE R L S E w) (ps pr:Nat):RE R L S {E with dZ:=ps,prec:=pr} (w.setCell ⟨L.bS,5,none⟩ (.int .i64 ((ps:Int)*129+(pr:Int)))):=by
 obtain ⟨sp,fE,jK⟩:=h.po
 obtain ⟨T,dD,iM⟩:=h.th
 have hown:L.own (L.bS):=.inl rfl
 have ho:∀ k,k≠L.bS→(w.setCell ⟨L.bS,5,none⟩ (.int .i64 ((ps:Int)*129+(pr:Int)))).heap[k]?=w.heap[k]?:=fun k hk=>Below.heap_setCell w _ _ k hk
 have hst:∀ k,(S k∧¬L.own k)→k<w.heap.size→(S k∧¬L.own k)∧(w.setCell ⟨L.bS,5,none⟩ (.int .i64 ((ps:Int)*129+(pr:Int)))).heap[k]?=w.heap[k]?:=fun k hk _=>⟨hk,ho k (by rintro rfl;exact hk.2 hown)⟩
 have hI:∀ k,(S k∧¬L.own k)→k<w.heap.size:=fun k hk=>h.lt k hk.1
 refine {ok:=h.ok,fL:=h.fL.of_block (ho _ (fun q=>h.gB.2 (by rw [q];exact hown))),gB:=h.gB,sh:=?sh,tg:=?tg,an:=?an,po:=?po,rw:=?rw,th:=?th,gd:=?gd,gg:=?gg,ow:=h.ow,lt:=fun k hk=>(by simpa [World.setCell] using h.lt k hk)}
 case sh =>
  exact h.sh.set 5 _
 case tg =>
  exact h.tg.of_block (ho _ (Row.apart h.tg h.sh (by decide)))
 case an =>
  exact h.an.of_block (ho _ (Row.apart h.an h.sh (by decide)))
 case po =>
  exact ⟨sp,fE.of_block (ho _ (Row.apart fE h.sh (by decide))),fun r hr=>(jK r hr).stay hst hI⟩
 case rw =>
  exact fun r hr=>(h.rw r hr).of_block (ho _ (Row.apart (h.rw r hr) h.sh (by decide)))
 case th =>
  refine ⟨T,dD.of_block (ho _ (Row.apart dD h.sh (by decide))),fun t ht=>?_⟩
  obtain ⟨cv,cf,pv,q⟩:=iM t ht
  exact ⟨cv,cf,pv,q.stay hst hI⟩
 case gd =>
  exact fun t ht=>(h.gd t ht).of_block (ho _ (Row.apart (h.gd t ht) h.sh (by decide)))
 case gg =>
  exact fun t ht=>(h.gg t ht).of_block (ho _ (Row.apart (h.gg t ht) h.sh (by decide)))
theorem RE.sQ (h:RE R L S E w) (i:Nat) (v:Int):RE R L S {E with cC:=aI E.cC i v} (w.setCell ⟨L.cM,i,none⟩ (.int .i64 v)):=by
 obtain ⟨sp,fE,jK⟩:=h.po
 obtain ⟨T,dD,iM⟩:=h.th
 have hown:L.own (L.cM):=.inr (.inl rfl)
 have ho:∀ k,k≠L.cM→(w.setCell ⟨L.cM,i,none⟩ (.int .i64 v)).heap[k]?=w.heap[k]?:=fun k hk=>Below.heap_setCell w _ _ k hk
 have hst:∀ k,(S k∧¬L.own k)→k<w.heap.size→(S k∧¬L.own k)∧(w.setCell ⟨L.cM,i,none⟩ (.int .i64 v)).heap[k]?=w.heap[k]?:=fun k hk _=>⟨hk,ho k (by rintro rfl;exact hk.2 hown)⟩
 have hI:∀ k,(S k∧¬L.own k)→k<w.heap.size:=fun k hk=>h.lt k hk.1
 refine {ok:=h.ok,fL:=h.fL.of_block (ho _ (fun q=>h.gB.2 (by rw [q];exact hown))),gB:=h.gB,sh:=?sh,tg:=?tg,an:=?an,po:=?po,rw:=?rw,th:=?th,gd:=?gd,gg:=?gg,ow:=h.ow,lt:=fun k hk=>(by simpa [World.setCell] using h.lt k hk)}
 case sh =>
  exact h.sh.of_block (ho _ (Row.apart h.sh h.tg (by decide)))
 case tg =>
  exact (h.tg.set i _).congr (fun k _=>iU E.cC i v k)
 case an =>
  exact h.an.of_block (ho _ (Row.apart h.an h.tg (by decide)))
 case po =>
  exact ⟨sp,fE.of_block (ho _ (Row.apart fE h.tg (by decide))),fun r hr=>(jK r hr).stay hst hI⟩
 case rw =>
  exact fun r hr=>(h.rw r hr).of_block (ho _ (Ne.symm (h.ok.tw r hr)))
 case th =>
  refine ⟨T,dD.of_block (ho _ (Row.apart dD h.tg (by decide))),fun t ht=>?_⟩
  obtain ⟨cv,cf,pv,q⟩:=iM t ht
  exact ⟨cv,cf,pv,q.stay hst hI⟩
 case gd =>
  exact fun t ht=>(h.gd t ht).of_block (ho _ (Row.apart (h.gd t ht) h.tg (by decide)))
 case gg =>
  exact fun t ht=>(h.gg t ht).of_block (ho _ (Row.apart (h.gg t ht) h.tg (by decide)))
theorem RE.CT (h:RE R L S E w) (t1 i:Nat) (hi:i<3) (v:Int):RE R L S {E with eS:=aI E.eS t1 (aI (E.eS t1) i v)} (w.setCell ⟨L.cO,t1*3+i,none⟩ (.int .i64 v)):=by
 obtain ⟨sp,fE,jK⟩:=h.po
 obtain ⟨T,dD,iM⟩:=h.th
 have hown:L.own (L.cO):=.inr (.inr (.inl rfl))
 have ho:∀ k,k≠L.cO→(w.setCell ⟨L.cO,t1*3+i,none⟩ (.int .i64 v)).heap[k]?=w.heap[k]?:=fun k hk=>Below.heap_setCell w _ _ k hk
 have hst:∀ k,(S k∧¬L.own k)→k<w.heap.size→(S k∧¬L.own k)∧(w.setCell ⟨L.cO,t1*3+i,none⟩ (.int .i64 v)).heap[k]?=w.heap[k]?:=fun k hk _=>⟨hk,ho k (by rintro rfl;exact hk.2 hown)⟩
 have hI:∀ k,(S k∧¬L.own k)→k<w.heap.size:=fun k hk=>h.lt k hk.1
 refine {ok:=h.ok,fL:=h.fL.of_block (ho _ (fun q=>h.gB.2 (by rw [q];exact hown))),gB:=h.gB,sh:=?sh,tg:=?tg,an:=?an,po:=?po,rw:=?rw,th:=?th,gd:=?gd,gg:=?gg,ow:=h.ow,lt:=fun k hk=>(by simpa [World.setCell] using h.lt k hk)}
 case sh =>
  exact h.sh.of_block (ho _ (Row.apart h.sh h.an (by decide)))
 case tg =>
  exact h.tg.of_block (ho _ (Row.apart h.tg h.an (by decide)))
 case an =>
  refine (h.an.set hi _).congr (fun k _=>?_)
  dsimp only
  by_cases q:k / 3=t1
  ·rw [q,aC,aC];exact iU _ i v _
  ·rw [aD _ _ q,aD _ _ q]
 case po =>
  exact ⟨sp,fE.of_block (ho _ (Row.apart fE h.an (by decide))),fun r hr=>(jK r hr).stay hst hI⟩
 case rw =>
  exact fun r hr=>(h.rw r hr).of_block (ho _ (Row.apart (h.rw r hr) h.an (by decide)))
 case th =>
  refine ⟨T,dD.of_block (ho _ (Row.apart dD h.an (by decide))),fun t ht=>?_⟩
  obtain ⟨cv,cf,pv,q⟩:=iM t ht
  exact ⟨cv,cf,pv,q.stay hst hI⟩
 case gd =>
  exact fun t ht=>(h.gd t ht).of_block (ho _ (Row.apart (h.gd t ht) h.an (by decide)))
 case gg =>
  exact fun t ht=>(h.gg t ht).of_block (ho _ (Row.apart (h.gg t ht) h.an (by decide)))
theorem RE.wS (h:RE R L S E w) (r0:Nat) (uX:r0<2*L.n+1) (i:Nat) (v:Int):RE R L S {E with rw:=aI E.rw r0 (aI (E.rw r0) i v)} (w.setCell ⟨L.bW r0,i,none⟩ (.int .i64 v)):=by
 obtain ⟨sp,fE,jK⟩:=h.po
 obtain ⟨T,dD,iM⟩:=h.th
 have hown:L.own (L.bW r0):=.inr (.inr (.inr (.inr (.inl ⟨r0,uX,rfl⟩))))
 have ho:∀ k,k≠L.bW r0→(w.setCell ⟨L.bW r0,i,none⟩ (.int .i64 v)).heap[k]?=w.heap[k]?:=fun k hk=>Below.heap_setCell w _ _ k hk
 have hst:∀ k,(S k∧¬L.own k)→k<w.heap.size→(S k∧¬L.own k)∧(w.setCell ⟨L.bW r0,i,none⟩ (.int .i64 v)).heap[k]?=w.heap[k]?:=fun k hk _=>⟨hk,ho k (by rintro rfl;exact hk.2 hown)⟩
 have hI:∀ k,(S k∧¬L.own k)→k<w.heap.size:=fun k hk=>h.lt k hk.1
 refine {ok:=h.ok,fL:=h.fL.of_block (ho _ (fun q=>h.gB.2 (by rw [q];exact hown))),gB:=h.gB,sh:=?sh,tg:=?tg,an:=?an,po:=?po,rw:=?rw,th:=?th,gd:=?gd,gg:=?gg,ow:=h.ow,lt:=fun k hk=>(by simpa [World.setCell] using h.lt k hk)}
 case sh =>
  exact h.sh.of_block (ho _ (Row.apart h.sh (h.rw r0 uX) (by decide)))
 case tg =>
  exact h.tg.of_block (ho _ (h.ok.tw r0 uX))
 case an =>
  exact h.an.of_block (ho _ (Row.apart h.an (h.rw r0 uX) (by decide)))
 case po =>
  exact ⟨sp,fE.of_block (ho _ (Row.apart fE (h.rw r0 uX) (by decide))),fun r hr=>(jK r hr).stay hst hI⟩
 case rw =>
  intro r hr
  show Fn _ _ _ _ (fun k=>.int .i64 (aI E.rw r0 (aI (E.rw r0) i v) r k))
  by_cases q:r=r0
  ·subst q
   rw [aC]
   exact ((h.rw r hr).set i _).congr (fun k _=>iU (E.rw r) i v k)
  ·rw [aD _ _ q]
   exact (h.rw r hr).of_block (ho _ (fun q2=>q (h.ok.ww r r0 hr uX q2)))
 case th =>
  refine ⟨T,dD.of_block (ho _ (Row.apart dD (h.rw r0 uX) (by decide))),fun t ht=>?_⟩
  obtain ⟨cv,cf,pv,q⟩:=iM t ht
  exact ⟨cv,cf,pv,q.stay hst hI⟩
 case gd =>
  exact fun t ht=>(h.gd t ht).of_block (ho _ (Row.apart (h.gd t ht) (h.rw r0 uX) (by decide)))
 case gg =>
  exact fun t ht=>(h.gg t ht).of_block (ho _ (Row.apart (h.gg t ht) (h.rw r0 uX) (by decide)))
theorem RE.tP (h:RE R L S E w) (r0:Nat) (uX:r0<2*L.n+1) (b:Nat) (x:Option (dA σ×dA σ)) (hx:lZ R (fun k=>S k∧¬L.own k) w x (some b)):RE R L S {E with gC:=aI E.gC r0 x} (w.setCell ⟨L.bP,r0*2+1,none⟩ (.pointer (some ⟨b,0,none⟩))):=by
 obtain ⟨sp,fE,jK⟩:=h.po
 obtain ⟨T,dD,iM⟩:=h.th
 have hown:L.own (L.bP):=.inr (.inr (.inr (.inl rfl)))
 have ho:∀ k,k≠L.bP→(w.setCell ⟨L.bP,r0*2+1,none⟩ (.pointer (some ⟨b,0,none⟩))).heap[k]?=w.heap[k]?:=fun k hk=>Below.heap_setCell w _ _ k hk
 have hst:∀ k,(S k∧¬L.own k)→k<w.heap.size→(S k∧¬L.own k)∧(w.setCell ⟨L.bP,r0*2+1,none⟩ (.pointer (some ⟨b,0,none⟩))).heap[k]?=w.heap[k]?:=fun k hk _=>⟨hk,ho k (by rintro rfl;exact hk.2 hown)⟩
 have hI:∀ k,(S k∧¬L.own k)→k<w.heap.size:=fun k hk=>h.lt k hk.1
 refine {ok:=h.ok,fL:=h.fL.of_block (ho _ (fun q=>h.gB.2 (by rw [q];exact hown))),gB:=h.gB,sh:=?sh,tg:=?tg,an:=?an,po:=?po,rw:=?rw,th:=?th,gd:=?gd,gg:=?gg,ow:=h.ow,lt:=fun k hk=>(by simpa [World.setCell] using h.lt k hk)}
 case sh =>
  exact h.sh.of_block (ho _ (Row.apart h.sh fE (by decide)))
 case tg =>
  exact h.tg.of_block (ho _ (Row.apart h.tg fE (by decide)))
 case an =>
  exact h.an.of_block (ho _ (Row.apart h.an fE (by decide)))
 case po =>
  refine ⟨aI sp r0 (some b),(fE.set (i:=r0) (j:=1) (by decide) _).congr (fun k _=>?_),fun r hr=>?_⟩
  ·by_cases q:k / 2=r0
   ·rw [q,aC]
    rcases Nat.mod_two_eq_zero_or_one k with m|m
    ·rw [m,aD _ _ (by decide)]
     rfl
    ·rw [m,aC]
     simp [aC]
   ·rw [aD _ _ q]
    simp [aD _ _ q]
  ·show lZ R _ _ (aI E.gC r0 x r) (aI sp r0 (some b) r)
   by_cases q:r=r0
   ·subst q;rw [aC,aC];exact hx.stay hst hI
   ·rw [aD _ _ q,aD _ _ q];exact (jK r hr).stay hst hI
 case rw =>
  exact fun r hr=>(h.rw r hr).of_block (ho _ (Row.apart (h.rw r hr) fE (by decide)))
 case th =>
  refine ⟨T,dD.of_block (ho _ (Row.apart dD fE (by decide))),fun t ht=>?_⟩
  obtain ⟨cv,cf,pv,q⟩:=iM t ht
  exact ⟨cv,cf,pv,q.stay hst hI⟩
 case gd =>
  exact fun t ht=>(h.gd t ht).of_block (ho _ (Row.apart (h.gd t ht) fE (by decide)))
 case gg =>
  exact fun t ht=>(h.gg t ht).of_block (ho _ (Row.apart (h.gg t ht) fE (by decide)))
theorem RE.gP (h:RE R L S E w) (t0:Nat) (fG:t0<L.n) (i:Nat) (v:Int):RE R L S {E with th:=aI E.th t0 {E.th t0 with dw:=aI (E.th t0).dw i v}} (w.setCell ⟨L.gD t0,i,none⟩ (.int .i64 v)):=by
 obtain ⟨sp,fE,jK⟩:=h.po
 obtain ⟨T,dD,iM⟩:=h.th
 have hown:L.own (L.gD t0):=.inr (.inr (.inr (.inr (.inr (.inr ⟨t0,fG,.inl rfl⟩)))))
 have ho:∀ k,k≠L.gD t0→(w.setCell ⟨L.gD t0,i,none⟩ (.int .i64 v)).heap[k]?=w.heap[k]?:=fun k hk=>Below.heap_setCell w _ _ k hk
 have hst:∀ k,(S k∧¬L.own k)→k<w.heap.size→(S k∧¬L.own k)∧(w.setCell ⟨L.gD t0,i,none⟩ (.int .i64 v)).heap[k]?=w.heap[k]?:=fun k hk _=>⟨hk,ho k (by rintro rfl;exact hk.2 hown)⟩
 have hI:∀ k,(S k∧¬L.own k)→k<w.heap.size:=fun k hk=>h.lt k hk.1
 refine {ok:=h.ok,fL:=h.fL.of_block (ho _ (fun q=>h.gB.2 (by rw [q];exact hown))),gB:=h.gB,sh:=?sh,tg:=?tg,an:=?an,po:=?po,rw:=?rw,th:=?th,gd:=?gd,gg:=?gg,ow:=h.ow,lt:=fun k hk=>(by simpa [World.setCell] using h.lt k hk)}
 case sh =>
  exact h.sh.of_block (ho _ (Row.apart h.sh (h.gd t0 fG) (by decide)))
 case tg =>
  exact h.tg.of_block (ho _ (Row.apart h.tg (h.gd t0 fG) (by decide)))
 case an =>
  exact h.an.of_block (ho _ (Row.apart h.an (h.gd t0 fG) (by decide)))
 case po =>
  exact ⟨sp,fE.of_block (ho _ (Row.apart fE (h.gd t0 fG) (by decide))),fun r hr=>(jK r hr).stay hst hI⟩
 case rw =>
  exact fun r hr=>(h.rw r hr).of_block (ho _ (Row.apart (h.rw r hr) (h.gd t0 fG) (by decide)))
 case th =>
  refine ⟨T,dD.of_block (ho _ (Row.apart dD (h.gd t0 fG) (by decide))),fun t ht=>?_⟩
  obtain ⟨cv,cf,pv,q⟩:=iM t ht
  refine ⟨cv,cf,pv,?_⟩
  have q':=q.stay hst hI
  show fX R L _ _ t (aI E.th t0 _ t) _ _ _ _
  by_cases c:t=t0
  ·subst c;rw [aC];exact ⟨q'.like,q'.now,q'.dM,q'.aK⟩
  ·rw [aD _ _ c];exact q'
 case gd =>
  intro t ht
  by_cases q:t=t0
  ·subst q
   refine ((h.gd t ht).set i _).congr (fun k _=>?_)
   show _=Value.int .i64 ((aI E.th t _ t).dw k)
   rw [aC]
   exact iU (E.th t).dw i v k
  ·refine ((h.gd t ht).of_block (ho _ (fun q2=>q (h.ok.dd t t0 ht fG q2)))).congr (fun k _=>?_)
   show _=Value.int .i64 ((aI E.th t0 _ t).dw k)
   rw [aD _ _ q]
 case gg =>
  intro t ht
  refine ((h.gg t ht).of_block (ho _ (Ne.symm (h.ok.dg t0 t fG ht)))).congr (fun k _=>?_)
  exact congrArg _ (congrFun (kH E.th t0 {E.th t0 with dw:=aI (E.th t0).dw i v} rfl t).symm k)
theorem RE.wT (h:RE R L S E w) (t0:Nat) (fG:t0<L.n) (i:Nat) (v:Int):RE R L S {E with th:=aI E.th t0 {E.th t0 with tg:=aI (E.th t0).tg i v}} (w.setCell ⟨L.gG t0,i,none⟩ (.int .i64 v)):=by
 obtain ⟨sp,fE,jK⟩:=h.po
 obtain ⟨T,dD,iM⟩:=h.th
 have hown:L.own (L.gG t0):=.inr (.inr (.inr (.inr (.inr (.inr ⟨t0,fG,.inr rfl⟩)))))
 have ho:∀ k,k≠L.gG t0→(w.setCell ⟨L.gG t0,i,none⟩ (.int .i64 v)).heap[k]?=w.heap[k]?:=fun k hk=>Below.heap_setCell w _ _ k hk
 have hst:∀ k,(S k∧¬L.own k)→k<w.heap.size→(S k∧¬L.own k)∧(w.setCell ⟨L.gG t0,i,none⟩ (.int .i64 v)).heap[k]?=w.heap[k]?:=fun k hk _=>⟨hk,ho k (by rintro rfl;exact hk.2 hown)⟩
 have hI:∀ k,(S k∧¬L.own k)→k<w.heap.size:=fun k hk=>h.lt k hk.1
 refine {ok:=h.ok,fL:=h.fL.of_block (ho _ (fun q=>h.gB.2 (by rw [q];exact hown))),gB:=h.gB,sh:=?sh,tg:=?tg,an:=?an,po:=?po,rw:=?rw,th:=?th,gd:=?gd,gg:=?gg,ow:=h.ow,lt:=fun k hk=>(by simpa [World.setCell] using h.lt k hk)}
 case sh =>
  exact h.sh.of_block (ho _ (Row.apart h.sh (h.gg t0 fG) (by decide)))
 case tg =>
  exact h.tg.of_block (ho _ (Row.apart h.tg (h.gg t0 fG) (by decide)))
 case an =>
  exact h.an.of_block (ho _ (Row.apart h.an (h.gg t0 fG) (by decide)))
 case po =>
  exact ⟨sp,fE.of_block (ho _ (Row.apart fE (h.gg t0 fG) (by decide))),fun r hr=>(jK r hr).stay hst hI⟩
 case rw =>
  exact fun r hr=>(h.rw r hr).of_block (ho _ (Row.apart (h.rw r hr) (h.gg t0 fG) (by decide)))
 case th =>
  refine ⟨T,dD.of_block (ho _ (Row.apart dD (h.gg t0 fG) (by decide))),fun t ht=>?_⟩
  obtain ⟨cv,cf,pv,q⟩:=iM t ht
  refine ⟨cv,cf,pv,?_⟩
  have q':=q.stay hst hI
  show fX R L _ _ t (aI E.th t0 _ t) _ _ _ _
  by_cases c:t=t0
  ·subst c;rw [aC];exact ⟨q'.like,q'.now,q'.dM,q'.aK⟩
  ·rw [aD _ _ c];exact q'
 case gd =>
  intro t ht
  refine ((h.gd t ht).of_block (ho _ (h.ok.dg t t0 ht fG))).congr (fun k _=>?_)
  exact congrArg _ (congrFun (kG E.th t0 {E.th t0 with tg:=aI (E.th t0).tg i v} rfl t).symm k)
 case gg =>
  intro t ht
  by_cases q:t=t0
  ·subst q
   refine ((h.gg t ht).set i _).congr (fun k _=>?_)
   show _=Value.int .i64 ((aI E.th t _ t).tg k)
   rw [aC]
   exact iU (E.th t).tg i v k
  ·refine ((h.gg t ht).of_block (ho _ (fun q2=>q (h.ok.gg t t0 ht fG q2)))).congr (fun k _=>?_)
   show _=Value.int .i64 ((aI E.th t0 _ t).tg k)
   rw [aD _ _ q]
theorem RE.kI (h:RE R L S E w) (t0:Nat) (fG:t0<L.n) (j:Nat) (hj:j<28) (v:Value) (e':aS σ) (hd:e'.dw=(E.th t0).dw) (hg:e'.tg=(E.th t0).tg) (hn:e'.now=(E.th t0).now) (hf:e'.dM=(E.th t0).dM) (hp:e'.aK=(E.th t0).aK) (wU:∀ c0 c1 d0 d1 pv,(bO L t0 (E.th t0) [c0,c1] [d0,d1] pv).set j v=bO L t0 e' [c0,c1] [d0,d1] pv):RE R L S {E with th:=aI E.th t0 e'} (w.setCell ⟨L.g,t0*28+j,none⟩ v):=by
 obtain ⟨sp,fE,jK⟩:=h.po
 obtain ⟨T,dD,iM⟩:=h.th
 have hown:L.own (L.g):=.inr (.inr (.inr (.inr (.inr (.inl rfl)))))
 have ho:∀ k,k≠L.g→(w.setCell ⟨L.g,t0*28+j,none⟩ v).heap[k]?=w.heap[k]?:=fun k hk=>Below.heap_setCell w _ _ k hk
 have hst:∀ k,(S k∧¬L.own k)→k<w.heap.size→(S k∧¬L.own k)∧(w.setCell ⟨L.g,t0*28+j,none⟩ v).heap[k]?=w.heap[k]?:=fun k hk _=>⟨hk,ho k (by rintro rfl;exact hk.2 hown)⟩
 have hI:∀ k,(S k∧¬L.own k)→k<w.heap.size:=fun k hk=>h.lt k hk.1
 refine {ok:=h.ok,fL:=h.fL.of_block (ho _ (fun q=>h.gB.2 (by rw [q];exact hown))),gB:=h.gB,sh:=?sh,tg:=?tg,an:=?an,po:=?po,rw:=?rw,th:=?th,gd:=?gd,gg:=?gg,ow:=h.ow,lt:=fun k hk=>(by simpa [World.setCell] using h.lt k hk)}
 case sh =>
  exact h.sh.of_block (ho _ (Row.apart h.sh dD (by decide)))
 case tg =>
  exact h.tg.of_block (ho _ (Row.apart h.tg dD (by decide)))
 case an =>
  exact h.an.of_block (ho _ (Row.apart h.an dD (by decide)))
 case po =>
  exact ⟨sp,fE.of_block (ho _ (Row.apart fE dD (by decide))),fun r hr=>(jK r hr).stay hst hI⟩
 case rw =>
  exact fun r hr=>(h.rw r hr).of_block (ho _ (Row.apart (h.rw r hr) dD (by decide)))
 case th =>
  refine ⟨_,dD.set hj v,fun t ht=>?_⟩
  obtain ⟨cv,cf,pv,q⟩:=iM t ht
  refine ⟨cv,cf,pv,?_⟩
  show fX R L _ _ t (aI E.th t0 e' t) (aI T t0 (aI (T t0) j v) t) _ _ _
  have q':=q.stay hst hI
  by_cases c:t=t0
  ·subst c
   rw [aC,aC]
   obtain ⟨c0,c1,rfl⟩:=aH q.now.1
   obtain ⟨d0,d1,rfl⟩:=aH q.dM.1
   refine ⟨?_,by rw [hn];exact q'.now,by rw [hf];exact q'.dM,by rw [hp];exact q'.aK⟩
   have:=q.like.set j v
   rwa [wU] at this
  ·rw [aD _ _ c,aD _ _ c];exact q'
 case gd =>
  intro t ht
  refine ((h.gd t ht).of_block (ho _ (Row.apart (h.gd t ht) dD (by decide)))).congr (fun k _=>?_)
  show _=Value.int .i64 ((aI E.th t0 e' t).dw k)
  rw [kG _ _ _ hd]
 case gg =>
  intro t ht
  refine ((h.gg t ht).of_block (ho _ (Row.apart (h.gg t ht) dD (by decide)))).congr (fun k _=>?_)
  show _=Value.int .i64 ((aI E.th t0 e' t).tg k)
  rw [kH _ _ _ hg]
theorem RE.wV (h:RE R L S E w) (t0:Nat) (fG:t0<L.n) (pv:Value) (p:List Nat) (hp:oC (fun k=>S k∧¬L.own k) w p pv) (e':aS σ) (he:e' = {E.th t0 with aK:=p}) (hd:e'.dw=(E.th t0).dw) (hg:e'.tg=(E.th t0).tg):RE R L S {E with th:=aI E.th t0 e'} (w.setCell ⟨L.g,t0*28+20,none⟩ pv):=by
 obtain ⟨sp,fE,jK⟩:=h.po
 obtain ⟨T,dD,iM⟩:=h.th
 have hown:L.own (L.g):=.inr (.inr (.inr (.inr (.inr (.inl rfl)))))
 have ho:∀ k,k≠L.g→(w.setCell ⟨L.g,t0*28+20,none⟩ pv).heap[k]?=w.heap[k]?:=fun k hk=>Below.heap_setCell w _ _ k hk
 have hst:∀ k,(S k∧¬L.own k)→k<w.heap.size→(S k∧¬L.own k)∧(w.setCell ⟨L.g,t0*28+20,none⟩ pv).heap[k]?=w.heap[k]?:=fun k hk _=>⟨hk,ho k (by rintro rfl;exact hk.2 hown)⟩
 have hI:∀ k,(S k∧¬L.own k)→k<w.heap.size:=fun k hk=>h.lt k hk.1
 refine {ok:=h.ok,fL:=h.fL.of_block (ho _ (fun q=>h.gB.2 (by rw [q];exact hown))),gB:=h.gB,sh:=?sh,tg:=?tg,an:=?an,po:=?po,rw:=?rw,th:=?th,gd:=?gd,gg:=?gg,ow:=h.ow,lt:=fun k hk=>(by simpa [World.setCell] using h.lt k hk)}
 case sh =>
  exact h.sh.of_block (ho _ (Row.apart h.sh dD (by decide)))
 case tg =>
  exact h.tg.of_block (ho _ (Row.apart h.tg dD (by decide)))
 case an =>
  exact h.an.of_block (ho _ (Row.apart h.an dD (by decide)))
 case po =>
  exact ⟨sp,fE.of_block (ho _ (Row.apart fE dD (by decide))),fun r hr=>(jK r hr).stay hst hI⟩
 case rw =>
  exact fun r hr=>(h.rw r hr).of_block (ho _ (Row.apart (h.rw r hr) dD (by decide)))
 case th =>
  refine ⟨_,dD.set (j:=20) (by decide) pv,fun t ht=>?_⟩
  obtain ⟨cv,cf,pv0,q⟩:=iM t ht
  have q':=q.stay hst hI
  by_cases c:t=t0
  ·subst c
   refine ⟨cv,cf,pv,?_⟩
   show fX R L _ _ t (aI E.th t e' t) (aI T t (aI (T t) 20 pv) t) _ _ _
   rw [aC,aC,he]
   obtain ⟨c0,c1,rfl⟩:=aH q.now.1
   obtain ⟨d0,d1,rfl⟩:=aH q.dM.1
   exact ⟨q.like.set 20 pv,q'.now,q'.dM,hp.stay hst hI⟩
  ·refine ⟨cv,cf,pv0,?_⟩
   show fX R L _ _ t (aI E.th t0 e' t) (aI T t0 (aI (T t0) 20 pv) t) _ _ _
   rw [aD _ _ c,aD _ _ c];exact q'
 case gd =>
  intro t ht
  refine ((h.gd t ht).of_block (ho _ (Row.apart (h.gd t ht) dD (by decide)))).congr (fun k _=>?_)
  show _=Value.int .i64 ((aI E.th t0 e' t).dw k)
  rw [kG _ _ _ hd]
 case gg =>
  intro t ht
  refine ((h.gg t ht).of_block (ho _ (Row.apart (h.gg t ht) dD (by decide)))).congr (fun k _=>?_)
  show _=Value.int .i64 ((aI E.th t0 e' t).tg k)
  rw [kH _ _ _ hg]
end
end Go.Proofs.YtefjhnhdagolhaaGreat.list
namespace Go.Proofs.YtefjhnhdagolhaaGreat.list
open Go.RowKit
open M (aI aC aD Op dA aS cA tw aO)
attribute [local go_sem ↓] Go.wp_at_zero Go.wp_at_succ
theorem aV {α:Type} (f:Nat→α) (t:Nat) (a b:α):aI (aI f t a) t b=aI f t b:=by funext k;unfold aI;split<;>rfl
section
variable {σ:Type} {R:SR σ} {L:Lt} {S:Nat→Prop} {E E':cA σ} {w:World} {t:Nat}
structure Left (R:SR σ) (L:Lt) (S:Nat→Prop) (w:World) (E':cA σ) (w':World):Prop where
 re:RE R L (grown S w w') E' w'
 fr:Fr L.own w w'
theorem Left.of {w':World} (h:RE R L S E' w') (hf:Fr L.own w w') {w0:World} (hw:w'=w0):Left R L S w E' w0:=by
 subst hw
 refine ⟨h.mono (fun _ hk=>.inl hk) (fun k hk=>?_),hf⟩
 rcases hk with hk|hk
 ·exact h.lt k hk
 ·exact hk.2
theorem Left.next {SL:cA σ} {w1 w2:World} (h:Left R L S w E' w1) (h':Left R L (grown S w w1) w1 SL w2):Left R L S w SL w2:=by
 refine ⟨h'.re.mono (fun k hk=>?_) (fun k hk=>?_),h.fr.trans h'.fr⟩
 ·rcases hk with (hk|hk)|hk
  ·exact .inl hk
  ·exact .inr ⟨hk.1,Nat.lt_of_lt_of_le hk.2 h'.fr.size⟩
  ·exact .inr ⟨Nat.le_trans h.fr.size hk.1,hk.2⟩
 ·rcases hk with hk|hk
  ·exact h'.re.lt k (.inl (.inl hk))
  ·exact hk.2
theorem Left.below (h:RE R L S E w) {w1:World} (hb:Below w.heap.size w w1):Left R L S w E w1:=⟨h.below hb,Fr.cV hb⟩
theorem RE.drew (h:RE R L S E w):RE R L S E w.drew:=h.stay (fun _ _=>rfl) (fun _ hk=>hk) h.lt
theorem RE.cast (h:RE R L S E w) (e:E=E'):RE R L S E' w:=e▸h
theorem Left.cast {SL:cA σ} {w1:World} (h:Left R L S w E' w1) (e:E'=SL):Left R L S w SL w1:=e▸h
theorem fY:L.own L.g:=.inr (.inr (.inr (.inr (.inr (.inl rfl)))))
theorem RE.cells (h:RE R L S E w) (ht:t<L.n) {e:aS σ} (he:E.th t=e):∃ cv cf pv,(∀ j v,j<28→(bO L t e cv cf pv)[j]?=some v→w.cell? ⟨L.g,t*28+j,none⟩=some v)∧mT R (fun k=>S k∧¬L.own k) w e.now cv∧mT R (fun k=>S k∧¬L.own k) w e.dM cf∧oC (fun k=>S k∧¬L.own k) w e.aK pv∧∀ o,w.frozen? ⟨L.g,o,none⟩=false:=by
 subst he
 obtain ⟨T,h1,h2⟩:=h.th
 obtain ⟨cv,cf,pv,q⟩:=h2 t ht
 exact ⟨cv,cf,pv,fun j v hj hv=>by rw [h1.cell (Nat.lt_of_lt_of_le ht h.ok.gn) hj,q.like j v hv],q.now,q.dM,q.aK,h1.frozen⟩
set_option maxHeartbeats 1000000 in
theorem dI (h:RE R L S E w) (ht:t<L.n) (p:Nat) :
  Calls Tryz.prog 262 #[.pointer (some ⟨L.g,t*28,none⟩),.int .i64 (p:Int)] w fun e w'=>e = .returned (.tuple #[])∧RE R L S {E with th:=aI E.th t ((E.th t).enter p)} w'∧Fr L.own w w':=by
 obtain ⟨cv,cf,pv,hc,-,-,-,hf⟩:=h.cells ht rfl
 have c3:=hc 3 _ (by decide) rfl
 have c4:=hc 4 _ (by decide) rfl
 have f3:=hf (t*28+3)
 have f4:=hf (t*28+4)
 have HH:=aA h
 clear h hc hf
 go_enter Tryz.func262,Tryz.ntmps262
 go_wp2
 refine bodyPost_end (v:=.tuple #[]) (by simp [results,Tryz.results262,go_sem]) rfl ⟨rfl,?_,?_⟩
 ·have h1:=HH.out.kI t ht 3 (by decide) (.int .i64 (p:Int)) {E.th t with phase:=p} rfl rfl rfl rfl rfl (by intros;rfl)
  have h2:=h1.kI t ht 4 (by decide) (.int .i64 0) {E.th t with phase:=p,past:=0} (by simp [aC]) (by simp [aC]) (by simp [aC]) (by simp [aC]) (by simp [aC]) (by intros;simp only [aC];rfl)
  refine h2.cast ?_
  simp only [aV]
  rfl
 ·exact (Fr.set w fY _).trans (Fr.set _ fY _)
theorem RE.dO (h:RE R L S E w) (ht:t<L.n) (j:Nat) (hj:j<28) (v:Value) (e':aS σ) (hd:e'.dw=(E.th t).dw) (hg:e'.tg=(E.th t).tg) (hn:e'.now=(E.th t).now) (hf:e'.dM=(E.th t).dM) (hp:e'.aK=(E.th t).aK) (wU:∀ c0 c1 d0 d1 pv,(bO L t (E.th t) [c0,c1] [d0,d1] pv).set j v=bO L t e' [c0,c1] [d0,d1] pv) :
  RE R L S {E with th:=aI E.th t e'} (w.setCell ⟨L.g,t*28+j,none⟩ v)∧Fr L.own w (w.setCell ⟨L.g,t*28+j,none⟩ v) :=
 ⟨h.kI t ht j hj v e' hd hg hn hf hp wU,Fr.set w fY _⟩
set_option maxHeartbeats 1000000 in
theorem fN (h:RE R L S E w) (ht:t<L.n) (steps p:Nat) (hs:steps≤1000000) (hq:(E.th t).past≤1000000) :
  Calls Tryz.prog 265 #[.pointer (some ⟨L.g,t*28,none⟩),.int .i64 (steps:Int),.int .i64 (p:Int)] w fun e w'=>e = .returned (.tuple #[])∧RE R L S {E with th:=aI E.th t ((E.th t).pass steps p)} w'∧Fr L.own w w':=by
 obtain ⟨cv,cf,pv,hc,-,-,-,hf⟩:=h.cells ht rfl
 have c4:=hc 4 _ (by decide) rfl
 have f4:=hf (t*28+4)
 obtain ⟨h1,k1⟩:=h.dO ht 4 (by decide) (.int .i64 (((E.th t).past:Int)+1)) {E.th t with past:=(E.th t).past+1} rfl rfl rfl rfl rfl (by intros;rfl)
 have HH:=aA h1
 have HK:=aA k1
 clear h hc hf h1 k1
 by_cases he:(E.th t).past+1=steps
 ·have wW:=aA (show (E.th t).pass steps p=(E.th t).enter p by unfold aS.pass;rw [if_pos he])
  have he1:((E.th t).past:Int)+1≤(steps:Int):=by omega
  have he2:(steps:Int)≤((E.th t).past:Int)+1:=by omega
  clear he
  go_enter Tryz.func265,Tryz.ntmps265
  go_wp2_with fail
  refine (dI HH.out ht p).mono ?_
  rintro e w1 ⟨rfl,r1,k2⟩
  have HR:=aA r1
  have HK2:=aA k2
  clear r1 k2
  go_wp2
  refine bodyPost_end (v:=.tuple #[]) (by simp [results,Tryz.results265,go_sem]) rfl ⟨rfl,?_,HK.out.trans HK2.out⟩
  refine HR.out.cast ?_
  rw [wW.out]
  simp only [aV,aC]
  rfl
 ·have he':¬((E.th t).past:Int)+1=(steps:Int):=by omega
  have wW:=aA (show (E.th t).pass steps p = {E.th t with past:=(E.th t).past+1} by unfold aS.pass;rw [if_neg he])
  go_enter Tryz.func265,Tryz.ntmps265
  go_wp2
  refine bodyPost_end (v:=.tuple #[]) (by simp [results,Tryz.results265,go_sem]) rfl ⟨rfl,?_,HK.out⟩
  rw [wW.out]
  exact HH.out
set_option maxHeartbeats 1000000 in
theorem iF (h:RE R L S E w) (ht:t<L.n) :
  Calls Tryz.prog 277 #[.pointer (some ⟨L.g,t*28,none⟩)] w fun e w'=>e = .returned (.tuple #[])∧RE R L S {E with th:=aI E.th t (E.th t).bK} w'∧Fr L.own w w':=by
 obtain ⟨cv,cf,pv,hc,-,-,-,-⟩:=h.cells ht rfl
 have c9:=hc 9 _ (by decide) rfl
 have HH:=aA h
 clear h hc
 by_cases he:0<(E.th t).aE
 ·have he':(0:Int)<((E.th t).aE:Int):=by omega
  rw [show (E.th t).bK=(E.th t).enter 3 by unfold aS.bK;rw [if_pos he]]
  go_enter Tryz.func277,Tryz.ntmps277
  go_wp2_with fail
  refine (dI HH.out ht 3).mono ?_
  rintro e w1 ⟨rfl,r1,k2⟩
  have HR:=aA (And.intro r1 k2)
  clear r1 k2
  go_wp2
  exact bodyPost_end (v:=.tuple #[]) (by simp [results,Tryz.results277,go_sem]) rfl ⟨rfl,HR.out⟩
 ·have he':¬(0:Int)<((E.th t).aE:Int):=by omega
  rw [show (E.th t).bK=(E.th t).enter 4 by unfold aS.bK;rw [if_neg he]]
  go_enter Tryz.func277,Tryz.ntmps277
  go_wp2_with fail
  refine (dI HH.out ht 4).mono ?_
  rintro e w1 ⟨rfl,r1,k2⟩
  have HR:=aA (And.intro r1 k2)
  clear r1 k2
  go_wp2
  exact bodyPost_end (v:=.tuple #[]) (by simp [results,Tryz.results277,go_sem]) rfl ⟨rfl,HR.out⟩
end
end Go.Proofs.YtefjhnhdagolhaaGreat.list
namespace Go.Proofs.YtefjhnhdagolhaaGreat.list
open Go.RowKit
open M (aI aC aD Op dA aS cA tw aO)
attribute [local go_sem ↓] Go.wp_at_zero Go.wp_at_succ
section
variable {σ:Type} {R:SR σ} {L:Lt} {S:Nat→Prop} {E E':cA σ} {w:World} {t:Nat}
set_option maxHeartbeats 1000000 in
theorem wX (h:RE R L S E w) (ht:t<L.n) (hb:(E.th t).aE≤L.cap) :
  Calls Tryz.prog 279 #[.pointer (some ⟨L.g,t*28,none⟩)] w fun e w'=>e = .returned (.tuple #[])∧RE R L S {E with th:=aI E.th t ((E.th t).fail L.cap)} w'∧Fr L.own w w':=by
 obtain ⟨cv,cf,pv,hc,-,-,-,hf⟩:=h.cells ht rfl
 have c2:=hc 2 _ (by decide) rfl
 have c9:=hc 9 _ (by decide) rfl
 have c10:=hc 10 _ (by decide) rfl
 have f9:=hf (t*28+9)
 have f10:=hf (t*28+10)
 have hcap:=h.ok.vD
 obtain ⟨h1,k1⟩:=h.dO ht 9 (by decide) (.int .i64 ((min (2*(E.th t).aE+1) L.cap:Nat):Int)) {E.th t with aE:=min (2*(E.th t).aE+1) L.cap} rfl rfl rfl rfl rfl (by intros;rfl)
 have HH:=aA h1
 have HK:=aA k1
 have hmin:=aA (show (if (L.cap:Int)<2*((E.th t).aE:Int)+1 then (L.cap:Int) else 2*((E.th t).aE:Int)+1)=((min (2*(E.th t).aE+1) L.cap:Nat):Int) by split<;>omega)
 clear h hc hf h1 k1
 go_enter Tryz.func279,Tryz.ntmps279
 go_wp2
 go_region
 rw [hmin.out]
 generalize gJ:World.drew _=W1
 have lC:RE R L S {E with th:=aI E.th t {E.th t with aE:=min (2*(E.th t).aE+1) L.cap}} W1:=by rw [←gJ];exact HH.out.drew
 have fZ:Fr L.own w W1:=by rw [←gJ];exact HK.out.drew
 clear gJ
 obtain ⟨cv1,cf1,pv1,MQ,-,-,-,hf1⟩:=lC.cells ht (aC _ _ _)
 have d10:=MQ 10 _ (by decide) rfl
 have g10:=hf1 (t*28+10)
 have jF:=aA lC
 have SM:=aA fZ
 clear lC fZ MQ hf1 c10 f10
 by_cases ha:(E.th t).again=true
 ·have hfl:=aA (show (E.th t).fail L.cap=aS.enter {E.th t with aE:=min (2*(E.th t).aE+1) L.cap} 11 by unfold aS.fail;rw [if_pos ha])
  go_wp2_with fail
  refine (dI jF.out ht 11).mono ?_
  rintro e w1 ⟨rfl,r1,k2⟩
  have HR:=aA (And.intro r1 k2)
  clear r1 k2
  go_wp2
  refine bodyPost_ret (v:=.tuple #[]) (by simp [results,Tryz.results279,go_sem]) rfl ⟨rfl,HR.out.1.cast ?_,SM.out.trans HR.out.2⟩
  rw [hfl.out]
  simp only [aV,aC]
 ·have ha':(E.th t).again=false:=by simpa using ha
  have hfl:=aA (show (E.th t).fail L.cap=aS.bK {E.th t with aE:=min (2*(E.th t).aE+1) L.cap,again:=true} by unfold aS.fail;rw [if_neg ha])
  obtain ⟨h2,k2⟩:=jF.out.dO ht 10 (by decide) (.bool true) {E.th t with aE:=min (2*(E.th t).aE+1) L.cap,again:=true} (by simp [aC]) (by simp [aC]) (by simp [aC]) (by simp [aC]) (by simp [aC]) (by intros;simp only [aC];rfl)
  have HR2:=aA h2
  have HK2:=aA k2
  clear h2 k2
  go_wp2_with fail
  refine (iF HR2.out ht).mono ?_
  rintro e w1 ⟨rfl,r1,k3⟩
  have HR:=aA (And.intro r1 k3)
  clear r1 k3
  go_wp2
  refine bodyPost_end (v:=.tuple #[]) (by simp [results,Tryz.results279,go_sem]) rfl ⟨rfl,HR.out.1.cast ?_,(SM.out.trans HK2.out).trans HR.out.2⟩
  rw [hfl.out]
  simp only [aV,aC]
set_option maxHeartbeats 1000000 in
theorem tQ (h:RE R L S E w) (ht:t<L.n) (hb:(E.th t).aE≤64) :
  Calls Tryz.prog 284 #[.pointer (some ⟨L.g,t*28,none⟩)] w fun e w'=>e = .returned (.tuple #[])∧RE R L S {E with th:=aI E.th t (aS.enter {E.th t with aE:=(E.th t).aE / 2} 11)} w'∧Fr L.own w w':=by
 obtain ⟨cv,cf,pv,hc,-,-,-,hf⟩:=h.cells ht rfl
 have c9:=hc 9 _ (by decide) rfl
 have f9:=hf (t*28+9)
 obtain ⟨h1,k1⟩:=h.dO ht 9 (by decide) (.int .i64 (((E.th t).aE:Int) / 2)) {E.th t with aE:=(E.th t).aE / 2} rfl rfl rfl rfl rfl (by intros;rfl)
 have HH:=aA h1
 have HK:=aA k1
 clear h hc hf h1 k1
 go_enter Tryz.func284,Tryz.ntmps284
 go_wp2_with fail
 refine (dI HH.out ht 11).mono ?_
 rintro e w1 ⟨rfl,r1,k2⟩
 have HR:=aA (And.intro r1 k2)
 clear r1 k2
 go_wp2
 refine bodyPost_end (v:=.tuple #[]) (by simp [results,Tryz.results284,go_sem]) rfl ⟨rfl,HR.out.1.cast ?_,HK.out.trans HR.out.2⟩
 simp only [aV,aC]
set_option maxHeartbeats 1000000 in
theorem JN (h:RE R L S E w) (ht:t<L.n) :
  Calls Tryz.prog 266 #[.pointer (some ⟨L.g,t*28,none⟩)] w fun e w'=>e = .returned (.tuple #[])∧RE R L S {E with th:=aI E.th t (aS.enter {E.th t with stamp:=E.dZ,aW:=E.prec} 5)} w'∧Fr L.own w w':=by
 obtain ⟨cv,cf,pv,hc,-,-,-,hf⟩:=h.cells ht rfl
 have c0:w.cell? ⟨L.g,t*28,none⟩=some (.pointer (some ⟨L.bS,0,none⟩)):=hc 0 _ (by decide) rfl
 have wY:=hc 13 _ (by decide) rfl
 have f13:=hf (t*28+13)
 have s5:w.cell? ⟨L.bS,5,none⟩=some _:=h.sh.cell_of rfl
 obtain ⟨h1,k1⟩:=h.dO ht 13 (by decide) (.int .i64 ((E.dZ:Int)*129+(E.prec:Int))) {E.th t with stamp:=E.dZ,aW:=E.prec} rfl rfl rfl rfl rfl (by intros;rfl)
 have HH:=aA h1
 have HK:=aA k1
 have HS:=aA s5
 clear h hc hf h1 k1 s5
 go_enter Tryz.func266,Tryz.ntmps266
 go_wp2_with fail
 refine (lJ L.bS 5 _ _ HS.out).mono ?_
 rintro e w1 ⟨rfl,rfl⟩
 go_wp2_with fail
 refine (dI HH.out ht 5).mono ?_
 rintro e w1 ⟨rfl,r1,k2⟩
 have HR:=aA (And.intro r1 k2)
 clear r1 k2
 go_wp2
 refine bodyPost_end (v:=.tuple #[]) (by simp [results,Tryz.results266,go_sem]) rfl ⟨rfl,HR.out.1.cast ?_,HK.out.trans HR.out.2⟩
 simp only [aV,aC]
set_option maxHeartbeats 1000000 in
theorem JO (h:RE R L S E w) (ht:t<L.n) (hp:E.prec<2*L.n+1) (hN:E.dZ≤1000000000000) :
  Calls Tryz.prog 273 #[.pointer (some ⟨L.g,t*28,none⟩)] w fun e w'=>e = .returned (.tuple #[])∧RE R L S {E with th:=aI E.th t (aS.enter {E.th t with found:=E.prec} 12)} w'∧Fr L.own w w':=by
 obtain ⟨cv,cf,pv,hc,hcv,dN,-,hf⟩:=h.cells ht rfl
 obtain ⟨c0,c1,rfl⟩:=aH hcv.1
 obtain ⟨d0,d1,rfl⟩:=aH dN.1
 have hn:=h.ok.n64
 have c0:w.cell? ⟨L.g,t*28,none⟩=some (.pointer (some ⟨L.bS,0,none⟩)):=hc 0 _ (by decide) rfl
 have c22:=hc 24 _ (by decide) rfl
 have f22:=hf (t*28+24)
 have s5:w.cell? ⟨L.bS,5,none⟩=some _:=h.sh.cell_of rfl
 obtain ⟨h1,k1⟩:=h.dO ht 24 (by decide) (.int .i64 (E.prec:Int)) {E.th t with found:=E.prec} rfl rfl rfl rfl rfl (by intros;rfl)
 have HH:=aA h1
 have HK:=aA k1
 have HS:=aA s5
 have hm:=aA (show ((E.dZ:Int)*129+(E.prec:Int)) % 129=(E.prec:Int) by omega)
 clear h hc hf h1 k1 s5 hcv dN
 go_enter Tryz.func273,Tryz.ntmps273
 go_wp2_with fail
 refine (lJ L.bS 5 _ _ HS.out).mono ?_
 rintro e w1 ⟨rfl,rfl⟩
 go_wp2_with fail
 refine (kB _ _ (by omega) (by omega)).mono ?_
 rintro e w1 ⟨rfl,rfl⟩
 rw [hm.out]
 go_wp2_with fail
 refine (dI HH.out ht 12).mono ?_
 rintro e w1 ⟨rfl,r1,k2⟩
 have HR:=aA (And.intro r1 k2)
 clear r1 k2
 go_wp2
 refine bodyPost_end (v:=.tuple #[]) (by simp [results,Tryz.results273,go_sem]) rfl ⟨rfl,HR.out.1.cast ?_,HK.out.trans HR.out.2⟩
 simp only [aV,aC]
end
end Go.Proofs.YtefjhnhdagolhaaGreat.list
