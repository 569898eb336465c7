import Derived.Test.YtefjhnhdagolhaaGreatQ20
import Derived.Test.YtefjhnhdagolhaaGreatQ06
import Derived.Test.YtefjhnhdagolhaaGreatQ18
set_option maxHeartbeats 4000000
namespace Go.Proofs.YtefjhnhdagolhaaGreat
open int list tree
open Go.RowKit
open M (aI aC aD Op cY aS aK tw aQ)
attribute [local go_sem ↓] Go.wp_at_zero Go.wp_at_succ
theorem int.bM {α:Type} (f:Nat→α) (t:Nat) (a b:α):aI (aI f t a) t b=aI f t b:=by funext k;unfold aI;split<;>rfl
structure int.aF {σ:Type} (R:SR σ) (L:Lt) (S:Nat→Prop) (w:World) (E':aK σ) (w':World):Prop where
 re:RE R L (grown S w w') E' w'
 fr:Fr L.own w w'
structure list.aF {σ:Type} (R:SR σ) (L:Lt) (S:Nat→Prop) (w:World) (E':aK σ) (w':World):Prop where
 re:RE R L (grown S w w') E' w'
 fr:Fr L.own w w'
structure tree.aF {σ:Type} (R:SR σ) (L:Lt) (S:Nat→Prop) (w:World) (E':aK σ) (w':World):Prop where
 re:RE R L (grown S w w') E' w'
 fr:Fr L.own w w'
structure row.aF {σ:Type} (R:SR σ) (L:Lt) (S:Nat→Prop) (w:World) (E':aK σ) (w':World):Prop where
 re:RE R L (grown S w w') E' w'
 fr:Fr L.own w w'
theorem int.aF.of {σ:Type} {R:SR σ} {L:Lt} {S:Nat→Prop} {E':aK σ} {w:World} {w':World} (h:RE R L S E' w') (hf:Fr L.own w w') {w0:World} (hw:w'=w0):aF R L S w E' w0:=by
 subst hw
 refine ⟨h.mono (fun _ hk=>.inl hk) (fun k hk=>?_),hf⟩
 rcases hk with hk|hk
 ·exact h.lt k hk
 ·exact hk.2
theorem list.aF.of {σ:Type} {R:SR σ} {L:Lt} {S:Nat→Prop} {E':aK σ} {w:World} {w':World} (h:RE R L S E' w') (hf:Fr L.own w w') {w0:World} (hw:w'=w0):aF R L S w E' w0:=by
 subst hw
 refine ⟨h.mono (fun _ hk=>.inl hk) (fun k hk=>?_),hf⟩
 rcases hk with hk|hk
 ·exact h.lt k hk
 ·exact hk.2
theorem tree.aF.of {σ:Type} {R:SR σ} {L:Lt} {S:Nat→Prop} {E':aK σ} {w:World} {w':World} (h:RE R L S E' w') (hf:Fr L.own w w') {w0:World} (hw:w'=w0):aF R L S w E' w0:=by
 subst hw
 refine ⟨h.mono (fun _ hk=>.inl hk) (fun k hk=>?_),hf⟩
 rcases hk with hk|hk
 ·exact h.lt k hk
 ·exact hk.2
theorem row.aF.of {σ:Type} {R:SR σ} {L:Lt} {S:Nat→Prop} {E':aK σ} {w:World} {w':World} (h:RE R L S E' w') (hf:Fr L.own w w') {w0:World} (hw:w'=w0):aF R L S w E' w0:=by
 subst hw
 refine ⟨h.mono (fun _ hk=>.inl hk) (fun k hk=>?_),hf⟩
 rcases hk with hk|hk
 ·exact h.lt k hk
 ·exact hk.2
def int.aF.cS:Prop:=∀ {σ:Type} {R:SR σ} {L:Lt} {S:Nat→Prop} {E':aK σ} {w:World} {AG:aK σ} {w1 w2:World} (_h:aF R L S w E' w1) (_h':aF R L (grown S w w1) w1 AG w2),aF R L S w AG w2
def list.aF.cS:Prop:=∀ {σ:Type} {R:SR σ} {L:Lt} {S:Nat→Prop} {E':aK σ} {w:World} {AG:aK σ} {w1 w2:World} (_h:aF R L S w E' w1) (_h':aF R L (grown S w w1) w1 AG w2),aF R L S w AG w2
def tree.aF.cS:Prop:=∀ {σ:Type} {R:SR σ} {L:Lt} {S:Nat→Prop} {E':aK σ} {w:World} {AG:aK σ} {w1 w2:World} (_h:aF R L S w E' w1) (_h':aF R L (grown S w w1) w1 AG w2),aF R L S w AG w2
def row.aF.cS:Prop:=∀ {σ:Type} {R:SR σ} {L:Lt} {S:Nat→Prop} {E':aK σ} {w:World} {AG:aK σ} {w1 w2:World} (_h:aF R L S w E' w1) (_h':aF R L (grown S w w1) w1 AG w2),aF R L S w AG w2
open row in
theorem oA:int.aF.cS∧list.aF.cS∧tree.aF.cS∧row.aF.cS:=by
 refine ⟨?_,?_,?_,?_⟩<;>intro σ R L S E' w AG w1 w2 h h'
 all_goals
  refine ⟨h'.re.mono (fun k hk=>?_) (fun k hk=>?_),h.fr.trans h'.fr⟩
  ·rcases hk with (hk|hk)|hk
   ·exact .inl hk
   ·exact .inr ⟨hk.1,Nat.lt_of_lt_of_le hk.2 h'.fr.size⟩
   ·exact .inr ⟨Nat.le_trans h.fr.size hk.1,hk.2⟩
  ·rcases hk with hk|hk
   ·exact h'.re.lt k (.inl (.inl hk))
   ·exact hk.2
theorem int.aF.next:cS:=oA.1
theorem list.aF.next:cS:=oA.2.1
theorem tree.aF.next:cS:=oA.2.2.1
theorem row.aF.next:cS:=oA.2.2.2
theorem int.aF.below {σ:Type} {R:SR σ} {L:Lt} {S:Nat→Prop} {E:aK σ} {w:World} (h:RE R L S E w) {w1:World} (hb:Below w.heap.size w w1):aF R L S w E w1:=⟨h.below hb,Fr.eW hb⟩
theorem list.aF.below {σ:Type} {R:SR σ} {L:Lt} {S:Nat→Prop} {E:aK σ} {w:World} (h:RE R L S E w) {w1:World} (hb:Below w.heap.size w w1):aF R L S w E w1:=⟨h.below hb,Fr.eW hb⟩
theorem tree.aF.below {σ:Type} {R:SR σ} {L:Lt} {S:Nat→Prop} {E:aK σ} {w:World} (h:RE R L S E w) {w1:World} (hb:Below w.heap.size w w1):aF R L S w E w1:=⟨h.below hb,Fr.eW hb⟩
theorem row.aF.below {σ:Type} {R:SR σ} {L:Lt} {S:Nat→Prop} {E:aK σ} {w:World} (h:RE R L S E w) {w1:World} (hb:Below w.heap.size w w1):aF R L S w E w1:=⟨h.below hb,Fr.eW hb⟩
theorem int.RE.drew {σ:Type} {R:SR σ} {L:Lt} {S:Nat→Prop} {E:aK σ} {w:World} (h:RE R L S E w):RE R L S E w.drew:=h.stay (fun _ _=>rfl) (fun _ hk=>hk) h.lt
theorem list.RE.drew {σ:Type} {R:SR σ} {L:Lt} {S:Nat→Prop} {E:aK σ} {w:World} (h:RE R L S E w):RE R L S E w.drew:=h.stay (fun _ _=>rfl) (fun _ hk=>hk) h.lt
theorem tree.RE.drew {σ:Type} {R:SR σ} {L:Lt} {S:Nat→Prop} {E:aK σ} {w:World} (h:RE R L S E w):RE R L S E w.drew:=h.stay (fun _ _=>rfl) (fun _ hk=>hk) h.lt
theorem row.RE.drew {σ:Type} {R:SR σ} {L:Lt} {S:Nat→Prop} {E:aK σ} {w:World} (h:RE R L S E w):RE R L S E w.drew:=h.stay (fun _ _=>rfl) (fun _ hk=>hk) h.lt
theorem int.RE.cast {σ:Type} {R:SR σ} {L:Lt} {S:Nat→Prop} {E E':aK σ} {w:World} (h:RE R L S E w) (e:E=E'):RE R L S E' w:=e▸h
theorem list.RE.cast {σ:Type} {R:SR σ} {L:Lt} {S:Nat→Prop} {E E':aK σ} {w:World} (h:RE R L S E w) (e:E=E'):RE R L S E' w:=e▸h
theorem tree.RE.cast {σ:Type} {R:SR σ} {L:Lt} {S:Nat→Prop} {E E':aK σ} {w:World} (h:RE R L S E w) (e:E=E'):RE R L S E' w:=e▸h
theorem row.RE.cast {σ:Type} {R:SR σ} {L:Lt} {S:Nat→Prop} {E E':aK σ} {w:World} (h:RE R L S E w) (e:E=E'):RE R L S E' w:=e▸h
theorem int.aF.cast {σ:Type} {R:SR σ} {L:Lt} {S:Nat→Prop} {E':aK σ} {w:World} {AG:aK σ} {w1:World} (h:aF R L S w E' w1) (e:E'=AG):aF R L S w AG w1:=e▸h
theorem list.aF.cast {σ:Type} {R:SR σ} {L:Lt} {S:Nat→Prop} {E':aK σ} {w:World} {AG:aK σ} {w1:World} (h:aF R L S w E' w1) (e:E'=AG):aF R L S w AG w1:=e▸h
theorem tree.aF.cast {σ:Type} {R:SR σ} {L:Lt} {S:Nat→Prop} {E':aK σ} {w:World} {AG:aK σ} {w1:World} (h:aF R L S w E' w1) (e:E'=AG):aF R L S w AG w1:=e▸h
theorem row.aF.cast {σ:Type} {R:SR σ} {L:Lt} {S:Nat→Prop} {E':aK σ} {w:World} {AG:aK σ} {w1:World} (h:aF R L S w E' w1) (e:E'=AG):aF R L S w AG w1:=e▸h
theorem int.kH {L:Lt}:L.own L.g:=.inr (.inr (.inr (.inr (.inr (.inl rfl)))))
theorem int.RE.cells {σ:Type} {R:SR σ} {L:Lt} {S:Nat→Prop} {E:aK σ} {w:World} {t:Nat} (h:RE R L S E w) (ht:t<L.n) {e:aS σ} (he:E.th t=e):∃ cv cf pv,(∀ j v,j<28→(aO L t e cv cf pv)[j]?=some v→w.cell? ⟨L.g,t*28+j,none⟩=some v)∧iW R (fun k=>S k∧¬L.own k) w e.now cv∧iW R (fun k=>S k∧¬L.own k) w e.cD cf∧kG (fun k=>S k∧¬L.own k) w e.aJ pv∧∀ o,w.frozen? ⟨L.g,o,none⟩=false:=by
 subst he
 obtain ⟨T,h1,h2⟩:=h.th
 obtain ⟨cv,cf,pv,q⟩:=h2 t ht
 exact ⟨cv,cf,pv,fun j v hj hv=>by rw [h1.cell (Nat.lt_of_lt_of_le ht h.ok.gn) hj,q.like j v hv],q.now,q.cD,q.aJ,h1.frozen⟩
theorem list.RE.cells {σ:Type} {R:SR σ} {L:Lt} {S:Nat→Prop} {E:aK σ} {w:World} {t:Nat} (h:RE R L S E w) (ht:t<L.n) {e:aS σ} (he:E.th t=e):∃ cv cf pv,(∀ j v,j<28→(aO L t e cv cf pv)[j]?=some v→w.cell? ⟨L.g,t*28+j,none⟩=some v)∧iW R (fun k=>S k∧¬L.own k) w e.now cv∧iW R (fun k=>S k∧¬L.own k) w e.cD cf∧kG (fun k=>S k∧¬L.own k) w e.aJ pv∧∀ o,w.frozen? ⟨L.g,o,none⟩=false:=by
 subst he
 obtain ⟨T,h1,h2⟩:=h.th
 obtain ⟨cv,cf,pv,q⟩:=h2 t ht
 exact ⟨cv,cf,pv,fun j v hj hv=>by rw [h1.cell (Nat.lt_of_lt_of_le ht h.ok.gn) hj,q.like j v hv],q.now,q.cD,q.aJ,h1.frozen⟩
theorem tree.RE.cells {σ:Type} {R:SR σ} {L:Lt} {S:Nat→Prop} {E:aK σ} {w:World} {t:Nat} (h:RE R L S E w) (ht:t<L.n) {e:aS σ} (he:E.th t=e):∃ cv cf pv,(∀ j v,j<28→(aO L t e cv cf pv)[j]?=some v→w.cell? ⟨L.g,t*28+j,none⟩=some v)∧iW R (fun k=>S k∧¬L.own k) w e.now cv∧iW R (fun k=>S k∧¬L.own k) w e.cD cf∧kG (fun k=>S k∧¬L.own k) w e.aJ pv∧∀ o,w.frozen? ⟨L.g,o,none⟩=false:=by
 subst he
 obtain ⟨T,h1,h2⟩:=h.th
 obtain ⟨cv,cf,pv,q⟩:=h2 t ht
 exact ⟨cv,cf,pv,fun j v hj hv=>by rw [h1.cell (Nat.lt_of_lt_of_le ht h.ok.gn) hj,q.like j v hv],q.now,q.cD,q.aJ,h1.frozen⟩
theorem row.RE.cells {σ:Type} {R:SR σ} {L:Lt} {S:Nat→Prop} {E:aK σ} {w:World} {t:Nat} (h:RE R L S E w) (ht:t<L.n) {e:aS σ} (he:E.th t=e):∃ cv cf pv,(∀ j v,j<30→(aO L t e cv cf pv)[j]?=some v→w.cell? ⟨L.g,t*30+j,none⟩=some v)∧iW R (fun k=>S k∧¬L.own k) w e.now cv∧iW R (fun k=>S k∧¬L.own k) w e.cD cf∧kG (fun k=>S k∧¬L.own k) w e.aJ pv∧∀ o,w.frozen? ⟨L.g,o,none⟩=false:=by
 subst he
 obtain ⟨T,h1,h2⟩:=h.th
 obtain ⟨cv,cf,pv,q⟩:=h2 t ht
 exact ⟨cv,cf,pv,fun j v hj hv=>by rw [h1.cell (Nat.lt_of_lt_of_le ht h.ok.gn) hj,q.like j v hv],q.now,q.cD,q.aJ,h1.frozen⟩
def int.gV:Prop:=∀ {σ:Type} {R:SR σ} {L:Lt} {S:Nat→Prop} {E:aK σ} {w:World} {t:Nat} (_h:RE R L S E w) (_ht:t<L.n) (p:Nat),Calls Tryz.prog 203 #[.pointer (some ⟨L.g,t*28,none⟩),.int .i64 (p:Int)] w fun e w'=>e = .returned (.tuple #[])∧RE R L S {E with th:=aI E.th t ((E.th t).enter p)} w'∧Fr L.own w w'
def list.gV:Prop:=∀ {σ:Type} {R:SR σ} {L:Lt} {S:Nat→Prop} {E:aK σ} {w:World} {t:Nat} (_h:RE R L S E w) (_ht:t<L.n) (p:Nat),Calls Tryz.prog 262 #[.pointer (some ⟨L.g,t*28,none⟩),.int .i64 (p:Int)] w fun e w'=>e = .returned (.tuple #[])∧RE R L S {E with th:=aI E.th t ((E.th t).enter p)} w'∧Fr L.own w w'
def tree.gV:Prop:=∀ {σ:Type} {R:SR σ} {L:Lt} {S:Nat→Prop} {E:aK σ} {w:World} {t:Nat} (_h:RE R L S E w) (_ht:t<L.n) (p:Nat),Calls Tryz.prog 336 #[.pointer (some ⟨L.g,t*28,none⟩),.int .i64 (p:Int)] w fun e w'=>e = .returned (.tuple #[])∧RE R L S {E with th:=aI E.th t ((E.th t).enter p)} w'∧Fr L.own w w'
def row.gV:Prop:=∀ {σ:Type} {R:SR σ} {L:Lt} {S:Nat→Prop} {E:aK σ} {w:World} {t:Nat} (_h:RE R L S E w) (_ht:t<L.n) (p:Nat),Calls Tryz.prog 299 #[.pointer (some ⟨L.g,t*30,none⟩),.int .i64 (p:Int)] w fun e w'=>e = .returned (.tuple #[])∧RE R L S {E with th:=aI E.th t ((E.th t).enter p)} w'∧Fr L.own w w'
open row in
theorem uR:int.gV∧list.gV∧tree.gV∧row.gV:=by
 refine ⟨@mkK _ 0 ?_,@mkK _ 1 ?_,@mkK _ 2 ?_,@mkK _ 3 ?_⟩<;>intro kk σ R L S E w t h ht p
 all_goals
  obtain ⟨cv,cf,pv,hc,-,-,-,hf⟩:=h.cells ht rfl
  have c3:=hc 3 _ (by decide) rfl
  have c4:=hc 4 _ (by decide) rfl
  first|(have _:Kn 0:=kk;have f3:=hf (t*28+3))|(have _:Kn 1:=kk;have f3:=hf (t*28+3))|(have _:Kn 2:=kk;have f3:=hf (t*28+3))|(have _:Kn 3:=kk;have f3:=hf (t*30+3))
  first|(have _:Kn 0:=kk;have f4:=hf (t*28+4))|(have _:Kn 1:=kk;have f4:=hf (t*28+4))|(have _:Kn 2:=kk;have f4:=hf (t*28+4))|(have _:Kn 3:=kk;have f4:=hf (t*30+4))
  have HH:=aA h
  clear h hc hf
  first|(have _:Kn 0:=kk;go_enter Tryz.func203,Tryz.ntmps203)|(have _:Kn 1:=kk;go_enter Tryz.func262,Tryz.ntmps262)|(have _:Kn 2:=kk;go_enter Tryz.func336,Tryz.ntmps336)|(have _:Kn 3:=kk;go_enter Tryz.func299,Tryz.ntmps299)
  go_wp2
  refine bodyPost_end (v:=.tuple #[]) (by simp [results,Tryz.results203,Tryz.results262,Tryz.results336,Tryz.results299,go_sem]) rfl ⟨rfl,?_,?_⟩
  ·have h1:=HH.out.lJ t ht 3 (by decide) (.int .i64 (p:Int)) {E.th t with phase:=p} rfl rfl rfl rfl rfl (by intros;rfl)
   have h2:=h1.lJ t ht 4 (by decide) (.int .i64 0) {E.th t with phase:=p,past:=0} (by simp [aC]) (by simp [aC]) (by simp [aC]) (by simp [aC]) (by simp [aC]) (by intros;simp only [aC];rfl)
   refine h2.cast ?_
   simp only [bM]
   rfl
  ·exact (Fr.set w kH _).trans (Fr.set _ kH _)
theorem int.gH:gV:=uR.1
theorem list.gH:gV:=uR.2.1
theorem tree.gH:gV:=uR.2.2.1
theorem row.gH:gV:=uR.2.2.2
theorem int.RE.fN {σ:Type} {R:SR σ} {L:Lt} {S:Nat→Prop} {E:aK σ} {w:World} {t:Nat} (h:RE R L S E w) (ht:t<L.n) (j:Nat) (hj:j<28) (v:Value) (e':aS σ) (hd:e'.dw=(E.th t).dw) (hg:e'.tg=(E.th t).tg) (hn:e'.now=(E.th t).now) (hf:e'.cD=(E.th t).cD) (hp:e'.aJ=(E.th t).aJ) (xE:∀ c0 c1 d0 d1 pv,(aO L t (E.th t) [c0,c1] [d0,d1] pv).set j v=aO L t e' [c0,c1] [d0,d1] pv) :
  RE R L S {E with th:=aI E.th t e'} (w.setCell ⟨L.g,t*28+j,none⟩ v)∧Fr L.own w (w.setCell ⟨L.g,t*28+j,none⟩ v) :=
 ⟨h.lJ t ht j hj v e' hd hg hn hf hp xE,Fr.set w kH _⟩
theorem list.RE.fN {σ:Type} {R:SR σ} {L:Lt} {S:Nat→Prop} {E:aK σ} {w:World} {t:Nat} (h:RE R L S E w) (ht:t<L.n) (j:Nat) (hj:j<28) (v:Value) (e':aS σ) (hd:e'.dw=(E.th t).dw) (hg:e'.tg=(E.th t).tg) (hn:e'.now=(E.th t).now) (hf:e'.cD=(E.th t).cD) (hp:e'.aJ=(E.th t).aJ) (xE:∀ c0 c1 d0 d1 pv,(aO L t (E.th t) [c0,c1] [d0,d1] pv).set j v=aO L t e' [c0,c1] [d0,d1] pv) :
  RE R L S {E with th:=aI E.th t e'} (w.setCell ⟨L.g,t*28+j,none⟩ v)∧Fr L.own w (w.setCell ⟨L.g,t*28+j,none⟩ v) :=
 ⟨h.lJ t ht j hj v e' hd hg hn hf hp xE,Fr.set w kH _⟩
theorem tree.RE.fN {σ:Type} {R:SR σ} {L:Lt} {S:Nat→Prop} {E:aK σ} {w:World} {t:Nat} (h:RE R L S E w) (ht:t<L.n) (j:Nat) (hj:j<28) (v:Value) (e':aS σ) (hd:e'.dw=(E.th t).dw) (hg:e'.tg=(E.th t).tg) (hn:e'.now=(E.th t).now) (hf:e'.cD=(E.th t).cD) (hp:e'.aJ=(E.th t).aJ) (xE:∀ c0 c1 d0 d1 pv,(aO L t (E.th t) [c0,c1] [d0,d1] pv).set j v=aO L t e' [c0,c1] [d0,d1] pv) :
  RE R L S {E with th:=aI E.th t e'} (w.setCell ⟨L.g,t*28+j,none⟩ v)∧Fr L.own w (w.setCell ⟨L.g,t*28+j,none⟩ v) :=
 ⟨h.lJ t ht j hj v e' hd hg hn hf hp xE,Fr.set w kH _⟩
theorem row.RE.fN {σ:Type} {R:SR σ} {L:Lt} {S:Nat→Prop} {E:aK σ} {w:World} {t:Nat} (h:RE R L S E w) (ht:t<L.n) (j:Nat) (hj:j<30) (v:Value) (e':aS σ) (hd:e'.dw=(E.th t).dw) (hg:e'.tg=(E.th t).tg) (hn:e'.now=(E.th t).now) (hf:e'.cD=(E.th t).cD) (hp:e'.aJ=(E.th t).aJ) (xE:∀ c0 c1 c2 d0 d1 d2 pv,(aO L t (E.th t) [c0,c1,c2] [d0,d1,d2] pv).set j v=aO L t e' [c0,c1,c2] [d0,d1,d2] pv) :
  RE R L S {E with th:=aI E.th t e'} (w.setCell ⟨L.g,t*30+j,none⟩ v)∧Fr L.own w (w.setCell ⟨L.g,t*30+j,none⟩ v) :=
 ⟨h.lJ t ht j hj v e' hd hg hn hf hp xE,Fr.set w kH _⟩
def int.jJ:Prop:=∀ {σ:Type} {R:SR σ} {L:Lt} {S:Nat→Prop} {E:aK σ} {w:World} {t:Nat} (_h:RE R L S E w) (_ht:t<L.n) (steps p:Nat) (_hs:steps≤1000000) (_hq:(E.th t).past≤1000000),Calls Tryz.prog 206 #[.pointer (some ⟨L.g,t*28,none⟩),.int .i64 (steps:Int),.int .i64 (p:Int)] w fun e w'=>e = .returned (.tuple #[])∧RE R L S {E with th:=aI E.th t ((E.th t).pass steps p)} w'∧Fr L.own w w'
def list.jJ:Prop:=∀ {σ:Type} {R:SR σ} {L:Lt} {S:Nat→Prop} {E:aK σ} {w:World} {t:Nat} (_h:RE R L S E w) (_ht:t<L.n) (steps p:Nat) (_hs:steps≤1000000) (_hq:(E.th t).past≤1000000),Calls Tryz.prog 265 #[.pointer (some ⟨L.g,t*28,none⟩),.int .i64 (steps:Int),.int .i64 (p:Int)] w fun e w'=>e = .returned (.tuple #[])∧RE R L S {E with th:=aI E.th t ((E.th t).pass steps p)} w'∧Fr L.own w w'
def tree.jJ:Prop:=∀ {σ:Type} {R:SR σ} {L:Lt} {S:Nat→Prop} {E:aK σ} {w:World} {t:Nat} (_h:RE R L S E w) (_ht:t<L.n) (steps p:Nat) (_hs:steps≤1000000) (_hq:(E.th t).past≤1000000),Calls Tryz.prog 339 #[.pointer (some ⟨L.g,t*28,none⟩),.int .i64 (steps:Int),.int .i64 (p:Int)] w fun e w'=>e = .returned (.tuple #[])∧RE R L S {E with th:=aI E.th t ((E.th t).pass steps p)} w'∧Fr L.own w w'
def row.jJ:Prop:=∀ {σ:Type} {R:SR σ} {L:Lt} {S:Nat→Prop} {E:aK σ} {w:World} {t:Nat} (_h:RE R L S E w) (_ht:t<L.n) (steps p:Nat) (_hs:steps≤1000000) (_hq:(E.th t).past≤1000000),Calls Tryz.prog 302 #[.pointer (some ⟨L.g,t*30,none⟩),.int .i64 (steps:Int),.int .i64 (p:Int)] w fun e w'=>e = .returned (.tuple #[])∧RE R L S {E with th:=aI E.th t ((E.th t).pass steps p)} w'∧Fr L.own w w'
open row in
theorem xG:int.jJ∧list.jJ∧tree.jJ∧row.jJ:=by
 refine ⟨@mkK _ 0 ?_,@mkK _ 1 ?_,@mkK _ 2 ?_,@mkK _ 3 ?_⟩<;>intro kk σ R L S E w t h ht steps p hs hq
 all_goals
  obtain ⟨cv,cf,pv,hc,-,-,-,hf⟩:=h.cells ht rfl
  have c4:=hc 4 _ (by decide) rfl
  first|(have _:Kn 0:=kk;have f4:=hf (t*28+4))|(have _:Kn 1:=kk;have f4:=hf (t*28+4))|(have _:Kn 2:=kk;have f4:=hf (t*28+4))|(have _:Kn 3:=kk;have f4:=hf (t*30+4))
  obtain ⟨h1,k1⟩:=h.fN ht 4 (by decide) (.int .i64 (((E.th t).past:Int)+1)) {E.th t with past:=(E.th t).past+1} rfl rfl rfl rfl rfl (by intros;rfl)
  have HH:=aA h1
  have HK:=aA k1
  clear h hc hf h1 k1
  by_cases he:(E.th t).past+1=steps
  ·have VT:=aA (show (E.th t).pass steps p=(E.th t).enter p by unfold aS.pass;rw [if_pos he])
   have he1:((E.th t).past:Int)+1≤(steps:Int):=by omega
   have he2:(steps:Int)≤((E.th t).past:Int)+1:=by omega
   clear he
   first|(have _:Kn 0:=kk;go_enter Tryz.func206,Tryz.ntmps206)|(have _:Kn 1:=kk;go_enter Tryz.func265,Tryz.ntmps265)|(have _:Kn 2:=kk;go_enter Tryz.func339,Tryz.ntmps339)|(have _:Kn 3:=kk;go_enter Tryz.func302,Tryz.ntmps302)
   go_wp2_with fail
   refine (gH HH.out ht p).mono ?_
   rintro e w1 ⟨rfl,r1,k2⟩
   have HR:=aA r1
   have HK2:=aA k2
   clear r1 k2
   go_wp2
   refine bodyPost_end (v:=.tuple #[]) (by simp [results,Tryz.results206,Tryz.results265,Tryz.results339,Tryz.results302,go_sem]) rfl ⟨rfl,?_,HK.out.trans HK2.out⟩
   refine HR.out.cast ?_
   rw [VT.out]
   simp only [bM,aC]
   rfl
  ·have he':¬((E.th t).past:Int)+1=(steps:Int):=by omega
   have VT:=aA (show (E.th t).pass steps p = {E.th t with past:=(E.th t).past+1} by unfold aS.pass;rw [if_neg he])
   first|(have _:Kn 0:=kk;go_enter Tryz.func206,Tryz.ntmps206)|(have _:Kn 1:=kk;go_enter Tryz.func265,Tryz.ntmps265)|(have _:Kn 2:=kk;go_enter Tryz.func339,Tryz.ntmps339)|(have _:Kn 3:=kk;go_enter Tryz.func302,Tryz.ntmps302)
   go_wp2
   refine bodyPost_end (v:=.tuple #[]) (by simp [results,Tryz.results206,Tryz.results265,Tryz.results339,Tryz.results302,go_sem]) rfl ⟨rfl,?_,HK.out⟩
   rw [VT.out]
   exact HH.out
theorem int.kD:jJ:=xG.1
theorem list.kD:jJ:=xG.2.1
theorem tree.kD:jJ:=xG.2.2.1
theorem row.kD:jJ:=xG.2.2.2
def int.dR:Prop:=∀ {σ:Type} {R:SR σ} {L:Lt} {S:Nat→Prop} {E:aK σ} {w:World} {t:Nat} (_h:RE R L S E w) (_ht:t<L.n),Calls Tryz.prog 222 #[.pointer (some ⟨L.g,t*28,none⟩)] w fun e w'=>e = .returned (.tuple #[])∧RE R L S {E with th:=aI E.th t (E.th t).bK} w'∧Fr L.own w w'
def list.dR:Prop:=∀ {σ:Type} {R:SR σ} {L:Lt} {S:Nat→Prop} {E:aK σ} {w:World} {t:Nat} (_h:RE R L S E w) (_ht:t<L.n),Calls Tryz.prog 277 #[.pointer (some ⟨L.g,t*28,none⟩)] w fun e w'=>e = .returned (.tuple #[])∧RE R L S {E with th:=aI E.th t (E.th t).bK} w'∧Fr L.own w w'
def tree.dR:Prop:=∀ {σ:Type} {R:SR σ} {L:Lt} {S:Nat→Prop} {E:aK σ} {w:World} {t:Nat} (_h:RE R L S E w) (_ht:t<L.n),Calls Tryz.prog 351 #[.pointer (some ⟨L.g,t*28,none⟩)] w fun e w'=>e = .returned (.tuple #[])∧RE R L S {E with th:=aI E.th t (E.th t).bK} w'∧Fr L.own w w'
def row.dR:Prop:=∀ {σ:Type} {R:SR σ} {L:Lt} {S:Nat→Prop} {E:aK σ} {w:World} {t:Nat} (_h:RE R L S E w) (_ht:t<L.n),Calls Tryz.prog 314 #[.pointer (some ⟨L.g,t*30,none⟩)] w fun e w'=>e = .returned (.tuple #[])∧RE R L S {E with th:=aI E.th t (E.th t).bK} w'∧Fr L.own w w'
open row in
theorem oB:int.dR∧list.dR∧tree.dR∧row.dR:=by
 refine ⟨@mkK _ 0 ?_,@mkK _ 1 ?_,@mkK _ 2 ?_,@mkK _ 3 ?_⟩<;>intro kk σ R L S E w t h ht
 all_goals
  obtain ⟨cv,cf,pv,hc,-,-,-,-⟩:=h.cells ht rfl
  have c9:=hc 9 _ (by decide) rfl
  have HH:=aA h
  clear h hc
  by_cases he:0<(E.th t).aG
  ·have he':(0:Int)<((E.th t).aG:Int):=by omega
   rw [show (E.th t).bK=(E.th t).enter 3 by unfold aS.bK;rw [if_pos he]]
   first|(have _:Kn 0:=kk;go_enter Tryz.func222,Tryz.ntmps222)|(have _:Kn 1:=kk;go_enter Tryz.func277,Tryz.ntmps277)|(have _:Kn 2:=kk;go_enter Tryz.func351,Tryz.ntmps351)|(have _:Kn 3:=kk;go_enter Tryz.func314,Tryz.ntmps314)
   go_wp2_with fail
   refine (gH HH.out ht 3).mono ?_
   rintro e w1 ⟨rfl,r1,k2⟩
   have HR:=aA (And.intro r1 k2)
   clear r1 k2
   go_wp2
   exact bodyPost_end (v:=.tuple #[]) (by simp [results,Tryz.results222,Tryz.results277,Tryz.results351,Tryz.results314,go_sem]) rfl ⟨rfl,HR.out⟩
  ·have he':¬(0:Int)<((E.th t).aG:Int):=by omega
   rw [show (E.th t).bK=(E.th t).enter 4 by unfold aS.bK;rw [if_neg he]]
   first|(have _:Kn 0:=kk;go_enter Tryz.func222,Tryz.ntmps222)|(have _:Kn 1:=kk;go_enter Tryz.func277,Tryz.ntmps277)|(have _:Kn 2:=kk;go_enter Tryz.func351,Tryz.ntmps351)|(have _:Kn 3:=kk;go_enter Tryz.func314,Tryz.ntmps314)
   go_wp2_with fail
   refine (gH HH.out ht 4).mono ?_
   rintro e w1 ⟨rfl,r1,k2⟩
   have HR:=aA (And.intro r1 k2)
   clear r1 k2
   go_wp2
   exact bodyPost_end (v:=.tuple #[]) (by simp [results,Tryz.results222,Tryz.results277,Tryz.results351,Tryz.results314,go_sem]) rfl ⟨rfl,HR.out⟩
theorem int.mC:dR:=oB.1
theorem list.mC:dR:=oB.2.1
theorem tree.mC:dR:=oB.2.2.1
theorem row.mC:dR:=oB.2.2.2
def int.jK:Prop:=∀ {σ:Type} {R:SR σ} {L:Lt} {S:Nat→Prop} {E:aK σ} {w:World} {t:Nat} (_h:RE R L S E w) (_ht:t<L.n) (_hb:(E.th t).aG≤L.cap),Calls Tryz.prog 227 #[.pointer (some ⟨L.g,t*28,none⟩)] w fun e w'=>e = .returned (.tuple #[])∧RE R L S {E with th:=aI E.th t ((E.th t).fail L.cap)} w'∧Fr L.own w w'
def list.jK:Prop:=∀ {σ:Type} {R:SR σ} {L:Lt} {S:Nat→Prop} {E:aK σ} {w:World} {t:Nat} (_h:RE R L S E w) (_ht:t<L.n) (_hb:(E.th t).aG≤L.cap),Calls Tryz.prog 279 #[.pointer (some ⟨L.g,t*28,none⟩)] w fun e w'=>e = .returned (.tuple #[])∧RE R L S {E with th:=aI E.th t ((E.th t).fail L.cap)} w'∧Fr L.own w w'
def tree.jK:Prop:=∀ {σ:Type} {R:SR σ} {L:Lt} {S:Nat→Prop} {E:aK σ} {w:World} {t:Nat} (_h:RE R L S E w) (_ht:t<L.n) (_hb:(E.th t).aG≤L.cap),Calls Tryz.prog 353 #[.pointer (some ⟨L.g,t*28,none⟩)] w fun e w'=>e = .returned (.tuple #[])∧RE R L S {E with th:=aI E.th t ((E.th t).fail L.cap)} w'∧Fr L.own w w'
def row.jK:Prop:=∀ {σ:Type} {R:SR σ} {L:Lt} {S:Nat→Prop} {E:aK σ} {w:World} {t:Nat} (_h:RE R L S E w) (_ht:t<L.n) (_hb:(E.th t).aG≤L.cap),Calls Tryz.prog 316 #[.pointer (some ⟨L.g,t*30,none⟩)] w fun e w'=>e = .returned (.tuple #[])∧RE R L S {E with th:=aI E.th t ((E.th t).fail L.cap)} w'∧Fr L.own w w'
open row in
theorem xH:int.jK∧list.jK∧tree.jK∧row.jK:=by
 refine ⟨@mkK _ 0 ?_,@mkK _ 1 ?_,@mkK _ 2 ?_,@mkK _ 3 ?_⟩<;>intro kk σ R L S E w t h ht hb
 all_goals
  obtain ⟨cv,cf,pv,hc,-,-,-,hf⟩:=h.cells ht rfl
  have c2:=hc 2 _ (by decide) rfl
  have c9:=hc 9 _ (by decide) rfl
  have c10:=hc 10 _ (by decide) rfl
  first|(have _:Kn 0:=kk;have f9:=hf (t*28+9))|(have _:Kn 1:=kk;have f9:=hf (t*28+9))|(have _:Kn 2:=kk;have f9:=hf (t*28+9))|(have _:Kn 3:=kk;have f9:=hf (t*30+9))
  first|(have _:Kn 0:=kk;have f10:=hf (t*28+10))|(have _:Kn 1:=kk;have f10:=hf (t*28+10))|(have _:Kn 2:=kk;have f10:=hf (t*28+10))|(have _:Kn 3:=kk;have f10:=hf (t*30+10))
  have hcap:=h.ok.VQ
  obtain ⟨h1,k1⟩:=h.fN ht 9 (by decide) (.int .i64 ((min (2*(E.th t).aG+1) L.cap:Nat):Int)) {E.th t with aG:=min (2*(E.th t).aG+1) L.cap} rfl rfl rfl rfl rfl (by intros;rfl)
  have HH:=aA h1
  have HK:=aA k1
  have hmin:=aA (show (if (L.cap:Int)<2*((E.th t).aG:Int)+1 then (L.cap:Int) else 2*((E.th t).aG:Int)+1)=((min (2*(E.th t).aG+1) L.cap:Nat):Int) by split<;>omega)
  clear h hc hf h1 k1
  first|(have _:Kn 0:=kk;go_enter Tryz.func227,Tryz.ntmps227)|(have _:Kn 1:=kk;go_enter Tryz.func279,Tryz.ntmps279)|(have _:Kn 2:=kk;go_enter Tryz.func353,Tryz.ntmps353)|(have _:Kn 3:=kk;go_enter Tryz.func316,Tryz.ntmps316)
  go_wp2
  go_region
  rw [hmin.out]
  generalize tX:World.drew _=W1
  have QG:RE R L S {E with th:=aI E.th t {E.th t with aG:=min (2*(E.th t).aG+1) L.cap}} W1:=by rw [←tX];exact HH.out.drew
  have UM:Fr L.own w W1:=by rw [←tX];exact HK.out.drew
  clear tX
  obtain ⟨cv1,cf1,pv1,hc1,-,-,-,hf1⟩:=QG.cells ht (aC _ _ _)
  have d10:=hc1 10 _ (by decide) rfl
  first|(have _:Kn 0:=kk;have g10:=hf1 (t*28+10))|(have _:Kn 1:=kk;have g10:=hf1 (t*28+10))|(have _:Kn 2:=kk;have g10:=hf1 (t*28+10))|(have _:Kn 3:=kk;have g10:=hf1 (t*30+10))
  have CG:=aA QG
  have HK1:=aA UM
  clear QG UM hc1 hf1 c10 f10
  by_cases ha:(E.th t).again=true
  ·have hfl:=aA (show (E.th t).fail L.cap=aS.enter {E.th t with aG:=min (2*(E.th t).aG+1) L.cap} 11 by unfold aS.fail;rw [if_pos ha])
   go_wp2_with fail
   refine (gH CG.out ht 11).mono ?_
   rintro e w1 ⟨rfl,r1,k2⟩
   have HR:=aA (And.intro r1 k2)
   clear r1 k2
   go_wp2
   refine bodyPost_ret (v:=.tuple #[]) (by simp [results,Tryz.results227,Tryz.results279,Tryz.results353,Tryz.results316,go_sem]) rfl ⟨rfl,HR.out.1.cast ?_,HK1.out.trans HR.out.2⟩
   rw [hfl.out]
   simp only [bM,aC]
  ·have ha':(E.th t).again=false:=by simpa using ha
   have hfl:=aA (show (E.th t).fail L.cap=aS.bK {E.th t with aG:=min (2*(E.th t).aG+1) L.cap,again:=true} by unfold aS.fail;rw [if_neg ha])
   obtain ⟨h2,k2⟩:=CG.out.fN ht 10 (by decide) (.bool true) {E.th t with aG:=min (2*(E.th t).aG+1) L.cap,again:=true} (by simp [aC]) (by simp [aC]) (by simp [aC]) (by simp [aC]) (by simp [aC]) (by intros;simp only [aC];rfl)
   have ZL:=aA h2
   have HK2:=aA k2
   clear h2 k2
   go_wp2_with fail
   refine (mC ZL.out ht).mono ?_
   rintro e w1 ⟨rfl,r1,k3⟩
   have HR:=aA (And.intro r1 k3)
   clear r1 k3
   go_wp2
   refine bodyPost_end (v:=.tuple #[]) (by simp [results,Tryz.results227,Tryz.results279,Tryz.results353,Tryz.results316,go_sem]) rfl ⟨rfl,HR.out.1.cast ?_,(HK1.out.trans HK2.out).trans HR.out.2⟩
   rw [hfl.out]
   simp only [bM,aC]
theorem int.CH:jK:=xH.1
theorem list.CH:jK:=xH.2.1
theorem tree.CH:jK:=xH.2.2.1
theorem row.CH:jK:=xH.2.2.2
def int.eL:Prop:=∀ {σ:Type} {R:SR σ} {L:Lt} {S:Nat→Prop} {E:aK σ} {w:World} {t:Nat} (_h:RE R L S E w) (_ht:t<L.n) (_hb:(E.th t).aG≤64),Calls Tryz.prog 235 #[.pointer (some ⟨L.g,t*28,none⟩)] w fun e w'=>e = .returned (.tuple #[])∧RE R L S {E with th:=aI E.th t (aS.enter {E.th t with aG:=(E.th t).aG / 2} 11)} w'∧Fr L.own w w'
def list.eL:Prop:=∀ {σ:Type} {R:SR σ} {L:Lt} {S:Nat→Prop} {E:aK σ} {w:World} {t:Nat} (_h:RE R L S E w) (_ht:t<L.n) (_hb:(E.th t).aG≤64),Calls Tryz.prog 284 #[.pointer (some ⟨L.g,t*28,none⟩)] w fun e w'=>e = .returned (.tuple #[])∧RE R L S {E with th:=aI E.th t (aS.enter {E.th t with aG:=(E.th t).aG / 2} 11)} w'∧Fr L.own w w'
def tree.eL:Prop:=∀ {σ:Type} {R:SR σ} {L:Lt} {S:Nat→Prop} {E:aK σ} {w:World} {t:Nat} (_h:RE R L S E w) (_ht:t<L.n) (_hb:(E.th t).aG≤64),Calls Tryz.prog 358 #[.pointer (some ⟨L.g,t*28,none⟩)] w fun e w'=>e = .returned (.tuple #[])∧RE R L S {E with th:=aI E.th t (aS.enter {E.th t with aG:=(E.th t).aG / 2} 11)} w'∧Fr L.own w w'
def row.eL:Prop:=∀ {σ:Type} {R:SR σ} {L:Lt} {S:Nat→Prop} {E:aK σ} {w:World} {t:Nat} (_h:RE R L S E w) (_ht:t<L.n) (_hb:(E.th t).aG≤64),Calls Tryz.prog 321 #[.pointer (some ⟨L.g,t*30,none⟩)] w fun e w'=>e = .returned (.tuple #[])∧RE R L S {E with th:=aI E.th t (aS.enter {E.th t with aG:=(E.th t).aG / 2} 11)} w'∧Fr L.own w w'
open row in
theorem qD:int.eL∧list.eL∧tree.eL∧row.eL:=by
 refine ⟨@mkK _ 0 ?_,@mkK _ 1 ?_,@mkK _ 2 ?_,@mkK _ 3 ?_⟩<;>intro kk σ R L S E w t h ht hb
 all_goals
  obtain ⟨cv,cf,pv,hc,-,-,-,hf⟩:=h.cells ht rfl
  have c9:=hc 9 _ (by decide) rfl
  first|(have _:Kn 0:=kk;have f9:=hf (t*28+9))|(have _:Kn 1:=kk;have f9:=hf (t*28+9))|(have _:Kn 2:=kk;have f9:=hf (t*28+9))|(have _:Kn 3:=kk;have f9:=hf (t*30+9))
  obtain ⟨h1,k1⟩:=h.fN ht 9 (by decide) (.int .i64 (((E.th t).aG:Int) / 2)) {E.th t with aG:=(E.th t).aG / 2} rfl rfl rfl rfl rfl (by intros;rfl)
  have HH:=aA h1
  have HK:=aA k1
  clear h hc hf h1 k1
  first|(have _:Kn 0:=kk;go_enter Tryz.func235,Tryz.ntmps235)|(have _:Kn 1:=kk;go_enter Tryz.func284,Tryz.ntmps284)|(have _:Kn 2:=kk;go_enter Tryz.func358,Tryz.ntmps358)|(have _:Kn 3:=kk;go_enter Tryz.func321,Tryz.ntmps321)
  go_wp2_with fail
  refine (gH HH.out ht 11).mono ?_
  rintro e w1 ⟨rfl,r1,k2⟩
  have HR:=aA (And.intro r1 k2)
  clear r1 k2
  go_wp2
  refine bodyPost_end (v:=.tuple #[]) (by simp [results,Tryz.results235,Tryz.results284,Tryz.results358,Tryz.results321,go_sem]) rfl ⟨rfl,HR.out.1.cast ?_,HK.out.trans HR.out.2⟩
  simp only [bM,aC]
theorem int.uS:eL:=qD.1
theorem list.uS:eL:=qD.2.1
theorem tree.uS:eL:=qD.2.2.1
theorem row.uS:eL:=qD.2.2.2
def int.jL:Prop:=∀ {σ:Type} {R:SR σ} {L:Lt} {S:Nat→Prop} {E:aK σ} {w:World} {t:Nat} (_h:RE R L S E w) (_ht:t<L.n),Calls Tryz.prog 207 #[.pointer (some ⟨L.g,t*28,none⟩)] w fun e w'=>e = .returned (.tuple #[])∧RE R L S {E with th:=aI E.th t (aS.enter {E.th t with stamp:=E.cZ,aR:=E.prec} 5)} w'∧Fr L.own w w'
def list.jL:Prop:=∀ {σ:Type} {R:SR σ} {L:Lt} {S:Nat→Prop} {E:aK σ} {w:World} {t:Nat} (_h:RE R L S E w) (_ht:t<L.n),Calls Tryz.prog 266 #[.pointer (some ⟨L.g,t*28,none⟩)] w fun e w'=>e = .returned (.tuple #[])∧RE R L S {E with th:=aI E.th t (aS.enter {E.th t with stamp:=E.cZ,aR:=E.prec} 5)} w'∧Fr L.own w w'
def tree.jL:Prop:=∀ {σ:Type} {R:SR σ} {L:Lt} {S:Nat→Prop} {E:aK σ} {w:World} {t:Nat} (_h:RE R L S E w) (_ht:t<L.n),Calls Tryz.prog 340 #[.pointer (some ⟨L.g,t*28,none⟩)] w fun e w'=>e = .returned (.tuple #[])∧RE R L S {E with th:=aI E.th t (aS.enter {E.th t with stamp:=E.cZ,aR:=E.prec} 5)} w'∧Fr L.own w w'
def row.jL:Prop:=∀ {σ:Type} {R:SR σ} {L:Lt} {S:Nat→Prop} {E:aK σ} {w:World} {t:Nat} (_h:RE R L S E w) (_ht:t<L.n),Calls Tryz.prog 303 #[.pointer (some ⟨L.g,t*30,none⟩)] w fun e w'=>e = .returned (.tuple #[])∧RE R L S {E with th:=aI E.th t (aS.enter {E.th t with stamp:=E.cZ,aR:=E.prec} 5)} w'∧Fr L.own w w'
open row in
theorem xI:int.jL∧list.jL∧tree.jL∧row.jL:=by
 refine ⟨@mkK _ 0 ?_,@mkK _ 1 ?_,@mkK _ 2 ?_,@mkK _ 3 ?_⟩<;>intro kk σ R L S E w t h ht
 all_goals
  obtain ⟨cv,cf,pv,hc,-,-,-,hf⟩:=h.cells ht rfl
  first|(have _:Kn 0:=kk;have c0:w.cell? ⟨L.g,t*28,none⟩=some (.pointer (some ⟨L.bS,0,none⟩)):=hc 0 _ (by decide) rfl)|(have _:Kn 1:=kk;have c0:w.cell? ⟨L.g,t*28,none⟩=some (.pointer (some ⟨L.bS,0,none⟩)):=hc 0 _ (by decide) rfl)|(have _:Kn 2:=kk;have c0:w.cell? ⟨L.g,t*28,none⟩=some (.pointer (some ⟨L.bS,0,none⟩)):=hc 0 _ (by decide) rfl)|(have _:Kn 3:=kk;have c0:w.cell? ⟨L.g,t*30,none⟩=some (.pointer (some ⟨L.bS,0,none⟩)):=hc 0 _ (by decide) rfl)
  have VU:=hc 13 _ (by decide) rfl
  first|(have _:Kn 0:=kk;have f13:=hf (t*28+13))|(have _:Kn 1:=kk;have f13:=hf (t*28+13))|(have _:Kn 2:=kk;have f13:=hf (t*28+13))|(have _:Kn 3:=kk;have f13:=hf (t*30+13))
  have s5:w.cell? ⟨L.bS,5,none⟩=some _:=h.sh.cell_of rfl
  obtain ⟨h1,k1⟩:=h.fN ht 13 (by decide) (.int .i64 ((E.cZ:Int)*129+(E.prec:Int))) {E.th t with stamp:=E.cZ,aR:=E.prec} rfl rfl rfl rfl rfl (by intros;rfl)
  have HH:=aA h1
  have HK:=aA k1
  have HS:=aA s5
  clear h hc hf h1 k1 s5
  first|(have _:Kn 0:=kk;go_enter Tryz.func207,Tryz.ntmps207)|(have _:Kn 1:=kk;go_enter Tryz.func266,Tryz.ntmps266)|(have _:Kn 2:=kk;go_enter Tryz.func340,Tryz.ntmps340)|(have _:Kn 3:=kk;go_enter Tryz.func303,Tryz.ntmps303)
  go_wp2_with fail
  refine (uL L.bS 5 _ _ HS.out).mono ?_
  rintro e w1 ⟨rfl,rfl⟩
  go_wp2_with fail
  refine (gH HH.out ht 5).mono ?_
  rintro e w1 ⟨rfl,r1,k2⟩
  have HR:=aA (And.intro r1 k2)
  clear r1 k2
  go_wp2
  refine bodyPost_end (v:=.tuple #[]) (by simp [results,Tryz.results207,Tryz.results266,Tryz.results340,Tryz.results303,go_sem]) rfl ⟨rfl,HR.out.1.cast ?_,HK.out.trans HR.out.2⟩
  simp only [bM,aC]
theorem int.CI:jL:=xI.1
theorem list.CI:jL:=xI.2.1
theorem tree.CI:jL:=xI.2.2.1
theorem row.CI:jL:=xI.2.2.2
def int.kT:Prop:=∀ {σ:Type} {R:SR σ} {L:Lt} {S:Nat→Prop} {E:aK σ} {w:World} {t:Nat} (_h:RE R L S E w) (_ht:t<L.n) (_hp:E.prec<2*L.n+1) (_hN:E.cZ≤1000000000000),Calls Tryz.prog 214 #[.pointer (some ⟨L.g,t*28,none⟩)] w fun e w'=>e = .returned (.tuple #[])∧RE R L S {E with th:=aI E.th t (aS.enter {E.th t with found:=E.prec} 12)} w'∧Fr L.own w w'
def list.kT:Prop:=∀ {σ:Type} {R:SR σ} {L:Lt} {S:Nat→Prop} {E:aK σ} {w:World} {t:Nat} (_h:RE R L S E w) (_ht:t<L.n) (_hp:E.prec<2*L.n+1) (_hN:E.cZ≤1000000000000),Calls Tryz.prog 273 #[.pointer (some ⟨L.g,t*28,none⟩)] w fun e w'=>e = .returned (.tuple #[])∧RE R L S {E with th:=aI E.th t (aS.enter {E.th t with found:=E.prec} 12)} w'∧Fr L.own w w'
def tree.kT:Prop:=∀ {σ:Type} {R:SR σ} {L:Lt} {S:Nat→Prop} {E:aK σ} {w:World} {t:Nat} (_h:RE R L S E w) (_ht:t<L.n) (_hp:E.prec<2*L.n+1) (_hN:E.cZ≤1000000000000),Calls Tryz.prog 347 #[.pointer (some ⟨L.g,t*28,none⟩)] w fun e w'=>e = .returned (.tuple #[])∧RE R L S {E with th:=aI E.th t (aS.enter {E.th t with found:=E.prec} 12)} w'∧Fr L.own w w'
theorem yK:int.kT∧list.kT∧tree.kT:=by
 refine ⟨@mkK _ 0 ?_,@mkK _ 1 ?_,@mkK _ 2 ?_⟩<;>intro kk σ R L S E w t h ht hp hN
 all_goals
  obtain ⟨cv,cf,pv,hc,hcv,eD,-,hf⟩:=h.cells ht rfl
  obtain ⟨c0,c1,rfl⟩:=aE hcv.1
  obtain ⟨d0,d1,rfl⟩:=aE eD.1
  have hn:=h.ok.n64
  have c0:w.cell? ⟨L.g,t*28,none⟩=some (.pointer (some ⟨L.bS,0,none⟩)):=hc 0 _ (by decide) rfl
  have c22:=hc 24 _ (by decide) rfl
  have f22:=hf (t*28+24)
  have s5:w.cell? ⟨L.bS,5,none⟩=some _:=h.sh.cell_of rfl
  obtain ⟨h1,k1⟩:=h.fN ht 24 (by decide) (.int .i64 (E.prec:Int)) {E.th t with found:=E.prec} rfl rfl rfl rfl rfl (by intros;rfl)
  have HH:=aA h1
  have HK:=aA k1
  have HS:=aA s5
  have hm:=aA (show ((E.cZ:Int)*129+(E.prec:Int)) % 129=(E.prec:Int) by omega)
  clear h hc hf h1 k1 s5 hcv eD
  first|(have _:Kn 0:=kk;go_enter Tryz.func214,Tryz.ntmps214)|(have _:Kn 1:=kk;go_enter Tryz.func273,Tryz.ntmps273)|(have _:Kn 2:=kk;go_enter Tryz.func347,Tryz.ntmps347)
  go_wp2_with fail
  refine (uL L.bS 5 _ _ HS.out).mono ?_
  rintro e w1 ⟨rfl,rfl⟩
  go_wp2_with fail
  refine (rN _ _ (by omega) (by omega)).mono ?_
  rintro e w1 ⟨rfl,rfl⟩
  rw [hm.out]
  go_wp2_with fail
  refine (gH HH.out ht 12).mono ?_
  rintro e w1 ⟨rfl,r1,k2⟩
  have HR:=aA (And.intro r1 k2)
  clear r1 k2
  go_wp2
  refine bodyPost_end (v:=.tuple #[]) (by simp [results,Tryz.results214,Tryz.results273,Tryz.results347,go_sem]) rfl ⟨rfl,HR.out.1.cast ?_,HK.out.trans HR.out.2⟩
  simp only [bM,aC]
theorem int.xJ:kT:=yK.1
theorem list.xJ:kT:=yK.2.1
theorem tree.xJ:kT:=yK.2.2
theorem row.xJ {σ:Type} {R:SR σ} {L:Lt} {S:Nat→Prop} {E:aK σ} {w:World} {t:Nat} (h:RE R L S E w) (ht:t<L.n) (hp:E.prec<2*L.n+1) (hN:E.cZ≤1000000000000) :
  Calls Tryz.prog 310 #[.pointer (some ⟨L.g,t*30,none⟩)] w fun e w'=>e = .returned (.tuple #[])∧RE R L S {E with th:=aI E.th t (aS.enter {E.th t with found:=E.prec} 12)} w'∧Fr L.own w w':=by
 obtain ⟨cv,cf,pv,hc,hcv,eD,-,hf⟩:=h.cells ht rfl
 obtain ⟨c0,c1,c2,rfl⟩:=aE hcv.1
 obtain ⟨d0,d1,d2,rfl⟩:=aE eD.1
 have hn:=h.ok.n64
 have c0:w.cell? ⟨L.g,t*30,none⟩=some (.pointer (some ⟨L.bS,0,none⟩)):=hc 0 _ (by decide) rfl
 have c22:=hc 26 _ (by decide) rfl
 have f22:=hf (t*30+26)
 have s5:w.cell? ⟨L.bS,5,none⟩=some _:=h.sh.cell_of rfl
 obtain ⟨h1,k1⟩:=h.fN ht 26 (by decide) (.int .i64 (E.prec:Int)) {E.th t with found:=E.prec} rfl rfl rfl rfl rfl (by intros;rfl)
 have HH:=aA h1
 have HK:=aA k1
 have HS:=aA s5
 have hm:=aA (show ((E.cZ:Int)*129+(E.prec:Int)) % 129=(E.prec:Int) by omega)
 clear h hc hf h1 k1 s5 hcv eD
 go_enter Tryz.func310,Tryz.ntmps310
 go_wp2_with fail
 refine (uL L.bS 5 _ _ HS.out).mono ?_
 rintro e w1 ⟨rfl,rfl⟩
 go_wp2_with fail
 refine (rN _ _ (by omega) (by omega)).mono ?_
 rintro e w1 ⟨rfl,rfl⟩
 rw [hm.out]
 go_wp2_with fail
 refine (gH HH.out ht 12).mono ?_
 rintro e w1 ⟨rfl,r1,k2⟩
 have HR:=aA (And.intro r1 k2)
 clear r1 k2
 go_wp2
 refine bodyPost_end (v:=.tuple #[]) (by simp [results,Tryz.results310,go_sem]) rfl ⟨rfl,HR.out.1.cast ?_,HK.out.trans HR.out.2⟩
 simp only [bM,aC]
end Go.Proofs.YtefjhnhdagolhaaGreat
