import Derived.Test.YtefjhnhdagolhabGreatQ17
import Derived.Test.YtefjhnhdagolhabGreatQ06
import Derived.Test.YtefjhnhdagolhabGreatQ09
set_option maxHeartbeats 4000000
namespace Go.Proofs.YtefjhnhdagolhabGreat
open int list tree
open Go.RowKit
open M (aH aC aE Op cY aS aK tw aR)
attribute [local go_sem ↓] Go.wp_at_zero Go.wp_at_succ
theorem int.bR {α:Type} (f:Nat→α) (t:Nat) (a b:α):aH (aH f t a) t b=aH f t b:=by funext k;unfold aH;split<;>rfl
structure int.aF {σ:Type} (R:SR σ) (L:Lt) (S:Nat→Prop) (w:World) (E':aK σ) (w':World):Prop where
 re:RE R L (grown S w w') E' w'
 fr:Fr L.own w w'
structure list.aF {σ:Type} (R:SR σ) (L:Lt) (S:Nat→Prop) (w:World) (E':aK σ) (w':World):Prop where
 re:RE R L (grown S w w') E' w'
 fr:Fr L.own w w'
structure tree.aF {σ:Type} (R:SR σ) (L:Lt) (S:Nat→Prop) (w:World) (E':aK σ) (w':World):Prop where
 re:RE R L (grown S w w') E' w'
 fr:Fr L.own w w'
structure row.aF {σ:Type} (R:SR σ) (L:Lt) (S:Nat→Prop) (w:World) (E':aK σ) (w':World):Prop where
 re:RE R L (grown S w w') E' w'
 fr:Fr L.own w w'
theorem int.aF.of {σ:Type} {R:SR σ} {L:Lt} {S:Nat→Prop} {E':aK σ} {w:World} {w':World} (h:RE R L S E' w') (hf:Fr L.own w w') {w0:World} (hw:w'=w0):aF R L S w E' w0:=by
 subst hw
 refine ⟨h.mono (fun _ hk=>.inl hk) (fun k hk=>?_),hf⟩
 rcases hk with hk|hk
 ·exact h.lt k hk
 ·exact hk.2
theorem list.aF.of {σ:Type} {R:SR σ} {L:Lt} {S:Nat→Prop} {E':aK σ} {w:World} {w':World} (h:RE R L S E' w') (hf:Fr L.own w w') {w0:World} (hw:w'=w0):aF R L S w E' w0:=by
 subst hw
 refine ⟨h.mono (fun _ hk=>.inl hk) (fun k hk=>?_),hf⟩
 rcases hk with hk|hk
 ·exact h.lt k hk
 ·exact hk.2
theorem tree.aF.of {σ:Type} {R:SR σ} {L:Lt} {S:Nat→Prop} {E':aK σ} {w:World} {w':World} (h:RE R L S E' w') (hf:Fr L.own w w') {w0:World} (hw:w'=w0):aF R L S w E' w0:=by
 subst hw
 refine ⟨h.mono (fun _ hk=>.inl hk) (fun k hk=>?_),hf⟩
 rcases hk with hk|hk
 ·exact h.lt k hk
 ·exact hk.2
theorem row.aF.of {σ:Type} {R:SR σ} {L:Lt} {S:Nat→Prop} {E':aK σ} {w:World} {w':World} (h:RE R L S E' w') (hf:Fr L.own w w') {w0:World} (hw:w'=w0):aF R L S w E' w0:=by
 subst hw
 refine ⟨h.mono (fun _ hk=>.inl hk) (fun k hk=>?_),hf⟩
 rcases hk with hk|hk
 ·exact h.lt k hk
 ·exact hk.2
def int.aF.cS:Prop:=∀ {σ:Type} {R:SR σ} {L:Lt} {S:Nat→Prop} {E':aK σ} {w:World} {zW:aK σ} {w1 w2:World} (_h:aF R L S w E' w1) (_h':aF R L (grown S w w1) w1 zW w2),aF R L S w zW w2
def list.aF.cS:Prop:=∀ {σ:Type} {R:SR σ} {L:Lt} {S:Nat→Prop} {E':aK σ} {w:World} {zW:aK σ} {w1 w2:World} (_h:aF R L S w E' w1) (_h':aF R L (grown S w w1) w1 zW w2),aF R L S w zW w2
def tree.aF.cS:Prop:=∀ {σ:Type} {R:SR σ} {L:Lt} {S:Nat→Prop} {E':aK σ} {w:World} {zW:aK σ} {w1 w2:World} (_h:aF R L S w E' w1) (_h':aF R L (grown S w w1) w1 zW w2),aF R L S w zW w2
def row.aF.cS:Prop:=∀ {σ:Type} {R:SR σ} {L:Lt} {S:Nat→Prop} {E':aK σ} {w:World} {zW:aK σ} {w1 w2:World} (_h:aF R L S w E' w1) (_h':aF R L (grown S w w1) w1 zW w2),aF R L S w zW w2
open row in
theorem nO:int.aF.cS∧list.aF.cS∧tree.aF.cS∧row.aF.cS:=by
 refine ⟨?_,?_,?_,?_⟩<;>intro σ R L S E' w zW w1 w2 h h'
 all_goals
  refine ⟨h'.re.mono (fun k hk=>?_) (fun k hk=>?_),h.fr.trans h'.fr⟩
  ·rcases hk with (hk|hk)|hk
   ·exact .inl hk
   ·exact .inr ⟨hk.1,Nat.lt_of_lt_of_le hk.2 h'.fr.size⟩
   ·exact .inr ⟨Nat.le_trans h.fr.size hk.1,hk.2⟩
  ·rcases hk with hk|hk
   ·exact h'.re.lt k (.inl (.inl hk))
   ·exact hk.2
theorem int.aF.next:cS:=nO.1
theorem list.aF.next:cS:=nO.2.1
theorem tree.aF.next:cS:=nO.2.2.1
theorem row.aF.next:cS:=nO.2.2.2
theorem int.aF.below {σ:Type} {R:SR σ} {L:Lt} {S:Nat→Prop} {E:aK σ} {w:World} (h:RE R L S E w) {w1:World} (hb:Below w.heap.size w w1):aF R L S w E w1:=⟨h.below hb,Fr.cQ hb⟩
theorem list.aF.below {σ:Type} {R:SR σ} {L:Lt} {S:Nat→Prop} {E:aK σ} {w:World} (h:RE R L S E w) {w1:World} (hb:Below w.heap.size w w1):aF R L S w E w1:=⟨h.below hb,Fr.cQ hb⟩
theorem tree.aF.below {σ:Type} {R:SR σ} {L:Lt} {S:Nat→Prop} {E:aK σ} {w:World} (h:RE R L S E w) {w1:World} (hb:Below w.heap.size w w1):aF R L S w E w1:=⟨h.below hb,Fr.cQ hb⟩
theorem row.aF.below {σ:Type} {R:SR σ} {L:Lt} {S:Nat→Prop} {E:aK σ} {w:World} (h:RE R L S E w) {w1:World} (hb:Below w.heap.size w w1):aF R L S w E w1:=⟨h.below hb,Fr.cQ hb⟩
theorem int.RE.drew {σ:Type} {R:SR σ} {L:Lt} {S:Nat→Prop} {E:aK σ} {w:World} (h:RE R L S E w):RE R L S E w.drew:=h.stay (fun _ _=>rfl) (fun _ hk=>hk) h.lt
theorem list.RE.drew {σ:Type} {R:SR σ} {L:Lt} {S:Nat→Prop} {E:aK σ} {w:World} (h:RE R L S E w):RE R L S E w.drew:=h.stay (fun _ _=>rfl) (fun _ hk=>hk) h.lt
theorem tree.RE.drew {σ:Type} {R:SR σ} {L:Lt} {S:Nat→Prop} {E:aK σ} {w:World} (h:RE R L S E w):RE R L S E w.drew:=h.stay (fun _ _=>rfl) (fun _ hk=>hk) h.lt
theorem row.RE.drew {σ:Type} {R:SR σ} {L:Lt} {S:Nat→Prop} {E:aK σ} {w:World} (h:RE R L S E w):RE R L S E w.drew:=h.stay (fun _ _=>rfl) (fun _ hk=>hk) h.lt
theorem int.RE.cast {σ:Type} {R:SR σ} {L:Lt} {S:Nat→Prop} {E E':aK σ} {w:World} (h:RE R L S E w) (e:E=E'):RE R L S E' w:=e▸h
theorem list.RE.cast {σ:Type} {R:SR σ} {L:Lt} {S:Nat→Prop} {E E':aK σ} {w:World} (h:RE R L S E w) (e:E=E'):RE R L S E' w:=e▸h
theorem tree.RE.cast {σ:Type} {R:SR σ} {L:Lt} {S:Nat→Prop} {E E':aK σ} {w:World} (h:RE R L S E w) (e:E=E'):RE R L S E' w:=e▸h
theorem row.RE.cast {σ:Type} {R:SR σ} {L:Lt} {S:Nat→Prop} {E E':aK σ} {w:World} (h:RE R L S E w) (e:E=E'):RE R L S E' w:=e▸h
theorem int.aF.cast {σ:Type} {R:SR σ} {L:Lt} {S:Nat→Prop} {E':aK σ} {w:World} {zW:aK σ} {w1:World} (h:aF R L S w E' w1) (e:E'=zW):aF R L S w zW w1:=e▸h
theorem list.aF.cast {σ:Type} {R:SR σ} {L:Lt} {S:Nat→Prop} {E':aK σ} {w:World} {zW:aK σ} {w1:World} (h:aF R L S w E' w1) (e:E'=zW):aF R L S w zW w1:=e▸h
theorem tree.aF.cast {σ:Type} {R:SR σ} {L:Lt} {S:Nat→Prop} {E':aK σ} {w:World} {zW:aK σ} {w1:World} (h:aF R L S w E' w1) (e:E'=zW):aF R L S w zW w1:=e▸h
theorem row.aF.cast {σ:Type} {R:SR σ} {L:Lt} {S:Nat→Prop} {E':aK σ} {w:World} {zW:aK σ} {w1:World} (h:aF R L S w E' w1) (e:E'=zW):aF R L S w zW w1:=e▸h
theorem int.kE {L:Lt}:L.own L.g:=.inr (.inr (.inr (.inr (.inr (.inl rfl)))))
theorem int.RE.cells {σ:Type} {R:SR σ} {L:Lt} {S:Nat→Prop} {E:aK σ} {w:World} {t:Nat} (h:RE R L S E w) (ht:t<L.n) {e:aS σ} (he:E.th t=e):∃ cv cf pv,(∀ j v,j<28→(aO L t e cv cf pv)[j]?=some v→w.cell? ⟨L.g,t*28+j,none⟩=some v)∧iN R (fun k=>S k∧¬L.own k) w e.now cv∧iN R (fun k=>S k∧¬L.own k) w e.cC cf∧kD (fun k=>S k∧¬L.own k) w e.aI pv∧∀ o,w.frozen? ⟨L.g,o,none⟩=false:=by
 subst he
 obtain ⟨T,h1,h2⟩:=h.th
 obtain ⟨cv,cf,pv,q⟩:=h2 t ht
 exact ⟨cv,cf,pv,fun j v hj hv=>by rw [h1.cell (Nat.lt_of_lt_of_le ht h.ok.gn) hj,q.like j v hv],q.now,q.cC,q.aI,h1.frozen⟩
theorem list.RE.cells {σ:Type} {R:SR σ} {L:Lt} {S:Nat→Prop} {E:aK σ} {w:World} {t:Nat} (h:RE R L S E w) (ht:t<L.n) {e:aS σ} (he:E.th t=e):∃ cv cf pv,(∀ j v,j<28→(aO L t e cv cf pv)[j]?=some v→w.cell? ⟨L.g,t*28+j,none⟩=some v)∧iN R (fun k=>S k∧¬L.own k) w e.now cv∧iN R (fun k=>S k∧¬L.own k) w e.cC cf∧kD (fun k=>S k∧¬L.own k) w e.aI pv∧∀ o,w.frozen? ⟨L.g,o,none⟩=false:=by
 subst he
 obtain ⟨T,h1,h2⟩:=h.th
 obtain ⟨cv,cf,pv,q⟩:=h2 t ht
 exact ⟨cv,cf,pv,fun j v hj hv=>by rw [h1.cell (Nat.lt_of_lt_of_le ht h.ok.gn) hj,q.like j v hv],q.now,q.cC,q.aI,h1.frozen⟩
theorem tree.RE.cells {σ:Type} {R:SR σ} {L:Lt} {S:Nat→Prop} {E:aK σ} {w:World} {t:Nat} (h:RE R L S E w) (ht:t<L.n) {e:aS σ} (he:E.th t=e):∃ cv cf pv,(∀ j v,j<28→(aO L t e cv cf pv)[j]?=some v→w.cell? ⟨L.g,t*28+j,none⟩=some v)∧iN R (fun k=>S k∧¬L.own k) w e.now cv∧iN R (fun k=>S k∧¬L.own k) w e.cC cf∧kD (fun k=>S k∧¬L.own k) w e.aI pv∧∀ o,w.frozen? ⟨L.g,o,none⟩=false:=by
 subst he
 obtain ⟨T,h1,h2⟩:=h.th
 obtain ⟨cv,cf,pv,q⟩:=h2 t ht
 exact ⟨cv,cf,pv,fun j v hj hv=>by rw [h1.cell (Nat.lt_of_lt_of_le ht h.ok.gn) hj,q.like j v hv],q.now,q.cC,q.aI,h1.frozen⟩
theorem row.RE.cells {σ:Type} {R:SR σ} {L:Lt} {S:Nat→Prop} {E:aK σ} {w:World} {t:Nat} (h:RE R L S E w) (ht:t<L.n) {e:aS σ} (he:E.th t=e):∃ cv cf pv,(∀ j v,j<30→(aO L t e cv cf pv)[j]?=some v→w.cell? ⟨L.g,t*30+j,none⟩=some v)∧iN R (fun k=>S k∧¬L.own k) w e.now cv∧iN R (fun k=>S k∧¬L.own k) w e.cC cf∧kD (fun k=>S k∧¬L.own k) w e.aI pv∧∀ o,w.frozen? ⟨L.g,o,none⟩=false:=by
 subst he
 obtain ⟨T,h1,h2⟩:=h.th
 obtain ⟨cv,cf,pv,q⟩:=h2 t ht
 exact ⟨cv,cf,pv,fun j v hj hv=>by rw [h1.cell (Nat.lt_of_lt_of_le ht h.ok.gn) hj,q.like j v hv],q.now,q.cC,q.aI,h1.frozen⟩
def int.gR:Prop:=∀ {σ:Type} {R:SR σ} {L:Lt} {S:Nat→Prop} {E:aK σ} {w:World} {t:Nat} (_h:RE R L S E w) (_ht:t<L.n) (p:Nat),Calls Tryz.prog 127 #[.pointer (some ⟨L.g,t*28,none⟩),.int .i64 (p:Int)] w fun e w'=>e = .returned (.tuple #[])∧RE R L S {E with th:=aH E.th t ((E.th t).enter p)} w'∧Fr L.own w w'
def list.gR:Prop:=∀ {σ:Type} {R:SR σ} {L:Lt} {S:Nat→Prop} {E:aK σ} {w:World} {t:Nat} (_h:RE R L S E w) (_ht:t<L.n) (p:Nat),Calls Tryz.prog 187 #[.pointer (some ⟨L.g,t*28,none⟩),.int .i64 (p:Int)] w fun e w'=>e = .returned (.tuple #[])∧RE R L S {E with th:=aH E.th t ((E.th t).enter p)} w'∧Fr L.own w w'
def tree.gR:Prop:=∀ {σ:Type} {R:SR σ} {L:Lt} {S:Nat→Prop} {E:aK σ} {w:World} {t:Nat} (_h:RE R L S E w) (_ht:t<L.n) (p:Nat),Calls Tryz.prog 261 #[.pointer (some ⟨L.g,t*28,none⟩),.int .i64 (p:Int)] w fun e w'=>e = .returned (.tuple #[])∧RE R L S {E with th:=aH E.th t ((E.th t).enter p)} w'∧Fr L.own w w'
def row.gR:Prop:=∀ {σ:Type} {R:SR σ} {L:Lt} {S:Nat→Prop} {E:aK σ} {w:World} {t:Nat} (_h:RE R L S E w) (_ht:t<L.n) (p:Nat),Calls Tryz.prog 224 #[.pointer (some ⟨L.g,t*30,none⟩),.int .i64 (p:Int)] w fun e w'=>e = .returned (.tuple #[])∧RE R L S {E with th:=aH E.th t ((E.th t).enter p)} w'∧Fr L.own w w'
open row in
theorem uA:int.gR∧list.gR∧tree.gR∧row.gR:=by
 refine ⟨@mkK _ 0 ?_,@mkK _ 1 ?_,@mkK _ 2 ?_,@mkK _ 3 ?_⟩<;>intro kk σ R L S E w t h ht p
 all_goals
  obtain ⟨cv,cf,pv,hc,-,-,-,hf⟩:=h.cells ht rfl
  have c3:=hc 3 _ (by decide) rfl
  have c4:=hc 4 _ (by decide) rfl
  first|(have _:Kn 0:=kk;have f3:=hf (t*28+3))|(have _:Kn 1:=kk;have f3:=hf (t*28+3))|(have _:Kn 2:=kk;have f3:=hf (t*28+3))|(have _:Kn 3:=kk;have f3:=hf (t*30+3))
  first|(have _:Kn 0:=kk;have f4:=hf (t*28+4))|(have _:Kn 1:=kk;have f4:=hf (t*28+4))|(have _:Kn 2:=kk;have f4:=hf (t*28+4))|(have _:Kn 3:=kk;have f4:=hf (t*30+4))
  have HH:=aA h
  clear h hc hf
  first|(have _:Kn 0:=kk;go_enter Tryz.func127,Tryz.ntmps127)|(have _:Kn 1:=kk;go_enter Tryz.func187,Tryz.ntmps187)|(have _:Kn 2:=kk;go_enter Tryz.func261,Tryz.ntmps261)|(have _:Kn 3:=kk;go_enter Tryz.func224,Tryz.ntmps224)
  go_wp2
  refine bodyPost_end (v:=.tuple #[]) (by simp [results,Tryz.results127,Tryz.results187,Tryz.results261,Tryz.results224,go_sem]) rfl ⟨rfl,?_,?_⟩
  ·have h1:=HH.out.lG t ht 3 (by decide) (.int .i64 (p:Int)) {E.th t with phase:=p} rfl rfl rfl rfl rfl (by intros;rfl)
   have h2:=h1.lG t ht 4 (by decide) (.int .i64 0) {E.th t with phase:=p,past:=0} (by simp [aC]) (by simp [aC]) (by simp [aC]) (by simp [aC]) (by simp [aC]) (by intros;simp only [aC];rfl)
   refine h2.cast ?_
   simp only [bR]
   rfl
  ·exact (Fr.set w kE _).trans (Fr.set _ kE _)
theorem int.fZ:gR:=uA.1
theorem list.fZ:gR:=uA.2.1
theorem tree.fZ:gR:=uA.2.2.1
theorem row.fZ:gR:=uA.2.2.2
theorem int.RE.fM {σ:Type} {R:SR σ} {L:Lt} {S:Nat→Prop} {E:aK σ} {w:World} {t:Nat} (h:RE R L S E w) (ht:t<L.n) (j:Nat) (hj:j<28) (v:Value) (e':aS σ) (hd:e'.dw=(E.th t).dw) (hg:e'.tg=(E.th t).tg) (hn:e'.now=(E.th t).now) (hf:e'.cC=(E.th t).cC) (hp:e'.aI=(E.th t).aI) (wI:∀ c0 c1 d0 d1 pv,(aO L t (E.th t) [c0,c1] [d0,d1] pv).set j v=aO L t e' [c0,c1] [d0,d1] pv) :
  RE R L S {E with th:=aH E.th t e'} (w.setCell ⟨L.g,t*28+j,none⟩ v)∧Fr L.own w (w.setCell ⟨L.g,t*28+j,none⟩ v) :=
 ⟨h.lG t ht j hj v e' hd hg hn hf hp wI,Fr.set w kE _⟩
theorem list.RE.fM {σ:Type} {R:SR σ} {L:Lt} {S:Nat→Prop} {E:aK σ} {w:World} {t:Nat} (h:RE R L S E w) (ht:t<L.n) (j:Nat) (hj:j<28) (v:Value) (e':aS σ) (hd:e'.dw=(E.th t).dw) (hg:e'.tg=(E.th t).tg) (hn:e'.now=(E.th t).now) (hf:e'.cC=(E.th t).cC) (hp:e'.aI=(E.th t).aI) (wI:∀ c0 c1 d0 d1 pv,(aO L t (E.th t) [c0,c1] [d0,d1] pv).set j v=aO L t e' [c0,c1] [d0,d1] pv) :
  RE R L S {E with th:=aH E.th t e'} (w.setCell ⟨L.g,t*28+j,none⟩ v)∧Fr L.own w (w.setCell ⟨L.g,t*28+j,none⟩ v) :=
 ⟨h.lG t ht j hj v e' hd hg hn hf hp wI,Fr.set w kE _⟩
theorem tree.RE.fM {σ:Type} {R:SR σ} {L:Lt} {S:Nat→Prop} {E:aK σ} {w:World} {t:Nat} (h:RE R L S E w) (ht:t<L.n) (j:Nat) (hj:j<28) (v:Value) (e':aS σ) (hd:e'.dw=(E.th t).dw) (hg:e'.tg=(E.th t).tg) (hn:e'.now=(E.th t).now) (hf:e'.cC=(E.th t).cC) (hp:e'.aI=(E.th t).aI) (wI:∀ c0 c1 d0 d1 pv,(aO L t (E.th t) [c0,c1] [d0,d1] pv).set j v=aO L t e' [c0,c1] [d0,d1] pv) :
  RE R L S {E with th:=aH E.th t e'} (w.setCell ⟨L.g,t*28+j,none⟩ v)∧Fr L.own w (w.setCell ⟨L.g,t*28+j,none⟩ v) :=
 ⟨h.lG t ht j hj v e' hd hg hn hf hp wI,Fr.set w kE _⟩
theorem row.RE.fM {σ:Type} {R:SR σ} {L:Lt} {S:Nat→Prop} {E:aK σ} {w:World} {t:Nat} (h:RE R L S E w) (ht:t<L.n) (j:Nat) (hj:j<30) (v:Value) (e':aS σ) (hd:e'.dw=(E.th t).dw) (hg:e'.tg=(E.th t).tg) (hn:e'.now=(E.th t).now) (hf:e'.cC=(E.th t).cC) (hp:e'.aI=(E.th t).aI) (wI:∀ c0 c1 c2 d0 d1 d2 pv,(aO L t (E.th t) [c0,c1,c2] [d0,d1,d2] pv).set j v=aO L t e' [c0,c1,c2] [d0,d1,d2] pv) :
  RE R L S {E with th:=aH E.th t e'} (w.setCell ⟨L.g,t*30+j,none⟩ v)∧Fr L.own w (w.setCell ⟨L.g,t*30+j,none⟩ v) :=
 ⟨h.lG t ht j hj v e' hd hg hn hf hp wI,Fr.set w kE _⟩
def int.jD:Prop:=∀ {σ:Type} {R:SR σ} {L:Lt} {S:Nat→Prop} {E:aK σ} {w:World} {t:Nat} (_h:RE R L S E w) (_ht:t<L.n) (steps p:Nat) (_hs:steps≤1000000) (_hq:(E.th t).past≤1000000),Calls Tryz.prog 116 #[.pointer (some ⟨L.g,t*28,none⟩),.int .i64 (steps:Int),.int .i64 (p:Int)] w fun e w'=>e = .returned (.tuple #[])∧RE R L S {E with th:=aH E.th t ((E.th t).pass steps p)} w'∧Fr L.own w w'
def list.jD:Prop:=∀ {σ:Type} {R:SR σ} {L:Lt} {S:Nat→Prop} {E:aK σ} {w:World} {t:Nat} (_h:RE R L S E w) (_ht:t<L.n) (steps p:Nat) (_hs:steps≤1000000) (_hq:(E.th t).past≤1000000),Calls Tryz.prog 176 #[.pointer (some ⟨L.g,t*28,none⟩),.int .i64 (steps:Int),.int .i64 (p:Int)] w fun e w'=>e = .returned (.tuple #[])∧RE R L S {E with th:=aH E.th t ((E.th t).pass steps p)} w'∧Fr L.own w w'
def tree.jD:Prop:=∀ {σ:Type} {R:SR σ} {L:Lt} {S:Nat→Prop} {E:aK σ} {w:World} {t:Nat} (_h:RE R L S E w) (_ht:t<L.n) (steps p:Nat) (_hs:steps≤1000000) (_hq:(E.th t).past≤1000000),Calls Tryz.prog 250 #[.pointer (some ⟨L.g,t*28,none⟩),.int .i64 (steps:Int),.int .i64 (p:Int)] w fun e w'=>e = .returned (.tuple #[])∧RE R L S {E with th:=aH E.th t ((E.th t).pass steps p)} w'∧Fr L.own w w'
def row.jD:Prop:=∀ {σ:Type} {R:SR σ} {L:Lt} {S:Nat→Prop} {E:aK σ} {w:World} {t:Nat} (_h:RE R L S E w) (_ht:t<L.n) (steps p:Nat) (_hs:steps≤1000000) (_hq:(E.th t).past≤1000000),Calls Tryz.prog 213 #[.pointer (some ⟨L.g,t*30,none⟩),.int .i64 (steps:Int),.int .i64 (p:Int)] w fun e w'=>e = .returned (.tuple #[])∧RE R L S {E with th:=aH E.th t ((E.th t).pass steps p)} w'∧Fr L.own w w'
open row in
theorem wK:int.jD∧list.jD∧tree.jD∧row.jD:=by
 refine ⟨@mkK _ 0 ?_,@mkK _ 1 ?_,@mkK _ 2 ?_,@mkK _ 3 ?_⟩<;>intro kk σ R L S E w t h ht steps p hs hq
 all_goals
  obtain ⟨cv,cf,pv,hc,-,-,-,hf⟩:=h.cells ht rfl
  have c4:=hc 4 _ (by decide) rfl
  first|(have _:Kn 0:=kk;have f4:=hf (t*28+4))|(have _:Kn 1:=kk;have f4:=hf (t*28+4))|(have _:Kn 2:=kk;have f4:=hf (t*28+4))|(have _:Kn 3:=kk;have f4:=hf (t*30+4))
  obtain ⟨h1,k1⟩:=h.fM ht 4 (by decide) (.int .i64 (((E.th t).past:Int)+1)) {E.th t with past:=(E.th t).past+1} rfl rfl rfl rfl rfl (by intros;rfl)
  have HH:=aA h1
  have HK:=aA k1
  clear h hc hf h1 k1
  by_cases he:(E.th t).past+1=steps
  ·have UL:=aA (show (E.th t).pass steps p=(E.th t).enter p by unfold aS.pass;rw [if_pos he])
   have he1:((E.th t).past:Int)+1≤(steps:Int):=by omega
   have he2:(steps:Int)≤((E.th t).past:Int)+1:=by omega
   clear he
   first|(have _:Kn 0:=kk;go_enter Tryz.func116,Tryz.ntmps116)|(have _:Kn 1:=kk;go_enter Tryz.func176,Tryz.ntmps176)|(have _:Kn 2:=kk;go_enter Tryz.func250,Tryz.ntmps250)|(have _:Kn 3:=kk;go_enter Tryz.func213,Tryz.ntmps213)
   go_wp2_with fail
   refine (fZ HH.out ht p).mono ?_
   rintro e w1 ⟨rfl,r1,k2⟩
   have HR:=aA r1
   have HK2:=aA k2
   clear r1 k2
   go_wp2
   refine bodyPost_end (v:=.tuple #[]) (by simp [results,Tryz.results116,Tryz.results176,Tryz.results250,Tryz.results213,go_sem]) rfl ⟨rfl,?_,HK.out.trans HK2.out⟩
   refine HR.out.cast ?_
   rw [UL.out]
   simp only [bR,aC]
   rfl
  ·have he':¬((E.th t).past:Int)+1=(steps:Int):=by omega
   have UL:=aA (show (E.th t).pass steps p = {E.th t with past:=(E.th t).past+1} by unfold aS.pass;rw [if_neg he])
   first|(have _:Kn 0:=kk;go_enter Tryz.func116,Tryz.ntmps116)|(have _:Kn 1:=kk;go_enter Tryz.func176,Tryz.ntmps176)|(have _:Kn 2:=kk;go_enter Tryz.func250,Tryz.ntmps250)|(have _:Kn 3:=kk;go_enter Tryz.func213,Tryz.ntmps213)
   go_wp2
   refine bodyPost_end (v:=.tuple #[]) (by simp [results,Tryz.results116,Tryz.results176,Tryz.results250,Tryz.results213,go_sem]) rfl ⟨rfl,?_,HK.out⟩
   rw [UL.out]
   exact HH.out
theorem int.jZ:jD:=wK.1
theorem list.jZ:jD:=wK.2.1
theorem tree.jZ:jD:=wK.2.2.1
theorem row.jZ:jD:=wK.2.2.2
def int.dV:Prop:=∀ {σ:Type} {R:SR σ} {L:Lt} {S:Nat→Prop} {E:aK σ} {w:World} {t:Nat} (_h:RE R L S E w) (_ht:t<L.n),Calls Tryz.prog 133 #[.pointer (some ⟨L.g,t*28,none⟩)] w fun e w'=>e = .returned (.tuple #[])∧RE R L S {E with th:=aH E.th t (E.th t).bO} w'∧Fr L.own w w'
def list.dV:Prop:=∀ {σ:Type} {R:SR σ} {L:Lt} {S:Nat→Prop} {E:aK σ} {w:World} {t:Nat} (_h:RE R L S E w) (_ht:t<L.n),Calls Tryz.prog 189 #[.pointer (some ⟨L.g,t*28,none⟩)] w fun e w'=>e = .returned (.tuple #[])∧RE R L S {E with th:=aH E.th t (E.th t).bO} w'∧Fr L.own w w'
def tree.dV:Prop:=∀ {σ:Type} {R:SR σ} {L:Lt} {S:Nat→Prop} {E:aK σ} {w:World} {t:Nat} (_h:RE R L S E w) (_ht:t<L.n),Calls Tryz.prog 263 #[.pointer (some ⟨L.g,t*28,none⟩)] w fun e w'=>e = .returned (.tuple #[])∧RE R L S {E with th:=aH E.th t (E.th t).bO} w'∧Fr L.own w w'
def row.dV:Prop:=∀ {σ:Type} {R:SR σ} {L:Lt} {S:Nat→Prop} {E:aK σ} {w:World} {t:Nat} (_h:RE R L S E w) (_ht:t<L.n),Calls Tryz.prog 226 #[.pointer (some ⟨L.g,t*30,none⟩)] w fun e w'=>e = .returned (.tuple #[])∧RE R L S {E with th:=aH E.th t (E.th t).bO} w'∧Fr L.own w w'
open row in
theorem nP:int.dV∧list.dV∧tree.dV∧row.dV:=by
 refine ⟨@mkK _ 0 ?_,@mkK _ 1 ?_,@mkK _ 2 ?_,@mkK _ 3 ?_⟩<;>intro kk σ R L S E w t h ht
 all_goals
  obtain ⟨cv,cf,pv,hc,-,-,-,-⟩:=h.cells ht rfl
  have c9:=hc 9 _ (by decide) rfl
  have HH:=aA h
  clear h hc
  by_cases he:0<(E.th t).aG
  ·have he':(0:Int)<((E.th t).aG:Int):=by omega
   rw [show (E.th t).bO=(E.th t).enter 3 by unfold aS.bO;rw [if_pos he]]
   first|(have _:Kn 0:=kk;go_enter Tryz.func133,Tryz.ntmps133)|(have _:Kn 1:=kk;go_enter Tryz.func189,Tryz.ntmps189)|(have _:Kn 2:=kk;go_enter Tryz.func263,Tryz.ntmps263)|(have _:Kn 3:=kk;go_enter Tryz.func226,Tryz.ntmps226)
   go_wp2_with fail
   refine (fZ HH.out ht 3).mono ?_
   rintro e w1 ⟨rfl,r1,k2⟩
   have HR:=aA (And.intro r1 k2)
   clear r1 k2
   go_wp2
   exact bodyPost_end (v:=.tuple #[]) (by simp [results,Tryz.results133,Tryz.results189,Tryz.results263,Tryz.results226,go_sem]) rfl ⟨rfl,HR.out⟩
  ·have he':¬(0:Int)<((E.th t).aG:Int):=by omega
   rw [show (E.th t).bO=(E.th t).enter 4 by unfold aS.bO;rw [if_neg he]]
   first|(have _:Kn 0:=kk;go_enter Tryz.func133,Tryz.ntmps133)|(have _:Kn 1:=kk;go_enter Tryz.func189,Tryz.ntmps189)|(have _:Kn 2:=kk;go_enter Tryz.func263,Tryz.ntmps263)|(have _:Kn 3:=kk;go_enter Tryz.func226,Tryz.ntmps226)
   go_wp2_with fail
   refine (fZ HH.out ht 4).mono ?_
   rintro e w1 ⟨rfl,r1,k2⟩
   have HR:=aA (And.intro r1 k2)
   clear r1 k2
   go_wp2
   exact bodyPost_end (v:=.tuple #[]) (by simp [results,Tryz.results133,Tryz.results189,Tryz.results263,Tryz.results226,go_sem]) rfl ⟨rfl,HR.out⟩
theorem int.mA:dV:=nP.1
theorem list.mA:dV:=nP.2.1
theorem tree.mA:dV:=nP.2.2.1
theorem row.mA:dV:=nP.2.2.2
def int.jE:Prop:=∀ {σ:Type} {R:SR σ} {L:Lt} {S:Nat→Prop} {E:aK σ} {w:World} {t:Nat} (_h:RE R L S E w) (_ht:t<L.n) (_hb:(E.th t).aG≤L.cap),Calls Tryz.prog 139 #[.pointer (some ⟨L.g,t*28,none⟩)] w fun e w'=>e = .returned (.tuple #[])∧RE R L S {E with th:=aH E.th t ((E.th t).fail L.cap)} w'∧Fr L.own w w'
def list.jE:Prop:=∀ {σ:Type} {R:SR σ} {L:Lt} {S:Nat→Prop} {E:aK σ} {w:World} {t:Nat} (_h:RE R L S E w) (_ht:t<L.n) (_hb:(E.th t).aG≤L.cap),Calls Tryz.prog 191 #[.pointer (some ⟨L.g,t*28,none⟩)] w fun e w'=>e = .returned (.tuple #[])∧RE R L S {E with th:=aH E.th t ((E.th t).fail L.cap)} w'∧Fr L.own w w'
def tree.jE:Prop:=∀ {σ:Type} {R:SR σ} {L:Lt} {S:Nat→Prop} {E:aK σ} {w:World} {t:Nat} (_h:RE R L S E w) (_ht:t<L.n) (_hb:(E.th t).aG≤L.cap),Calls Tryz.prog 265 #[.pointer (some ⟨L.g,t*28,none⟩)] w fun e w'=>e = .returned (.tuple #[])∧RE R L S {E with th:=aH E.th t ((E.th t).fail L.cap)} w'∧Fr L.own w w'
def row.jE:Prop:=∀ {σ:Type} {R:SR σ} {L:Lt} {S:Nat→Prop} {E:aK σ} {w:World} {t:Nat} (_h:RE R L S E w) (_ht:t<L.n) (_hb:(E.th t).aG≤L.cap),Calls Tryz.prog 228 #[.pointer (some ⟨L.g,t*30,none⟩)] w fun e w'=>e = .returned (.tuple #[])∧RE R L S {E with th:=aH E.th t ((E.th t).fail L.cap)} w'∧Fr L.own w w'
open row in
theorem wL:int.jE∧list.jE∧tree.jE∧row.jE:=by
 refine ⟨@mkK _ 0 ?_,@mkK _ 1 ?_,@mkK _ 2 ?_,@mkK _ 3 ?_⟩<;>intro kk σ R L S E w t h ht hb
 all_goals
  obtain ⟨cv,cf,pv,hc,-,-,-,hf⟩:=h.cells ht rfl
  have c2:=hc 2 _ (by decide) rfl
  have c9:=hc 9 _ (by decide) rfl
  have c10:=hc 10 _ (by decide) rfl
  first|(have _:Kn 0:=kk;have f9:=hf (t*28+9))|(have _:Kn 1:=kk;have f9:=hf (t*28+9))|(have _:Kn 2:=kk;have f9:=hf (t*28+9))|(have _:Kn 3:=kk;have f9:=hf (t*30+9))
  first|(have _:Kn 0:=kk;have f10:=hf (t*28+10))|(have _:Kn 1:=kk;have f10:=hf (t*28+10))|(have _:Kn 2:=kk;have f10:=hf (t*28+10))|(have _:Kn 3:=kk;have f10:=hf (t*30+10))
  have hcap:=h.ok.WU
  obtain ⟨h1,k1⟩:=h.fM ht 9 (by decide) (.int .i64 ((min (2*(E.th t).aG+1) L.cap:Nat):Int)) {E.th t with aG:=min (2*(E.th t).aG+1) L.cap} rfl rfl rfl rfl rfl (by intros;rfl)
  have HH:=aA h1
  have HK:=aA k1
  have hmin:=aA (show (if (L.cap:Int)<2*((E.th t).aG:Int)+1 then (L.cap:Int) else 2*((E.th t).aG:Int)+1)=((min (2*(E.th t).aG+1) L.cap:Nat):Int) by split<;>omega)
  clear h hc hf h1 k1
  first|(have _:Kn 0:=kk;go_enter Tryz.func139,Tryz.ntmps139)|(have _:Kn 1:=kk;go_enter Tryz.func191,Tryz.ntmps191)|(have _:Kn 2:=kk;go_enter Tryz.func265,Tryz.ntmps265)|(have _:Kn 3:=kk;go_enter Tryz.func228,Tryz.ntmps228)
  go_wp2
  go_region
  rw [hmin.out]
  generalize tG:World.drew _=W1
  have WV:RE R L S {E with th:=aH E.th t {E.th t with aG:=min (2*(E.th t).aG+1) L.cap}} W1:=by rw [←tG];exact HH.out.drew
  have LS:Fr L.own w W1:=by rw [←tG];exact HK.out.drew
  clear tG
  obtain ⟨cv1,cf1,pv1,hc1,-,-,-,hf1⟩:=WV.cells ht (aC _ _ _)
  have d10:=hc1 10 _ (by decide) rfl
  first|(have _:Kn 0:=kk;have g10:=hf1 (t*28+10))|(have _:Kn 1:=kk;have g10:=hf1 (t*28+10))|(have _:Kn 2:=kk;have g10:=hf1 (t*28+10))|(have _:Kn 3:=kk;have g10:=hf1 (t*30+10))
  have uX:=aA WV
  have YG:=aA LS
  clear WV LS hc1 hf1 c10 f10
  by_cases ha:(E.th t).again=true
  ·have hfl:=aA (show (E.th t).fail L.cap=aS.enter {E.th t with aG:=min (2*(E.th t).aG+1) L.cap} 11 by unfold aS.fail;rw [if_pos ha])
   go_wp2_with fail
   refine (fZ uX.out ht 11).mono ?_
   rintro e w1 ⟨rfl,r1,k2⟩
   have HR:=aA (And.intro r1 k2)
   clear r1 k2
   go_wp2
   refine bodyPost_ret (v:=.tuple #[]) (by simp [results,Tryz.results139,Tryz.results191,Tryz.results265,Tryz.results228,go_sem]) rfl ⟨rfl,HR.out.1.cast ?_,YG.out.trans HR.out.2⟩
   rw [hfl.out]
   simp only [bR,aC]
  ·have ha':(E.th t).again=false:=by simpa using ha
   have hfl:=aA (show (E.th t).fail L.cap=aS.bO {E.th t with aG:=min (2*(E.th t).aG+1) L.cap,again:=true} by unfold aS.fail;rw [if_neg ha])
   obtain ⟨h2,k2⟩:=uX.out.fM ht 10 (by decide) (.bool true) {E.th t with aG:=min (2*(E.th t).aG+1) L.cap,again:=true} (by simp [aC]) (by simp [aC]) (by simp [aC]) (by simp [aC]) (by simp [aC]) (by intros;simp only [aC];rfl)
   have HR2:=aA h2
   have HK2:=aA k2
   clear h2 k2
   go_wp2_with fail
   refine (mA HR2.out ht).mono ?_
   rintro e w1 ⟨rfl,r1,k3⟩
   have HR:=aA (And.intro r1 k3)
   clear r1 k3
   go_wp2
   refine bodyPost_end (v:=.tuple #[]) (by simp [results,Tryz.results139,Tryz.results191,Tryz.results265,Tryz.results228,go_sem]) rfl ⟨rfl,HR.out.1.cast ?_,(YG.out.trans HK2.out).trans HR.out.2⟩
   rw [hfl.out]
   simp only [bR,aC]
theorem int.BV:jE:=wL.1
theorem list.BV:jE:=wL.2.1
theorem tree.BV:jE:=wL.2.2.1
theorem row.BV:jE:=wL.2.2.2
def int.eN:Prop:=∀ {σ:Type} {R:SR σ} {L:Lt} {S:Nat→Prop} {E:aK σ} {w:World} {t:Nat} (_h:RE R L S E w) (_ht:t<L.n) (_hb:(E.th t).aG≤64),Calls Tryz.prog 147 #[.pointer (some ⟨L.g,t*28,none⟩)] w fun e w'=>e = .returned (.tuple #[])∧RE R L S {E with th:=aH E.th t (aS.enter {E.th t with aG:=(E.th t).aG / 2} 11)} w'∧Fr L.own w w'
def list.eN:Prop:=∀ {σ:Type} {R:SR σ} {L:Lt} {S:Nat→Prop} {E:aK σ} {w:World} {t:Nat} (_h:RE R L S E w) (_ht:t<L.n) (_hb:(E.th t).aG≤64),Calls Tryz.prog 196 #[.pointer (some ⟨L.g,t*28,none⟩)] w fun e w'=>e = .returned (.tuple #[])∧RE R L S {E with th:=aH E.th t (aS.enter {E.th t with aG:=(E.th t).aG / 2} 11)} w'∧Fr L.own w w'
def tree.eN:Prop:=∀ {σ:Type} {R:SR σ} {L:Lt} {S:Nat→Prop} {E:aK σ} {w:World} {t:Nat} (_h:RE R L S E w) (_ht:t<L.n) (_hb:(E.th t).aG≤64),Calls Tryz.prog 270 #[.pointer (some ⟨L.g,t*28,none⟩)] w fun e w'=>e = .returned (.tuple #[])∧RE R L S {E with th:=aH E.th t (aS.enter {E.th t with aG:=(E.th t).aG / 2} 11)} w'∧Fr L.own w w'
def row.eN:Prop:=∀ {σ:Type} {R:SR σ} {L:Lt} {S:Nat→Prop} {E:aK σ} {w:World} {t:Nat} (_h:RE R L S E w) (_ht:t<L.n) (_hb:(E.th t).aG≤64),Calls Tryz.prog 233 #[.pointer (some ⟨L.g,t*30,none⟩)] w fun e w'=>e = .returned (.tuple #[])∧RE R L S {E with th:=aH E.th t (aS.enter {E.th t with aG:=(E.th t).aG / 2} 11)} w'∧Fr L.own w w'
open row in
theorem pS:int.eN∧list.eN∧tree.eN∧row.eN:=by
 refine ⟨@mkK _ 0 ?_,@mkK _ 1 ?_,@mkK _ 2 ?_,@mkK _ 3 ?_⟩<;>intro kk σ R L S E w t h ht hb
 all_goals
  obtain ⟨cv,cf,pv,hc,-,-,-,hf⟩:=h.cells ht rfl
  have c9:=hc 9 _ (by decide) rfl
  first|(have _:Kn 0:=kk;have f9:=hf (t*28+9))|(have _:Kn 1:=kk;have f9:=hf (t*28+9))|(have _:Kn 2:=kk;have f9:=hf (t*28+9))|(have _:Kn 3:=kk;have f9:=hf (t*30+9))
  obtain ⟨h1,k1⟩:=h.fM ht 9 (by decide) (.int .i64 (((E.th t).aG:Int) / 2)) {E.th t with aG:=(E.th t).aG / 2} rfl rfl rfl rfl rfl (by intros;rfl)
  have HH:=aA h1
  have HK:=aA k1
  clear h hc hf h1 k1
  first|(have _:Kn 0:=kk;go_enter Tryz.func147,Tryz.ntmps147)|(have _:Kn 1:=kk;go_enter Tryz.func196,Tryz.ntmps196)|(have _:Kn 2:=kk;go_enter Tryz.func270,Tryz.ntmps270)|(have _:Kn 3:=kk;go_enter Tryz.func233,Tryz.ntmps233)
  go_wp2_with fail
  refine (fZ HH.out ht 11).mono ?_
  rintro e w1 ⟨rfl,r1,k2⟩
  have HR:=aA (And.intro r1 k2)
  clear r1 k2
  go_wp2
  refine bodyPost_end (v:=.tuple #[]) (by simp [results,Tryz.results147,Tryz.results196,Tryz.results270,Tryz.results233,go_sem]) rfl ⟨rfl,HR.out.1.cast ?_,HK.out.trans HR.out.2⟩
  simp only [bR,aC]
theorem int.uB:eN:=pS.1
theorem list.uB:eN:=pS.2.1
theorem tree.uB:eN:=pS.2.2.1
theorem row.uB:eN:=pS.2.2.2
def int.jF:Prop:=∀ {σ:Type} {R:SR σ} {L:Lt} {S:Nat→Prop} {E:aK σ} {w:World} {t:Nat} (_h:RE R L S E w) (_ht:t<L.n),Calls Tryz.prog 117 #[.pointer (some ⟨L.g,t*28,none⟩)] w fun e w'=>e = .returned (.tuple #[])∧RE R L S {E with th:=aH E.th t (aS.enter {E.th t with stamp:=E.cZ,aQ:=E.prec} 5)} w'∧Fr L.own w w'
def list.jF:Prop:=∀ {σ:Type} {R:SR σ} {L:Lt} {S:Nat→Prop} {E:aK σ} {w:World} {t:Nat} (_h:RE R L S E w) (_ht:t<L.n),Calls Tryz.prog 177 #[.pointer (some ⟨L.g,t*28,none⟩)] w fun e w'=>e = .returned (.tuple #[])∧RE R L S {E with th:=aH E.th t (aS.enter {E.th t with stamp:=E.cZ,aQ:=E.prec} 5)} w'∧Fr L.own w w'
def tree.jF:Prop:=∀ {σ:Type} {R:SR σ} {L:Lt} {S:Nat→Prop} {E:aK σ} {w:World} {t:Nat} (_h:RE R L S E w) (_ht:t<L.n),Calls Tryz.prog 251 #[.pointer (some ⟨L.g,t*28,none⟩)] w fun e w'=>e = .returned (.tuple #[])∧RE R L S {E with th:=aH E.th t (aS.enter {E.th t with stamp:=E.cZ,aQ:=E.prec} 5)} w'∧Fr L.own w w'
def row.jF:Prop:=∀ {σ:Type} {R:SR σ} {L:Lt} {S:Nat→Prop} {E:aK σ} {w:World} {t:Nat} (_h:RE R L S E w) (_ht:t<L.n),Calls Tryz.prog 214 #[.pointer (some ⟨L.g,t*30,none⟩)] w fun e w'=>e = .returned (.tuple #[])∧RE R L S {E with th:=aH E.th t (aS.enter {E.th t with stamp:=E.cZ,aQ:=E.prec} 5)} w'∧Fr L.own w w'
open row in
theorem wM:int.jF∧list.jF∧tree.jF∧row.jF:=by
 refine ⟨@mkK _ 0 ?_,@mkK _ 1 ?_,@mkK _ 2 ?_,@mkK _ 3 ?_⟩<;>intro kk σ R L S E w t h ht
 all_goals
  obtain ⟨cv,cf,pv,hc,-,-,-,hf⟩:=h.cells ht rfl
  first|(have _:Kn 0:=kk;have c0:w.cell? ⟨L.g,t*28,none⟩=some (.pointer (some ⟨L.bS,0,none⟩)):=hc 0 _ (by decide) rfl)|(have _:Kn 1:=kk;have c0:w.cell? ⟨L.g,t*28,none⟩=some (.pointer (some ⟨L.bS,0,none⟩)):=hc 0 _ (by decide) rfl)|(have _:Kn 2:=kk;have c0:w.cell? ⟨L.g,t*28,none⟩=some (.pointer (some ⟨L.bS,0,none⟩)):=hc 0 _ (by decide) rfl)|(have _:Kn 3:=kk;have c0:w.cell? ⟨L.g,t*30,none⟩=some (.pointer (some ⟨L.bS,0,none⟩)):=hc 0 _ (by decide) rfl)
  have UM:=hc 13 _ (by decide) rfl
  first|(have _:Kn 0:=kk;have f13:=hf (t*28+13))|(have _:Kn 1:=kk;have f13:=hf (t*28+13))|(have _:Kn 2:=kk;have f13:=hf (t*28+13))|(have _:Kn 3:=kk;have f13:=hf (t*30+13))
  have s5:w.cell? ⟨L.bS,5,none⟩=some _:=h.sh.cell_of rfl
  obtain ⟨h1,k1⟩:=h.fM ht 13 (by decide) (.int .i64 ((E.cZ:Int)*129+(E.prec:Int))) {E.th t with stamp:=E.cZ,aQ:=E.prec} rfl rfl rfl rfl rfl (by intros;rfl)
  have HH:=aA h1
  have HK:=aA k1
  have HS:=aA s5
  clear h hc hf h1 k1 s5
  first|(have _:Kn 0:=kk;go_enter Tryz.func117,Tryz.ntmps117)|(have _:Kn 1:=kk;go_enter Tryz.func177,Tryz.ntmps177)|(have _:Kn 2:=kk;go_enter Tryz.func251,Tryz.ntmps251)|(have _:Kn 3:=kk;go_enter Tryz.func214,Tryz.ntmps214)
  go_wp2_with fail
  refine (tU L.bS 5 _ _ HS.out).mono ?_
  rintro e w1 ⟨rfl,rfl⟩
  go_wp2_with fail
  refine (fZ HH.out ht 5).mono ?_
  rintro e w1 ⟨rfl,r1,k2⟩
  have HR:=aA (And.intro r1 k2)
  clear r1 k2
  go_wp2
  refine bodyPost_end (v:=.tuple #[]) (by simp [results,Tryz.results117,Tryz.results177,Tryz.results251,Tryz.results214,go_sem]) rfl ⟨rfl,HR.out.1.cast ?_,HK.out.trans HR.out.2⟩
  simp only [bR,aC]
theorem int.BW:jF:=wM.1
theorem list.BW:jF:=wM.2.1
theorem tree.BW:jF:=wM.2.2.1
theorem row.BW:jF:=wM.2.2.2
def int.kQ:Prop:=∀ {σ:Type} {R:SR σ} {L:Lt} {S:Nat→Prop} {E:aK σ} {w:World} {t:Nat} (_h:RE R L S E w) (_ht:t<L.n) (_hp:E.prec<2*L.n+1) (_hN:E.cZ≤1000000000000),Calls Tryz.prog 124 #[.pointer (some ⟨L.g,t*28,none⟩)] w fun e w'=>e = .returned (.tuple #[])∧RE R L S {E with th:=aH E.th t (aS.enter {E.th t with found:=E.prec} 12)} w'∧Fr L.own w w'
def list.kQ:Prop:=∀ {σ:Type} {R:SR σ} {L:Lt} {S:Nat→Prop} {E:aK σ} {w:World} {t:Nat} (_h:RE R L S E w) (_ht:t<L.n) (_hp:E.prec<2*L.n+1) (_hN:E.cZ≤1000000000000),Calls Tryz.prog 184 #[.pointer (some ⟨L.g,t*28,none⟩)] w fun e w'=>e = .returned (.tuple #[])∧RE R L S {E with th:=aH E.th t (aS.enter {E.th t with found:=E.prec} 12)} w'∧Fr L.own w w'
def tree.kQ:Prop:=∀ {σ:Type} {R:SR σ} {L:Lt} {S:Nat→Prop} {E:aK σ} {w:World} {t:Nat} (_h:RE R L S E w) (_ht:t<L.n) (_hp:E.prec<2*L.n+1) (_hN:E.cZ≤1000000000000),Calls Tryz.prog 258 #[.pointer (some ⟨L.g,t*28,none⟩)] w fun e w'=>e = .returned (.tuple #[])∧RE R L S {E with th:=aH E.th t (aS.enter {E.th t with found:=E.prec} 12)} w'∧Fr L.own w w'
theorem xR:int.kQ∧list.kQ∧tree.kQ:=by
 refine ⟨@mkK _ 0 ?_,@mkK _ 1 ?_,@mkK _ 2 ?_⟩<;>intro kk σ R L S E w t h ht hp hN
 all_goals
  obtain ⟨cv,cf,pv,hc,hcv,eE,-,hf⟩:=h.cells ht rfl
  obtain ⟨c0,c1,rfl⟩:=aD hcv.1
  obtain ⟨d0,d1,rfl⟩:=aD eE.1
  have hn:=h.ok.n64
  have c0:w.cell? ⟨L.g,t*28,none⟩=some (.pointer (some ⟨L.bS,0,none⟩)):=hc 0 _ (by decide) rfl
  have c22:=hc 24 _ (by decide) rfl
  have f22:=hf (t*28+24)
  have s5:w.cell? ⟨L.bS,5,none⟩=some _:=h.sh.cell_of rfl
  obtain ⟨h1,k1⟩:=h.fM ht 24 (by decide) (.int .i64 (E.prec:Int)) {E.th t with found:=E.prec} rfl rfl rfl rfl rfl (by intros;rfl)
  have HH:=aA h1
  have HK:=aA k1
  have HS:=aA s5
  have hm:=aA (show ((E.cZ:Int)*129+(E.prec:Int)) % 129=(E.prec:Int) by omega)
  clear h hc hf h1 k1 s5 hcv eE
  first|(have _:Kn 0:=kk;go_enter Tryz.func124,Tryz.ntmps124)|(have _:Kn 1:=kk;go_enter Tryz.func184,Tryz.ntmps184)|(have _:Kn 2:=kk;go_enter Tryz.func258,Tryz.ntmps258)
  go_wp2_with fail
  refine (tU L.bS 5 _ _ HS.out).mono ?_
  rintro e w1 ⟨rfl,rfl⟩
  go_wp2_with fail
  refine (rA _ _ (by omega) (by omega)).mono ?_
  rintro e w1 ⟨rfl,rfl⟩
  rw [hm.out]
  go_wp2_with fail
  refine (fZ HH.out ht 12).mono ?_
  rintro e w1 ⟨rfl,r1,k2⟩
  have HR:=aA (And.intro r1 k2)
  clear r1 k2
  go_wp2
  refine bodyPost_end (v:=.tuple #[]) (by simp [results,Tryz.results124,Tryz.results184,Tryz.results258,go_sem]) rfl ⟨rfl,HR.out.1.cast ?_,HK.out.trans HR.out.2⟩
  simp only [bR,aC]
theorem int.wN:kQ:=xR.1
theorem list.wN:kQ:=xR.2.1
theorem tree.wN:kQ:=xR.2.2
theorem row.wN {σ:Type} {R:SR σ} {L:Lt} {S:Nat→Prop} {E:aK σ} {w:World} {t:Nat} (h:RE R L S E w) (ht:t<L.n) (hp:E.prec<2*L.n+1) (hN:E.cZ≤1000000000000) :
  Calls Tryz.prog 221 #[.pointer (some ⟨L.g,t*30,none⟩)] w fun e w'=>e = .returned (.tuple #[])∧RE R L S {E with th:=aH E.th t (aS.enter {E.th t with found:=E.prec} 12)} w'∧Fr L.own w w':=by
 obtain ⟨cv,cf,pv,hc,hcv,eE,-,hf⟩:=h.cells ht rfl
 obtain ⟨c0,c1,c2,rfl⟩:=aD hcv.1
 obtain ⟨d0,d1,d2,rfl⟩:=aD eE.1
 have hn:=h.ok.n64
 have c0:w.cell? ⟨L.g,t*30,none⟩=some (.pointer (some ⟨L.bS,0,none⟩)):=hc 0 _ (by decide) rfl
 have c22:=hc 26 _ (by decide) rfl
 have f22:=hf (t*30+26)
 have s5:w.cell? ⟨L.bS,5,none⟩=some _:=h.sh.cell_of rfl
 obtain ⟨h1,k1⟩:=h.fM ht 26 (by decide) (.int .i64 (E.prec:Int)) {E.th t with found:=E.prec} rfl rfl rfl rfl rfl (by intros;rfl)
 have HH:=aA h1
 have HK:=aA k1
 have HS:=aA s5
 have hm:=aA (show ((E.cZ:Int)*129+(E.prec:Int)) % 129=(E.prec:Int) by omega)
 clear h hc hf h1 k1 s5 hcv eE
 go_enter Tryz.func221,Tryz.ntmps221
 go_wp2_with fail
 refine (tU L.bS 5 _ _ HS.out).mono ?_
 rintro e w1 ⟨rfl,rfl⟩
 go_wp2_with fail
 refine (rA _ _ (by omega) (by omega)).mono ?_
 rintro e w1 ⟨rfl,rfl⟩
 rw [hm.out]
 go_wp2_with fail
 refine (fZ HH.out ht 12).mono ?_
 rintro e w1 ⟨rfl,r1,k2⟩
 have HR:=aA (And.intro r1 k2)
 clear r1 k2
 go_wp2
 refine bodyPost_end (v:=.tuple #[]) (by simp [results,Tryz.results221,go_sem]) rfl ⟨rfl,HR.out.1.cast ?_,HK.out.trans HR.out.2⟩
 simp only [bR,aC]
end Go.Proofs.YtefjhnhdagolhabGreat
