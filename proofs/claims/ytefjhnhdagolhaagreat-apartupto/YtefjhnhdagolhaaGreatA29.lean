import Derived.Test.YtefjhnhdagolhaaGreatA28
import Derived.Test.YtefjhnhdagolhaaGreatA11
import Derived.Test.YtefjhnhdagolhaaGreatA27
set_option maxHeartbeats 4000000
set_option maxRecDepth 20000
namespace Go.Proofs.YtefjhnhdagolhaaGreat
open Tryz
open int list tree
open Go.RowKit
open M (aM aC aD Op eX bU bD tw bC)
attribute [local go_sem ↓] Go.wp_at_zero Go.wp_at_succ
theorem int.cU {α:Type} (f:Nat→α) (t:Nat) (a b:α):aM (aM f t a) t b=aM f t b:=by funext k;unfold aM;split<;>rfl
structure int.aE {σ:Type} (R:SR σ) (L:Lt) (S:Nat→Prop) (w:World) (E':bD σ) (w':World):Prop where
 re:RE R L (grown S w w') E' w'
 fr:Fr L.own w w'
structure list.aE {σ:Type} (R:SR σ) (L:Lt) (S:Nat→Prop) (w:World) (E':bD σ) (w':World):Prop where
 re:RE R L (grown S w w') E' w'
 fr:Fr L.own w w'
structure tree.aE {σ:Type} (R:SR σ) (L:Lt) (S:Nat→Prop) (w:World) (E':bD σ) (w':World):Prop where
 re:RE R L (grown S w w') E' w'
 fr:Fr L.own w w'
structure row.aE {σ:Type} (R:SR σ) (L:Lt) (S:Nat→Prop) (w:World) (E':bD σ) (w':World):Prop where
 re:RE R L (grown S w w') E' w'
 fr:Fr L.own w w'
def yP (SR:Type→Type) (RE:lA SR) (aE:BX SR):Prop:=∀ {σ:Type} {R:SR σ} {L:Lt} {S:Nat→Prop} {E':bD σ} {w:World} {w':World} (_h:RE R L S E' w') (_hf:Fr L.own w w') {w0:World} (_hw:w'=w0),aE R L S w E' w0
open row in
theorem lN:yP int.SR @int.RE @int.aE∧yP list.SR @list.RE @list.aE∧yP tree.SR @tree.RE @tree.aE∧yP row.SR @row.RE @row.aE:=by
 refine ⟨?_,?_,?_,?_⟩<;>intro σ R L S E' w w' h hf w0 hw
 all_goals
  subst hw;refine ⟨h.mono (fun _ hk=>.inl hk) (fun k hk=>?_),hf⟩
  rcases hk with hk|hk
  ·exact h.lt k hk
  ·exact hk.2
theorem int.aE.of:yP int.SR @int.RE @int.aE:=lN.1
theorem list.aE.of:yP list.SR @list.RE @list.aE:=lN.2.1
theorem tree.aE.of:yP tree.SR @tree.RE @tree.aE:=lN.2.2.1
theorem row.aE.of:yP row.SR @row.RE @row.aE:=lN.2.2.2
def tJ (SR:Type→Type) (aE:BX SR):Prop:=∀ {σ:Type} {R:SR σ} {L:Lt} {S:Nat→Prop} {E':bD σ} {w:World} {bn:bD σ} {w1 w2:World} (_h:aE R L S w E' w1) (_h':aE R L (grown S w w1) w1 bn w2),aE R L S w bn w2
open row in
theorem iO:tJ int.SR @int.aE∧tJ list.SR @list.aE∧tJ tree.SR @tree.aE∧tJ row.SR @row.aE:=by
 refine ⟨?_,?_,?_,?_⟩<;>intro σ R L S E' w bn w1 w2 h h'
 all_goals
  refine ⟨h'.re.mono (fun k hk=>?_) (fun k hk=>?_),h.fr.trans h'.fr⟩
  ·rcases hk with (hk|hk)|hk
   ·exact .inl hk
   ·exact .inr ⟨hk.1,cH hk.2 h'.fr.size⟩
   ·exact .inr ⟨bK h.fr.size hk.1,hk.2⟩
  ·rcases hk with hk|hk
   ·exact h'.re.lt k (.inl (.inl hk))
   ·exact hk.2
theorem int.aE.next:tJ int.SR @int.aE:=iO.1
theorem list.aE.next:tJ list.SR @list.aE:=iO.2.1
theorem tree.aE.next:tJ tree.SR @tree.aE:=iO.2.2.1
theorem row.aE.next:tJ row.SR @row.aE:=iO.2.2.2
theorem int.aE.below {σ:Type} {R:SR σ} {L:Lt} {S:Nat→Prop} {E:bD σ} {w:World} (h:RE R L S E w) {w1:World} (hb:Below w.heap.size w w1):aE R L S w E w1:=⟨h.below hb,Fr.cA hb⟩
theorem list.aE.below {σ:Type} {R:SR σ} {L:Lt} {S:Nat→Prop} {E:bD σ} {w:World} (h:RE R L S E w) {w1:World} (hb:Below w.heap.size w w1):aE R L S w E w1:=⟨h.below hb,Fr.cA hb⟩
theorem tree.aE.below {σ:Type} {R:SR σ} {L:Lt} {S:Nat→Prop} {E:bD σ} {w:World} (h:RE R L S E w) {w1:World} (hb:Below w.heap.size w w1):aE R L S w E w1:=⟨h.below hb,Fr.cA hb⟩
theorem row.aE.below {σ:Type} {R:SR σ} {L:Lt} {S:Nat→Prop} {E:bD σ} {w:World} (h:RE R L S E w) {w1:World} (hb:Below w.heap.size w w1):aE R L S w E w1:=⟨h.below hb,Fr.cA hb⟩
theorem int.RE.drew {σ:Type} {R:SR σ} {L:Lt} {S:Nat→Prop} {E:bD σ} {w:World} (h:RE R L S E w):RE R L S E w.drew:=h.stay (fun _ _=>rfl) (fun _ hk=>hk) h.lt
theorem list.RE.drew {σ:Type} {R:SR σ} {L:Lt} {S:Nat→Prop} {E:bD σ} {w:World} (h:RE R L S E w):RE R L S E w.drew:=h.stay (fun _ _=>rfl) (fun _ hk=>hk) h.lt
theorem tree.RE.drew {σ:Type} {R:SR σ} {L:Lt} {S:Nat→Prop} {E:bD σ} {w:World} (h:RE R L S E w):RE R L S E w.drew:=h.stay (fun _ _=>rfl) (fun _ hk=>hk) h.lt
theorem row.RE.drew {σ:Type} {R:SR σ} {L:Lt} {S:Nat→Prop} {E:bD σ} {w:World} (h:RE R L S E w):RE R L S E w.drew:=h.stay (fun _ _=>rfl) (fun _ hk=>hk) h.lt
theorem int.RE.cast {σ:Type} {R:SR σ} {L:Lt} {S:Nat→Prop} {E E':bD σ} {w:World} (h:RE R L S E w) (e:E=E'):RE R L S E' w:=e▸h
theorem list.RE.cast {σ:Type} {R:SR σ} {L:Lt} {S:Nat→Prop} {E E':bD σ} {w:World} (h:RE R L S E w) (e:E=E'):RE R L S E' w:=e▸h
theorem tree.RE.cast {σ:Type} {R:SR σ} {L:Lt} {S:Nat→Prop} {E E':bD σ} {w:World} (h:RE R L S E w) (e:E=E'):RE R L S E' w:=e▸h
theorem row.RE.cast {σ:Type} {R:SR σ} {L:Lt} {S:Nat→Prop} {E E':bD σ} {w:World} (h:RE R L S E w) (e:E=E'):RE R L S E' w:=e▸h
theorem int.aE.cast {σ:Type} {R:SR σ} {L:Lt} {S:Nat→Prop} {E':bD σ} {w:World} {bn:bD σ} {w1:World} (h:aE R L S w E' w1) (e:E'=bn):aE R L S w bn w1:=e▸h
theorem list.aE.cast {σ:Type} {R:SR σ} {L:Lt} {S:Nat→Prop} {E':bD σ} {w:World} {bn:bD σ} {w1:World} (h:aE R L S w E' w1) (e:E'=bn):aE R L S w bn w1:=e▸h
theorem tree.aE.cast {σ:Type} {R:SR σ} {L:Lt} {S:Nat→Prop} {E':bD σ} {w:World} {bn:bD σ} {w1:World} (h:aE R L S w E' w1) (e:E'=bn):aE R L S w bn w1:=e▸h
theorem row.aE.cast {σ:Type} {R:SR σ} {L:Lt} {S:Nat→Prop} {E':bD σ} {w:World} {bn:bD σ} {w1:World} (h:aE R L S w E' w1) (e:E'=bn):aE R L S w bn w1:=e▸h
theorem int.pI {L:Lt}:L.own L.g:=.inr (.inr (.inr (.inr (.inr (.inl rfl)))))
def yT (SR:Type→Type) (RE:lA SR) (nB:{σ:Type}→SR σ→(Nat→Prop)→World→Option (M.eX σ)→List Value→Prop) (n0:Nat):Prop:=∀ {σ:Type} {R:SR σ} {L:Lt} {S:Nat→Prop} {E:bD σ} {w:World} {t:Nat} (_h:RE R L S E w) (_ht:t<L.n) {e:bU σ} (_he:E.th t=e),∃ cv cf pv,(∀ j v,j<n0→(cN L t e cv cf pv)[j]?=some v→w.cell? ⟨L.g,t*n0+j,none⟩=some v)∧nB R (fun k=>S k∧¬L.own k) w e.now cv∧nB R (fun k=>S k∧¬L.own k) w e.fD cf∧EH (fun k=>S k∧¬L.own k) w e.aK pv∧∀ o,w.frozen? ⟨L.g,o,none⟩=false
open row in
theorem lR:yT int.SR @int.RE @int.nB 28∧yT list.SR @list.RE @list.nB 28∧yT tree.SR @tree.RE @tree.nB 28∧yT row.SR @row.RE @row.nB 30:=by
 refine ⟨?_,?_,?_,?_⟩<;>intro σ R L S E w t h ht e he
 all_goals
  subst he;obtain ⟨T,h1,h2⟩:=h.th;obtain ⟨cv,cf,pv,q⟩:=h2 t ht;exact ⟨cv,cf,pv,fun j v hj hv=>by rw [h1.cell (cH ht h.ok.gn) hj,q.like j v hv],q.now,q.fD,q.aK,h1.frozen⟩
theorem int.RE.cells:yT int.SR @int.RE @int.nB 28:=lR.1
theorem list.RE.cells:yT list.SR @list.RE @list.nB 28:=lR.2.1
theorem tree.RE.cells:yT tree.SR @tree.RE @tree.nB 28:=lR.2.2.1
theorem row.RE.cells:yT row.SR @row.RE @row.nB 30:=lR.2.2.2
def CH (SR:Type→Type) (RE:lA SR) (n0 n1:Nat):Prop:=∀ {σ:Type} {R:SR σ} {L:Lt} {S:Nat→Prop} {E:bD σ} {w:World} {t:Nat} (_h:RE R L S E w) (_ht:t<L.n) (p:Nat),Calls prog n0 #[.pointer (some ⟨L.g,t*n1,none⟩),.int .i64 (p:Int)] w fun e w'=>e = .returned (.tuple #[])∧RE R L S {E with th:=aM E.th t ((E.th t).enter p)} w'∧Fr L.own w w'
open row in
theorem oG:CH int.SR @int.RE 203 28∧CH list.SR @list.RE 262 28∧CH tree.SR @tree.RE 336 28∧CH row.SR @row.RE 299 30:=by
 refine ⟨@mkK _ 0 ?_,@mkK _ 1 ?_,@mkK _ 2 ?_,@mkK _ 3 ?_⟩<;>intro kk σ R L S E w t h ht p
 all_goals
  obtain ⟨cv,cf,pv,hc,-,-,-,hf⟩:=h.cells ht rfl;have c3:=hc 3 _ (by decide) rfl;have c4:=hc 4 _ (by decide) rfl
  first|(have:=kA kk;have f3:=hf (t*28+3))|(have:=kB kk;have f3:=hf (t*28+3))|(have:=kC kk;have f3:=hf (t*28+3))|(have:=kD kk;have f3:=hf (t*30+3))
  first|(have:=kA kk;have f4:=hf (t*28+4))|(have:=kB kk;have f4:=hf (t*28+4))|(have:=kC kk;have f4:=hf (t*28+4))|(have:=kD kk;have f4:=hf (t*30+4))
  have HH:=aA h;clear h hc hf
  first|(have:=kA kk;go_enter func203,ntmps203)|(have:=kB kk;go_enter func262,ntmps262)|(have:=kC kk;go_enter func336,ntmps336)|(have:=kD kk;go_enter func299,ntmps299)
  go_wp2;refine cW (v:=.tuple #[]) (by simp [results,results203,results262,results336,results299,go_sem]) rfl ⟨rfl,?_,?_⟩
  ·have h1:=HH.out.vF t ht 3 (by decide) (.int .i64 (p:Int)) {E.th t with phase:=p} rfl rfl rfl rfl rfl (by intros;rfl)
   have h2:=h1.vF t ht 4 (by decide) (.int .i64 0) {E.th t with phase:=p,past:=0} (by simp [aC]) (by simp [aC]) (by simp [aC]) (by simp [aC]) (by simp [aC]) (by intros;simp only [aC];rfl);refine h2.cast ?_;simp only [cU];rfl
  ·exact (Fr.set w pI _).trans (Fr.set _ pI _)
theorem int.gV:CH int.SR @int.RE 203 28:=oG.1
theorem list.gV:CH list.SR @list.RE 262 28:=oG.2.1
theorem tree.gV:CH tree.SR @tree.RE 336 28:=oG.2.2.1
theorem row.gV:CH row.SR @row.RE 299 30:=oG.2.2.2
def EI (SR:Type→Type) (RE:lA SR):Prop:=∀ {σ:Type} {R:SR σ} {L:Lt} {S:Nat→Prop} {E:bD σ} {w:World} {t:Nat} (_h:RE R L S E w) (_ht:t<L.n) (j:Nat) (_hj:j<28) (v:Value) (e':bU σ) (_hd:e'.dw=(E.th t).dw) (_hg:e'.tg=(E.th t).tg) (_hn:e'.now=(E.th t).now) (_hf:e'.fD=(E.th t).fD) (_hp:e'.aK=(E.th t).aK) (_aGM:∀ c0 c1 d0 d1 pv,(cN L t (E.th t) [c0,c1] [d0,d1] pv).set j v=cN L t e' [c0,c1] [d0,d1] pv),RE R L S {E with th:=aM E.th t e'} (w.setCell ⟨L.g,t*28+j,none⟩ v)∧Fr L.own w (w.setCell ⟨L.g,t*28+j,none⟩ v)
theorem qA:EI int.SR @int.RE∧EI list.SR @list.RE∧EI tree.SR @tree.RE:=by
 refine ⟨?_,?_,?_⟩<;>intro σ R L S E w t h ht j hj v e' hd hg hn hf hp LO
 all_goals
  exact ⟨h.vF t ht j hj v e' hd hg hn hf hp LO,Fr.set w pI _⟩
theorem int.RE.iY:EI int.SR @int.RE:=qA.1
theorem list.RE.iY:EI list.SR @list.RE:=qA.2.1
theorem tree.RE.iY:EI tree.SR @tree.RE:=qA.2.2
theorem row.RE.iY {σ:Type} {R:SR σ} {L:Lt} {S:Nat→Prop} {E:bD σ} {w:World} {t:Nat} (h:RE R L S E w) (ht:t<L.n) (j:Nat) (hj:j<30) (v:Value) (e':bU σ) (hd:e'.dw=(E.th t).dw) (hg:e'.tg=(E.th t).tg) (hn:e'.now=(E.th t).now) (hf:e'.fD=(E.th t).fD) (hp:e'.aK=(E.th t).aK) (LO:∀ c0 c1 c2 d0 d1 d2 pv,(cN L t (E.th t) [c0,c1,c2] [d0,d1,d2] pv).set j v=cN L t e' [c0,c1,c2] [d0,d1,d2] pv) :
  RE R L S {E with th:=aM E.th t e'} (w.setCell ⟨L.g,t*30+j,none⟩ v)∧Fr L.own w (w.setCell ⟨L.g,t*30+j,none⟩ v) :=
 ⟨h.vF t ht j hj v e' hd hg hn hf hp LO,Fr.set w pI _⟩
def GK (SR:Type→Type) (RE:lA SR) (n0 n1:Nat):Prop:=∀ {σ:Type} {R:SR σ} {L:Lt} {S:Nat→Prop} {E:bD σ} {w:World} {t:Nat} (_h:RE R L S E w) (_ht:t<L.n) (steps p:Nat) (_hs:steps≤1000000) (_hq:(E.th t).past≤1000000),Calls prog n0 #[.pointer (some ⟨L.g,t*n1,none⟩),.int .i64 (steps:Int),.int .i64 (p:Int)] w fun e w'=>e = .returned (.tuple #[])∧RE R L S {E with th:=aM E.th t ((E.th t).pass steps p)} w'∧Fr L.own w w'
open row in
theorem rK:GK int.SR @int.RE 206 28∧GK list.SR @list.RE 265 28∧GK tree.SR @tree.RE 339 28∧GK row.SR @row.RE 302 30:=by
 refine ⟨@mkK _ 0 ?_,@mkK _ 1 ?_,@mkK _ 2 ?_,@mkK _ 3 ?_⟩<;>intro kk σ R L S E w t h ht steps p hs hq
 all_goals
  obtain ⟨cv,cf,pv,hc,-,-,-,hf⟩:=h.cells ht rfl;have c4:=hc 4 _ (by decide) rfl
  first|(have:=kA kk;have f4:=hf (t*28+4))|(have:=kB kk;have f4:=hf (t*28+4))|(have:=kC kk;have f4:=hf (t*28+4))|(have:=kD kk;have f4:=hf (t*30+4))
  obtain ⟨h1,k1⟩:=h.iY ht 4 (by decide) (.int .i64 (((E.th t).past:Int)+1)) {E.th t with past:=(E.th t).past+1} rfl rfl rfl rfl rfl (by intros;rfl);have HH:=aA h1;have HK:=aA k1;clear h hc hf h1 k1
  by_cases he:(E.th t).past+1=steps
  ·have aAZ:=aA (show (E.th t).pass steps p=(E.th t).enter p by unfold bU.pass;rw [aJ he])
   have he1:((E.th t).past:Int)+1≤(steps:Int):=by omega
   have he2:(steps:Int)≤((E.th t).past:Int)+1:=by omega
   clear he
   first|(have:=kA kk;go_enter func206,ntmps206)|(have:=kB kk;go_enter func265,ntmps265)|(have:=kC kk;go_enter func339,ntmps339)|(have:=kD kk;go_enter func302,ntmps302)
   go_wp2_with fail;refine (gV HH.out ht p).mono ?_;rintro e w1 ⟨rfl,r1,k2⟩;have HR:=aA r1;have HK2:=aA k2;clear r1 k2;go_wp2;refine cW (v:=.tuple #[]) (by simp [results,results206,results265,results339,results302,go_sem]) rfl ⟨rfl,?_,HK.out.trans HK2.out⟩;refine HR.out.cast ?_;rw [aAZ.out];simp only [cU,aC];rfl
  ·have he':¬((E.th t).past:Int)+1=(steps:Int):=by omega
   have aAZ:=aA (show (E.th t).pass steps p = {E.th t with past:=(E.th t).past+1} by unfold bU.pass;rw [aN he])
   first|(have:=kA kk;go_enter func206,ntmps206)|(have:=kB kk;go_enter func265,ntmps265)|(have:=kC kk;go_enter func339,ntmps339)|(have:=kD kk;go_enter func302,ntmps302)
   go_wp2;refine cW (v:=.tuple #[]) (by simp [results,results206,results265,results339,results302,go_sem]) rfl ⟨rfl,?_,HK.out⟩;rw [aAZ.out];exact HH.out
theorem int.sR:GK int.SR @int.RE 206 28:=rK.1
theorem list.sR:GK list.SR @list.RE 265 28:=rK.2.1
theorem tree.sR:GK tree.SR @tree.RE 339 28:=rK.2.2.1
theorem row.sR:GK row.SR @row.RE 302 30:=rK.2.2.2
def tV (SR:Type→Type) (RE:lA SR) (n0 n1:Nat):Prop:=∀ {σ:Type} {R:SR σ} {L:Lt} {S:Nat→Prop} {E:bD σ} {w:World} {t:Nat} (_h:RE R L S E w) (_ht:t<L.n),Calls prog n0 #[.pointer (some ⟨L.g,t*n1,none⟩)] w fun e w'=>e = .returned (.tuple #[])∧RE R L S {E with th:=aM E.th t (E.th t).dM} w'∧Fr L.own w w'
open row in
theorem iX:tV int.SR @int.RE 222 28∧tV list.SR @list.RE 277 28∧tV tree.SR @tree.RE 351 28∧tV row.SR @row.RE 314 30:=by
 refine ⟨@mkK _ 0 ?_,@mkK _ 1 ?_,@mkK _ 2 ?_,@mkK _ 3 ?_⟩<;>intro kk σ R L S E w t h ht
 all_goals
  obtain ⟨cv,cf,pv,hc,-,-,-,-⟩:=h.cells ht rfl;have c9:=hc 9 _ (by decide) rfl;have HH:=aA h;clear h hc
  by_cases he:0<(E.th t).aG
  ·have he':(0:Int)<((E.th t).aG:Int):=by omega
   rw [show (E.th t).dM=(E.th t).enter 3 by unfold bU.dM;rw [aJ he]]
   first|(have:=kA kk;go_enter func222,ntmps222)|(have:=kB kk;go_enter func277,ntmps277)|(have:=kC kk;go_enter func351,ntmps351)|(have:=kD kk;go_enter func314,ntmps314)
   go_wp2_with fail;refine (gV HH.out ht 3).mono ?_;rintro e w1 ⟨rfl,r1,k2⟩;have HR:=aA (aP r1 k2);clear r1 k2;go_wp2;exact cW (v:=.tuple #[]) (by simp [results,results222,results277,results351,results314,go_sem]) rfl ⟨rfl,HR.out⟩
  ·have he':¬(0:Int)<((E.th t).aG:Int):=by omega
   rw [show (E.th t).dM=(E.th t).enter 4 by unfold bU.dM;rw [aN he]]
   first|(have:=kA kk;go_enter func222,ntmps222)|(have:=kB kk;go_enter func277,ntmps277)|(have:=kC kk;go_enter func351,ntmps351)|(have:=kD kk;go_enter func314,ntmps314)
   go_wp2_with fail;refine (gV HH.out ht 4).mono ?_;rintro e w1 ⟨rfl,r1,k2⟩;have HR:=aA (aP r1 k2);clear r1 k2;go_wp2;exact cW (v:=.tuple #[]) (by simp [results,results222,results277,results351,results314,go_sem]) rfl ⟨rfl,HR.out⟩
theorem int.qC:tV int.SR @int.RE 222 28:=iX.1
theorem list.qC:tV list.SR @list.RE 277 28:=iX.2.1
theorem tree.qC:tV tree.SR @tree.RE 351 28:=iX.2.2.1
theorem row.qC:tV row.SR @row.RE 314 30:=iX.2.2.2
def FU (SR:Type→Type) (RE:lA SR) (n0 n1:Nat):Prop:=∀ {σ:Type} {R:SR σ} {L:Lt} {S:Nat→Prop} {E:bD σ} {w:World} {t:Nat} (_h:RE R L S E w) (_ht:t<L.n) (_hb:(E.th t).aG≤L.cap),Calls prog n0 #[.pointer (some ⟨L.g,t*n1,none⟩)] w fun e w'=>e = .returned (.tuple #[])∧RE R L S {E with th:=aM E.th t ((E.th t).fail L.cap)} w'∧Fr L.own w w'
open row in
theorem rG:FU int.SR @int.RE 227 28∧FU list.SR @list.RE 279 28∧FU tree.SR @tree.RE 353 28∧FU row.SR @row.RE 316 30:=by
 refine ⟨@mkK _ 0 ?_,@mkK _ 1 ?_,@mkK _ 2 ?_,@mkK _ 3 ?_⟩<;>intro kk σ R L S E w t h ht hb
 all_goals
  obtain ⟨cv,cf,pv,hc,-,-,-,hf⟩:=h.cells ht rfl;have c2:=hc 2 _ (by decide) rfl;have c9:=hc 9 _ (by decide) rfl;have c10:=hc 10 _ (by decide) rfl
  first|(have:=kA kk;have f9:=hf (t*28+9))|(have:=kB kk;have f9:=hf (t*28+9))|(have:=kC kk;have f9:=hf (t*28+9))|(have:=kD kk;have f9:=hf (t*30+9))
  first|(have:=kA kk;have f10:=hf (t*28+10))|(have:=kB kk;have f10:=hf (t*28+10))|(have:=kC kk;have f10:=hf (t*28+10))|(have:=kD kk;have f10:=hf (t*30+10))
  have hcap:=h.ok.RK;obtain ⟨h1,k1⟩:=h.iY ht 9 (by decide) (.int .i64 ((min (2*(E.th t).aG+1) L.cap:Nat):Int)) {E.th t with aG:=min (2*(E.th t).aG+1) L.cap} rfl rfl rfl rfl rfl (by intros;rfl);have HH:=aA h1;have HK:=aA k1;have hmin:=aA (show (if (L.cap:Int)<2*((E.th t).aG:Int)+1 then (L.cap:Int) else 2*((E.th t).aG:Int)+1)=((min (2*(E.th t).aG+1) L.cap:Nat):Int) by split<;>omega);clear h hc hf h1 k1
  first|(have:=kA kk;go_enter func227,ntmps227)|(have:=kB kk;go_enter func279,ntmps279)|(have:=kC kk;go_enter func353,ntmps353)|(have:=kD kk;go_enter func316,ntmps316)
  go_wp2
  go_region
  rw [hmin.out];generalize sZ:World.drew _=W1;have yG:RE R L S {E with th:=aM E.th t {E.th t with aG:=min (2*(E.th t).aG+1) L.cap}} W1:=by rw [←sZ];exact HH.out.drew
  have AE:Fr L.own w W1:=by rw [←sZ];exact HK.out.drew
  clear sZ;obtain ⟨cv1,cf1,pv1,hc1,-,-,-,hf1⟩:=yG.cells ht (aC _ _ _);have d10:=hc1 10 _ (by decide) rfl
  first|(have:=kA kk;have g10:=hf1 (t*28+10))|(have:=kB kk;have g10:=hf1 (t*28+10))|(have:=kC kk;have g10:=hf1 (t*28+10))|(have:=kD kk;have g10:=hf1 (t*30+10))
  have pX:=aA yG;have HK1:=aA AE;clear yG AE hc1 hf1 c10 f10
  by_cases ha:(E.th t).again=true
  ·have hfl:=aA (show (E.th t).fail L.cap=bU.enter {E.th t with aG:=min (2*(E.th t).aG+1) L.cap} 11 by unfold bU.fail;rw [aJ ha])
   go_wp2_with fail;refine (gV pX.out ht 11).mono ?_;rintro e w1 ⟨rfl,r1,k2⟩;have HR:=aA (aP r1 k2);clear r1 k2;go_wp2;refine cR (v:=.tuple #[]) (by simp [results,results227,results279,results353,results316,go_sem]) rfl ⟨rfl,HR.out.1.cast ?_,HK1.out.trans HR.out.2⟩;rw [hfl.out];simp only [cU,aC]
  ·have ha':(E.th t).again=false:=by simpa using ha
   have hfl:=aA (show (E.th t).fail L.cap=bU.dM {E.th t with aG:=min (2*(E.th t).aG+1) L.cap,again:=true} by unfold bU.fail;rw [aN ha]);obtain ⟨h2,k2⟩:=pX.out.iY ht 10 (by decide) (.bool true) {E.th t with aG:=min (2*(E.th t).aG+1) L.cap,again:=true} (by simp [aC]) (by simp [aC]) (by simp [aC]) (by simp [aC]) (by simp [aC]) (by intros;simp only [aC];rfl);have HR2:=aA h2;have HK2:=aA k2;clear h2 k2;go_wp2_with fail;refine (qC HR2.out ht).mono ?_;rintro e w1 ⟨rfl,r1,k3⟩;have HR:=aA (aP r1 k3);clear r1 k3;go_wp2;refine cW (v:=.tuple #[]) (by simp [results,results227,results279,results353,results316,go_sem]) rfl ⟨rfl,HR.out.1.cast ?_,(HK1.out.trans HK2.out).trans HR.out.2⟩;rw [hfl.out];simp only [cU,aC]
theorem int.NY:FU int.SR @int.RE 227 28:=rG.1
theorem list.NY:FU list.SR @list.RE 279 28:=rG.2.1
theorem tree.NY:FU tree.SR @tree.RE 353 28:=rG.2.2.1
theorem row.NY:FU row.SR @row.RE 316 30:=rG.2.2.2
def wW (SR:Type→Type) (RE:lA SR) (n0 n1:Nat):Prop:=∀ {σ:Type} {R:SR σ} {L:Lt} {S:Nat→Prop} {E:bD σ} {w:World} {t:Nat} (_h:RE R L S E w) (_ht:t<L.n) (_hb:(E.th t).aG≤64),Calls prog n0 #[.pointer (some ⟨L.g,t*n1,none⟩)] w fun e w'=>e = .returned (.tuple #[])∧RE R L S {E with th:=aM E.th t (bU.enter {E.th t with aG:=(E.th t).aG / 2} 11)} w'∧Fr L.own w w'
open row in
theorem kN:wW int.SR @int.RE 235 28∧wW list.SR @list.RE 284 28∧wW tree.SR @tree.RE 358 28∧wW row.SR @row.RE 321 30:=by
 refine ⟨@mkK _ 0 ?_,@mkK _ 1 ?_,@mkK _ 2 ?_,@mkK _ 3 ?_⟩<;>intro kk σ R L S E w t h ht hb
 all_goals
  obtain ⟨cv,cf,pv,hc,-,-,-,hf⟩:=h.cells ht rfl;have c9:=hc 9 _ (by decide) rfl
  first|(have:=kA kk;have f9:=hf (t*28+9))|(have:=kB kk;have f9:=hf (t*28+9))|(have:=kC kk;have f9:=hf (t*28+9))|(have:=kD kk;have f9:=hf (t*30+9))
  obtain ⟨h1,k1⟩:=h.iY ht 9 (by decide) (.int .i64 (((E.th t).aG:Int) / 2)) {E.th t with aG:=(E.th t).aG / 2} rfl rfl rfl rfl rfl (by intros;rfl);have HH:=aA h1;have HK:=aA k1;clear h hc hf h1 k1
  first|(have:=kA kk;go_enter func235,ntmps235)|(have:=kB kk;go_enter func284,ntmps284)|(have:=kC kk;go_enter func358,ntmps358)|(have:=kD kk;go_enter func321,ntmps321)
  go_wp2_with fail;refine (gV HH.out ht 11).mono ?_;rintro e w1 ⟨rfl,r1,k2⟩;have HR:=aA (aP r1 k2);clear r1 k2;go_wp2;refine cW (v:=.tuple #[]) (by simp [results,results235,results284,results358,results321,go_sem]) rfl ⟨rfl,HR.out.1.cast ?_,HK.out.trans HR.out.2⟩;simp only [cU,aC]
theorem int.DC:wW int.SR @int.RE 235 28:=kN.1
theorem list.DC:wW list.SR @list.RE 284 28:=kN.2.1
theorem tree.DC:wW tree.SR @tree.RE 358 28:=kN.2.2.1
theorem row.DC:wW row.SR @row.RE 321 30:=kN.2.2.2
def GI (SR:Type→Type) (RE:lA SR) (n0 n1:Nat):Prop:=∀ {σ:Type} {R:SR σ} {L:Lt} {S:Nat→Prop} {E:bD σ} {w:World} {t:Nat} (_h:RE R L S E w) (_ht:t<L.n),Calls prog n0 #[.pointer (some ⟨L.g,t*n1,none⟩)] w fun e w'=>e = .returned (.tuple #[])∧RE R L S {E with th:=aM E.th t (bU.enter {E.th t with stamp:=E.gB,cG:=E.prec} 5)} w'∧Fr L.own w w'
open row in
theorem rJ:GI int.SR @int.RE 207 28∧GI list.SR @list.RE 266 28∧GI tree.SR @tree.RE 340 28∧GI row.SR @row.RE 303 30:=by
 refine ⟨@mkK _ 0 ?_,@mkK _ 1 ?_,@mkK _ 2 ?_,@mkK _ 3 ?_⟩<;>intro kk σ R L S E w t h ht
 all_goals
  obtain ⟨cv,cf,pv,hc,-,-,-,hf⟩:=h.cells ht rfl
  first|(have:=kA kk;have c0:w.cell? ⟨L.g,t*28,none⟩=some (.pointer (some ⟨L.bS,0,none⟩)):=hc 0 _ (by decide) rfl)|(have:=kB kk;have c0:w.cell? ⟨L.g,t*28,none⟩=some (.pointer (some ⟨L.bS,0,none⟩)):=hc 0 _ (by decide) rfl)|(have:=kC kk;have c0:w.cell? ⟨L.g,t*28,none⟩=some (.pointer (some ⟨L.bS,0,none⟩)):=hc 0 _ (by decide) rfl)|(have:=kD kk;have c0:w.cell? ⟨L.g,t*30,none⟩=some (.pointer (some ⟨L.bS,0,none⟩)):=hc 0 _ (by decide) rfl)
  have c13:=hc 13 _ (by decide) rfl
  first|(have:=kA kk;have f13:=hf (t*28+13))|(have:=kB kk;have f13:=hf (t*28+13))|(have:=kC kk;have f13:=hf (t*28+13))|(have:=kD kk;have f13:=hf (t*30+13))
  have s5:w.cell? ⟨L.bS,5,none⟩=some _:=h.sh.cell_of rfl;obtain ⟨h1,k1⟩:=h.iY ht 13 (by decide) (.int .i64 ((E.gB:Int)*129+(E.prec:Int))) {E.th t with stamp:=E.gB,cG:=E.prec} rfl rfl rfl rfl rfl (by intros;rfl);have HH:=aA h1;have HK:=aA k1;have HS:=aA s5;clear h hc hf h1 k1 s5
  first|(have:=kA kk;go_enter func207,ntmps207)|(have:=kB kk;go_enter func266,ntmps266)|(have:=kC kk;go_enter func340,ntmps340)|(have:=kD kk;go_enter func303,ntmps303)
  go_wp2_with fail;refine (CR L.bS 5 _ _ HS.out).mono ?_;rintro e w1 ⟨rfl,rfl⟩;go_wp2_with fail;refine (gV HH.out ht 5).mono ?_;rintro e w1 ⟨rfl,r1,k2⟩;have HR:=aA (aP r1 k2);clear r1 k2;go_wp2;refine cW (v:=.tuple #[]) (by simp [results,results207,results266,results340,results303,go_sem]) rfl ⟨rfl,HR.out.1.cast ?_,HK.out.trans HR.out.2⟩;simp only [cU,aC]
theorem int.UJ:GI int.SR @int.RE 207 28:=rJ.1
theorem list.UJ:GI list.SR @list.RE 266 28:=rJ.2.1
theorem tree.UJ:GI tree.SR @tree.RE 340 28:=rJ.2.2.1
theorem row.UJ:GI row.SR @row.RE 303 30:=rJ.2.2.2
def JQ (SR:Type→Type) (RE:lA SR) (n0:Nat):Prop:=∀ {σ:Type} {R:SR σ} {L:Lt} {S:Nat→Prop} {E:bD σ} {w:World} {t:Nat} (_h:RE R L S E w) (_ht:t<L.n) (_hp:E.prec<2*L.n+1) (_hN:E.gB≤1000000000000),Calls prog n0 #[.pointer (some ⟨L.g,t*28,none⟩)] w fun e w'=>e = .returned (.tuple #[])∧RE R L S {E with th:=aM E.th t (bU.enter {E.th t with found:=E.prec} 12)} w'∧Fr L.own w w'
theorem uK:JQ int.SR @int.RE 214∧JQ list.SR @list.RE 273∧JQ tree.SR @tree.RE 347:=by
 refine ⟨@mkK _ 0 ?_,@mkK _ 1 ?_,@mkK _ 2 ?_⟩<;>intro kk σ R L S E w t h ht hp hN
 all_goals
  obtain ⟨cv,cf,pv,hc,hcv,eP,-,hf⟩:=h.cells ht rfl;obtain ⟨c0,c1,rfl⟩:=aF hcv.1;obtain ⟨d0,d1,rfl⟩:=aF eP.1;have hn:=h.ok.n64;have c0:w.cell? ⟨L.g,t*28,none⟩=some (.pointer (some ⟨L.bS,0,none⟩)):=hc 0 _ (by decide) rfl;have c22:=hc 24 _ (by decide) rfl;have f22:=hf (t*28+24);have s5:w.cell? ⟨L.bS,5,none⟩=some _:=h.sh.cell_of rfl;obtain ⟨h1,k1⟩:=h.iY ht 24 (by decide) (.int .i64 (E.prec:Int)) {E.th t with found:=E.prec} rfl rfl rfl rfl rfl (by intros;rfl);have HH:=aA h1;have HK:=aA k1;have HS:=aA s5;have hm:=aA (show ((E.gB:Int)*129+(E.prec:Int)) % 129=(E.prec:Int) by omega);clear h hc hf h1 k1 s5 hcv eP
  first|(have:=kA kk;go_enter func214,ntmps214)|(have:=kB kk;go_enter func273,ntmps273)|(have:=kC kk;go_enter func347,ntmps347)
  go_wp2_with fail;refine (CR L.bS 5 _ _ HS.out).mono ?_;rintro e w1 ⟨rfl,rfl⟩;go_wp2_with fail;refine (xZ _ _ (by omega) (by omega)).mono ?_;rintro e w1 ⟨rfl,rfl⟩;rw [hm.out];go_wp2_with fail;refine (gV HH.out ht 12).mono ?_;rintro e w1 ⟨rfl,r1,k2⟩;have HR:=aA (aP r1 k2);clear r1 k2;go_wp2;refine cW (v:=.tuple #[]) (by simp [results,results214,results273,results347,go_sem]) rfl ⟨rfl,HR.out.1.cast ?_,HK.out.trans HR.out.2⟩;simp only [cU,aC]
theorem int.MJ:JQ int.SR @int.RE 214:=uK.1
theorem list.MJ:JQ list.SR @list.RE 273:=uK.2.1
theorem tree.MJ:JQ tree.SR @tree.RE 347:=uK.2.2
theorem row.MJ {σ:Type} {R:SR σ} {L:Lt} {S:Nat→Prop} {E:bD σ} {w:World} {t:Nat} (h:RE R L S E w) (ht:t<L.n) (hp:E.prec<2*L.n+1) (hN:E.gB≤1000000000000) :
  Calls prog 310 #[.pointer (some ⟨L.g,t*30,none⟩)] w fun e w'=>e = .returned (.tuple #[])∧RE R L S {E with th:=aM E.th t (bU.enter {E.th t with found:=E.prec} 12)} w'∧Fr L.own w w':=by
 obtain ⟨cv,cf,pv,hc,hcv,eP,-,hf⟩:=h.cells ht rfl;obtain ⟨c0,c1,c2,rfl⟩:=aF hcv.1;obtain ⟨d0,d1,d2,rfl⟩:=aF eP.1;have hn:=h.ok.n64;have c0:w.cell? ⟨L.g,t*30,none⟩=some (.pointer (some ⟨L.bS,0,none⟩)):=hc 0 _ (by decide) rfl;have c22:=hc 26 _ (by decide) rfl;have f22:=hf (t*30+26);have s5:w.cell? ⟨L.bS,5,none⟩=some _:=h.sh.cell_of rfl;obtain ⟨h1,k1⟩:=h.iY ht 26 (by decide) (.int .i64 (E.prec:Int)) {E.th t with found:=E.prec} rfl rfl rfl rfl rfl (by intros;rfl);have HH:=aA h1;have HK:=aA k1;have HS:=aA s5;have hm:=aA (show ((E.gB:Int)*129+(E.prec:Int)) % 129=(E.prec:Int) by omega);clear h hc hf h1 k1 s5 hcv eP;go_enter func310,ntmps310;go_wp2_with fail;refine (CR L.bS 5 _ _ HS.out).mono ?_;rintro e w1 ⟨rfl,rfl⟩;go_wp2_with fail;refine (xZ _ _ (by omega) (by omega)).mono ?_;rintro e w1 ⟨rfl,rfl⟩;rw [hm.out];go_wp2_with fail;refine (gV HH.out ht 12).mono ?_;rintro e w1 ⟨rfl,r1,k2⟩;have HR:=aA (aP r1 k2);clear r1 k2;go_wp2;refine cW (v:=.tuple #[]) (by simp [results,results310,go_sem]) rfl ⟨rfl,HR.out.1.cast ?_,HK.out.trans HR.out.2⟩;simp only [cU,aC]
end Go.Proofs.YtefjhnhdagolhaaGreat
