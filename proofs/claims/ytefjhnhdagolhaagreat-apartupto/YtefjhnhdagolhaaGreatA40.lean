import Derived.Test.YtefjhnhdagolhaaGreatA39
import Derived.Test.YtefjhnhdagolhaaGreatA16
import Derived.Test.YtefjhnhdagolhaaGreatA12
import Derived.Test.YtefjhnhdagolhaaGreatA15
set_option maxHeartbeats 8000000
set_option maxRecDepth 20000
namespace Go.Proofs.YtefjhnhdagolhaaGreat
open Tryz
open int list tree
open Go.RowKit
open M (aM aC aD eX bU bD aR bJ bC aL aQ)
structure int.Both {σ:Type} (R:SR σ) (P:M.Plain σ) (L:Lt) (S:Nat→Prop) (E:bD σ) (Y:aR) (w:World):Prop where
 re:RE R L S E w
 inv:M.Inv P L.n L.cap E Y
 LI:M.SY L.n E
 LA:M.XB R.sz L.n E Y
structure list.Both {σ:Type} (R:SR σ) (P:M.Plain σ) (L:Lt) (S:Nat→Prop) (E:bD σ) (Y:aR) (w:World):Prop where
 re:RE R L S E w
 inv:M.Inv P L.n L.cap E Y
 LI:M.SY L.n E
 LA:M.XB R.sz L.n E Y
structure tree.Both {σ:Type} (R:SR σ) (P:M.Plain σ) (L:Lt) (S:Nat→Prop) (E:bD σ) (Y:aR) (w:World):Prop where
 re:RE R L S E w
 inv:M.Inv P L.n L.cap E Y
 LI:M.SY L.n E
 LA:M.XB R.sz L.n E Y
structure row.Both {σ:Type} (R:SR σ) (P:M.Plain σ) (L:Lt) (S:Nat→Prop) (E:bD σ) (Y:aR) (w:World):Prop where
 re:RE R L S E w
 inv:M.Inv P L.n L.cap E Y
 LI:M.SY L.n E
 LA:M.XB R.sz L.n E Y
def vV (SR:Type→Type) (Both:{σ:Type}→SR σ→M.Plain σ→Lt→(Nat→Prop)→M.bD σ→M.aR→World→Prop):Prop:=∀ {σ:Type} {R:SR σ} {P:M.Plain σ} {L:Lt} {S:Nat→Prop} {E:bD σ} {Y:aR} {w:World} {t:Nat} (_h:Both R P L S E Y w) (_ht:t<L.n),(E.th t).phase=0↔(Y.th t).part=0
open row in
theorem kG:vV int.SR @int.Both∧vV list.SR @list.Both∧vV tree.SR @tree.Both∧vV row.SR @row.Both:=by
 refine ⟨?_,?_,?_,?_⟩<;>intro σ R P L S E Y w t h ht
 all_goals
  obtain ⟨pb,nf,-,-,T⟩:=h.inv;have X:=T t ht;have ym:=X.p1;constructor
  ·intro q
   by_cases c:(Y.th t).part=11
   ·have:=X.p4 c;omega
   ·have:=X.p2 (by omega);omega
  ·intro q
   have:=X.p2 (by omega);omega
theorem int.Both.idle:vV int.SR @int.Both:=kG.1
theorem list.Both.idle:vV list.SR @list.Both:=kG.2.1
theorem tree.Both.idle:vV tree.SR @tree.Both:=kG.2.2.1
theorem row.Both.idle:vV row.SR @row.Both:=kG.2.2.2
def tG (SR:Type→Type) (Both:{σ:Type}→SR σ→M.Plain σ→Lt→(Nat→Prop)→M.bD σ→M.aR→World→Prop):Prop:=∀ {σ:Type} {R:SR σ} {P:M.Plain σ} {L:Lt} {S:Nat→Prop} {E:bD σ} {Y:aR} {w:World} {t:Nat} (_h:Both R P L S E Y w) (_ht:t<L.n),(E.th t).phase≤13
open row in
theorem iL:tG int.SR @int.Both∧tG list.SR @list.Both∧tG tree.SR @tree.Both∧tG row.SR @row.Both:=by
 refine ⟨?_,?_,?_,?_⟩<;>intro σ R P L S E Y w t h ht
 all_goals
  obtain ⟨pb,nf,-,-,T⟩:=h.inv;have X:=T t ht;have ym:=X.p1
  by_cases c:(Y.th t).part=11
  ·have:=X.p4 c;omega
  ·have:=X.p2 (by omega);omega
theorem int.Both.phase:tG int.SR @int.Both:=iL.1
theorem list.Both.phase:tG list.SR @list.Both:=iL.2.1
theorem tree.Both.phase:tG tree.SR @tree.Both:=iL.2.2.1
theorem row.Both.phase:tG row.SR @row.Both:=iL.2.2.2
theorem int.Both.gB {σ:Type} {R:SR σ} {P:M.Plain σ} {L:Lt} {S:Nat→Prop} {E:bD σ} {Y:aR} {w:World} (h:Both R P L S E Y w):E.gB=Y.bs.length:=by obtain ⟨pb,nf,q,-,-⟩:=h.inv;exact q
theorem list.Both.gB {σ:Type} {R:SR σ} {P:M.Plain σ} {L:Lt} {S:Nat→Prop} {E:bD σ} {Y:aR} {w:World} (h:Both R P L S E Y w):E.gB=Y.bs.length:=by obtain ⟨pb,nf,q,-,-⟩:=h.inv;exact q
theorem tree.Both.gB {σ:Type} {R:SR σ} {P:M.Plain σ} {L:Lt} {S:Nat→Prop} {E:bD σ} {Y:aR} {w:World} (h:Both R P L S E Y w):E.gB=Y.bs.length:=by obtain ⟨pb,nf,q,-,-⟩:=h.inv;exact q
theorem row.Both.gB {σ:Type} {R:SR σ} {P:M.Plain σ} {L:Lt} {S:Nat→Prop} {E:bD σ} {Y:aR} {w:World} (h:Both R P L S E Y w):E.gB=Y.bs.length:=by obtain ⟨pb,nf,q,-,-⟩:=h.inv;exact q
theorem int.Both.can {σ:Type} {R:SR σ} {P:M.Plain σ} {L:Lt} {S:Nat→Prop} {E:bD σ} {Y:aR} {w:World} {t:Nat} (h:Both R P L S E Y w) (ht:t<L.n) (hN:Y.bs.length≤1000000000):sC L E t :=
 sC.of h.re.ok.n64 h.re.ok.RK h.inv h.LI (by rw [h.gB];exact hN) ht
theorem list.Both.can {σ:Type} {R:SR σ} {P:M.Plain σ} {L:Lt} {S:Nat→Prop} {E:bD σ} {Y:aR} {w:World} {t:Nat} (h:Both R P L S E Y w) (ht:t<L.n) (hN:Y.bs.length≤1000000000):sC L E t :=
 sC.of h.re.ok.n64 h.re.ok.RK h.inv h.LI (by rw [h.gB];exact hN) ht
theorem tree.Both.can {σ:Type} {R:SR σ} {P:M.Plain σ} {L:Lt} {S:Nat→Prop} {E:bD σ} {Y:aR} {w:World} {t:Nat} (h:Both R P L S E Y w) (ht:t<L.n) (hN:Y.bs.length≤1000000000):sC L E t :=
 sC.of h.re.ok.n64 h.re.ok.RK h.inv h.LI (by rw [h.gB];exact hN) ht
theorem row.Both.can {σ:Type} {R:SR σ} {P:M.Plain σ} {L:Lt} {S:Nat→Prop} {E:bD σ} {Y:aR} {w:World} {t:Nat} (h:Both R P L S E Y w) (ht:t<L.n) (hN:Y.bs.length≤1000000000):sC L E t :=
 sC.of h.re.ok.n64 h.re.ok.RK h.inv h.LI (by rw [h.gB];exact hN) ht
def yM (SR:Type→Type) (Both:{σ:Type}→SR σ→M.Plain σ→Lt→(Nat→Prop)→M.bD σ→M.aR→World→Prop) (qs:{σ:Type}→SR σ→σ→Nat):Prop:=∀ {σ:Type} {R:SR σ} {P:M.Plain σ} {L:Lt} {S:Nat→Prop} {E:bD σ} {Y:aR} {w:World} {t:Nat} (_h:Both R P L S E Y w) (_ht:t<L.n) (_hN:Y.bs.length≤1000000000) (_hF:Y.bs.flatten.length≤100000000000),(E.th t).phase=8→∀ v,(E.th t).now=some v→(qs R) v.st≤1000000000000
open row in
theorem lK:yM int.SR @int.Both @int.SR.sz∧yM list.SR @list.Both @list.SR.sz∧yM tree.SR @tree.Both @tree.SR.sz∧yM row.SR @row.Both @row.SR.sz:=by
 refine ⟨?_,?_,?_,?_⟩<;>intro σ R P L S E Y w t h ht hN hF
 all_goals
  exact fun p8=>by
    obtain ⟨-,h1,h2,-⟩:=(h.can ht hN).p8 p8;exact h.LA.bound ht hF (by omega) p8
theorem int.Both.sz8:yM int.SR @int.Both @int.SR.sz:=lK.1
theorem list.Both.sz8:yM list.SR @list.Both @list.SR.sz:=lK.2.1
theorem tree.Both.sz8:yM tree.SR @tree.Both @tree.SR.sz:=lK.2.2.1
theorem row.Both.sz8:yM row.SR @row.Both @row.SR.sz:=lK.2.2.2
theorem int.Both.spare {σ:Type} {R:SR σ} {P:M.Plain σ} {L:Lt} {S:Nat→Prop} {E:bD σ} {Y:aR} {w:World} {t:Nat} (h:Both R P L S E Y w) (ht:t<L.n):(E.th t).spare<2*L.n+1:=by
 obtain ⟨pb,nf,-,-,T⟩:=h.inv
 rcases (T t ht).sp with q|q<;>omega
theorem list.Both.spare {σ:Type} {R:SR σ} {P:M.Plain σ} {L:Lt} {S:Nat→Prop} {E:bD σ} {Y:aR} {w:World} {t:Nat} (h:Both R P L S E Y w) (ht:t<L.n):(E.th t).spare<2*L.n+1:=by
 obtain ⟨pb,nf,-,-,T⟩:=h.inv
 rcases (T t ht).sp with q|q<;>omega
theorem tree.Both.spare {σ:Type} {R:SR σ} {P:M.Plain σ} {L:Lt} {S:Nat→Prop} {E:bD σ} {Y:aR} {w:World} {t:Nat} (h:Both R P L S E Y w) (ht:t<L.n):(E.th t).spare<2*L.n+1:=by
 obtain ⟨pb,nf,-,-,T⟩:=h.inv
 rcases (T t ht).sp with q|q<;>omega
theorem row.Both.spare {σ:Type} {R:SR σ} {P:M.Plain σ} {L:Lt} {S:Nat→Prop} {E:bD σ} {Y:aR} {w:World} {t:Nat} (h:Both R P L S E Y w) (ht:t<L.n):(E.th t).spare<2*L.n+1:=by
 obtain ⟨pb,nf,-,-,T⟩:=h.inv
 rcases (T t ht).sp with q|q<;>omega
structure int.Goes {σ:Type} (R:SR σ) (P:M.Plain σ) (L:Lt) (S:Nat→Prop) (w:World) (Y':aR) (w':World):Prop where
 ex:∃ E',Both R P L (grown S w w') E' Y' w'
 fr:Fr L.own w w'
structure list.Goes {σ:Type} (R:SR σ) (P:M.Plain σ) (L:Lt) (S:Nat→Prop) (w:World) (Y':aR) (w':World):Prop where
 ex:∃ E',Both R P L (grown S w w') E' Y' w'
 fr:Fr L.own w w'
structure tree.Goes {σ:Type} (R:SR σ) (P:M.Plain σ) (L:Lt) (S:Nat→Prop) (w:World) (Y':aR) (w':World):Prop where
 ex:∃ E',Both R P L (grown S w w') E' Y' w'
 fr:Fr L.own w w'
structure row.Goes {σ:Type} (R:SR σ) (P:M.Plain σ) (L:Lt) (S:Nat→Prop) (w:World) (Y':aR) (w':World):Prop where
 ex:∃ E',Both R P L (grown S w w') E' Y' w'
 fr:Fr L.own w w'
theorem int.Goes.left {σ:Type} {R:SR σ} {P:M.Plain σ} {L:Lt} {S:Nat→Prop} {w:World} {E':bD σ} {Y':aR} {w':World} (h:aE R L S w E' w') (hi:M.Inv P L.n L.cap E' Y') (hb:M.SY L.n E') (hz:M.XB R.sz L.n E' Y'):Goes R P L S w Y' w':=⟨⟨E',h.re,hi,hb,hz⟩,h.fr⟩
theorem list.Goes.left {σ:Type} {R:SR σ} {P:M.Plain σ} {L:Lt} {S:Nat→Prop} {w:World} {E':bD σ} {Y':aR} {w':World} (h:aE R L S w E' w') (hi:M.Inv P L.n L.cap E' Y') (hb:M.SY L.n E') (hz:M.XB R.sz L.n E' Y'):Goes R P L S w Y' w':=⟨⟨E',h.re,hi,hb,hz⟩,h.fr⟩
theorem tree.Goes.left {σ:Type} {R:SR σ} {P:M.Plain σ} {L:Lt} {S:Nat→Prop} {w:World} {E':bD σ} {Y':aR} {w':World} (h:aE R L S w E' w') (hi:M.Inv P L.n L.cap E' Y') (hb:M.SY L.n E') (hz:M.XB R.sz L.n E' Y'):Goes R P L S w Y' w':=⟨⟨E',h.re,hi,hb,hz⟩,h.fr⟩
theorem row.Goes.left {σ:Type} {R:SR σ} {P:M.Plain σ} {L:Lt} {S:Nat→Prop} {w:World} {E':bD σ} {Y':aR} {w':World} (h:aE R L S w E' w') (hi:M.Inv P L.n L.cap E' Y') (hb:M.SY L.n E') (hz:M.XB R.sz L.n E' Y'):Goes R P L S w Y' w':=⟨⟨E',h.re,hi,hb,hz⟩,h.fr⟩
theorem int.Both.below {σ:Type} {R:SR σ} {P:M.Plain σ} {L:Lt} {S:Nat→Prop} {E:bD σ} {Y:aR} {w:World} (h:Both R P L S E Y w) {w':World} (hb:Below w.heap.size w w'):Goes R P L S w Y w':=Goes.left (aE.below h.re hb) h.inv h.LI h.LA
theorem list.Both.below {σ:Type} {R:SR σ} {P:M.Plain σ} {L:Lt} {S:Nat→Prop} {E:bD σ} {Y:aR} {w:World} (h:Both R P L S E Y w) {w':World} (hb:Below w.heap.size w w'):Goes R P L S w Y w':=Goes.left (aE.below h.re hb) h.inv h.LI h.LA
theorem tree.Both.below {σ:Type} {R:SR σ} {P:M.Plain σ} {L:Lt} {S:Nat→Prop} {E:bD σ} {Y:aR} {w:World} (h:Both R P L S E Y w) {w':World} (hb:Below w.heap.size w w'):Goes R P L S w Y w':=Goes.left (aE.below h.re hb) h.inv h.LI h.LA
theorem row.Both.below {σ:Type} {R:SR σ} {P:M.Plain σ} {L:Lt} {S:Nat→Prop} {E:bD σ} {Y:aR} {w:World} (h:Both R P L S E Y w) {w':World} (hb:Below w.heap.size w w'):Goes R P L S w Y w':=Goes.left (aE.below h.re hb) h.inv h.LI h.LA
def BM (SR:Type→Type) (Both:{σ:Type}→SR σ→M.Plain σ→Lt→(Nat→Prop)→M.bD σ→M.aR→World→Prop) (Goes:{σ:Type}→SR σ→M.Plain σ→Lt→(Nat→Prop)→World→M.aR→World→Prop) (n0:Nat):Prop:=∀ {σ:Type} {R:SR σ} {P:M.Plain σ} {L:Lt} {S:Nat→Prop} {E:bD σ} {Y:aR} {w:World} (_h:Both R P L S E Y w) (o:M.Op),(∀ x:Int,¬(0≤x∧x<L.n)→Calls prog n0 #[.pointer (some ⟨L.bE,0,none⟩),.int .i64 x,.agg #[.int .i64 o.c,.int .i64 o.a,.int .i64 o.b]] w fun e w'=>e = .returned (.int .i64 3)∧Goes R P L S w Y w')
  ∧ ∀ t,t<L.n→Calls prog n0 #[.pointer (some ⟨L.bE,0,none⟩),.int .i64 (t:Int),.agg #[.int .i64 o.c,.int .i64 o.a,.int .i64 o.b]] w fun e w'=>e = .returned (.int .i64 (if (Y.th t).part=0 then 0 else 4))∧Goes R P L S w (if (Y.th t).part=0 then M.eE Y t o else Y) w'
open row in
theorem nV:BM int.SR @int.Both @int.Goes 190∧BM list.SR @list.Both @list.Goes 250∧BM tree.SR @tree.Both @tree.Goes 324∧BM row.SR @row.Both @row.Goes 287:=by
 refine ⟨?_,?_,?_,?_⟩<;>intro σ R P L S E Y w h o
 all_goals
  refine ⟨fun x hx=>?_,fun t ht=>?_⟩
  ·refine (BN h.re x hx o).mono ?_
   rintro e w' ⟨rfl,hl⟩;exact ⟨rfl,Goes.left hl h.inv h.LI h.LA⟩
  ·by_cases q:(Y.th t).part=0
   ·simp only [aJ q]
    refine (yL h.re ht ((h.idle ht).mpr q) o).mono ?_;rintro e w' ⟨rfl,hl⟩;exact ⟨rfl,Goes.left hl (M.SL h.inv ht q o) (h.LI.begin ht o) (h.LA.begin o)⟩
   ·simp only [aN q]
    refine (yK h.re ht (fun c=>q ((h.idle ht).mp c)) o).mono ?_;rintro e w' ⟨rfl,hl⟩;exact ⟨rfl,Goes.left hl h.inv h.LI h.LA⟩
theorem int.vT:BM int.SR @int.Both @int.Goes 190:=nV.1
theorem list.vT:BM list.SR @list.Both @list.Goes 250:=nV.2.1
theorem tree.vT:BM tree.SR @tree.Both @tree.Goes 324:=nV.2.2.1
theorem row.vT:BM row.SR @row.Both @row.Goes 287:=nV.2.2.2
def FG (SR:Type→Type) (bG:RF SR) (Both:{σ:Type}→SR σ→M.Plain σ→Lt→(Nat→Prop)→M.bD σ→M.aR→World→Prop) (Goes:{σ:Type}→SR σ→M.Plain σ→Lt→(Nat→Prop)→World→M.aR→World→Prop) (n0:Nat):Prop:=∀ {σ:Type} {R:SR σ} {P:M.Plain σ} {L:Lt} {S:Nat→Prop} {E:bD σ} {Y:aR} {w:World} {fA:Nat} {rv:Value} (_hA:bG R P L fA rv) (_h:Both R P L S E Y w) (_hN:Y.bs.length≤1000000000) (_hF:Y.bs.flatten.length≤100000000000),(∀ x:Int,¬(0≤x∧x<L.n)→Calls prog n0 #[.pointer (some ⟨L.bE,0,none⟩),.int .i64 x] w fun e w'=>e = .returned (.tuple #[.int .i64 0,.int .i64 3])∧Goes R P L S w Y w')
  ∧ (∀ t,t<L.n→(Y.th t).part=0→Calls prog n0 #[.pointer (some ⟨L.bE,0,none⟩),.int .i64 (t:Int)] w fun e w'=>e = .returned (.tuple #[.int .i64 0,.int .i64 5])∧Goes R P L S w Y w')
  ∧ ∀ t,t<L.n→(Y.th t).part≠0→Calls prog n0 #[.pointer (some ⟨L.bE,0,none⟩),.int .i64 (t:Int)] w fun e w'=>e = .returned (.tuple #[.int .i64 (if (M.dZ L.n L.cap Y t).2=true then 2 else 1),.int .i64 0])∧Goes R P L S w (M.dZ L.n L.cap Y t).1 w'
open row in
theorem qZ:FG int.SR @int.bG @int.Both @int.Goes 195∧FG list.SR @list.bG @list.Both @list.Goes 255∧FG tree.SR @tree.bG @tree.Both @tree.Goes 329∧FG row.SR @row.bG @row.Both @row.Goes 292:=by
 refine ⟨?_,?_,?_,?_⟩<;>intro σ R P L S E Y w fA rv hA h hN hF
 all_goals
  refine ⟨fun x hx=>?_,fun t ht hp=>?_,fun t ht hp=>?_⟩
  ·refine (FH h.re x hx).mono ?_
   rintro e w' ⟨rfl,rfl⟩;exact ⟨rfl,h.below (aT _ _)⟩
  ·refine (BW h.re ht ((h.idle ht).mpr hp)).mono ?_
   rintro e w' ⟨rfl,rfl⟩;exact ⟨rfl,h.below (aT _ _)⟩
  ·have eA:1≤(E.th t).phase:=by have:=mt (h.idle ht).mp hp;omega
   obtain ⟨s1,s2⟩:=M.IA (cH (by decide) h.re.ok.n1) h.inv ht hp;refine (BV hA h.re ht (h.can ht hN) (h.sz8 ht hN hF) eA (h.phase ht)).mono ?_;rintro e w' ⟨rfl,hl⟩;have hB:Both R P L (grown S w w') (M.step P L.n L.cap E t) (M.dZ L.n L.cap Y t).1 w':=⟨hl.re,s1,h.LI.step ht (h.spare ht),h.LA.step hA.z h.inv ht⟩;refine ⟨?_,⟨_,hB⟩,hl.fr⟩;rw [s2];have:=hB.idle ht
   by_cases q:((M.dZ L.n L.cap Y t).1.th t).part=0
   ·rw [aJ (this.mpr q),aJ (by simpa using q)]
   ·rw [aN (fun c=>q (this.mp c)),aN (by simpa using q)]
theorem int.JJ:FG int.SR @int.bG @int.Both @int.Goes 195:=qZ.1
theorem list.JJ:FG list.SR @list.bG @list.Both @list.Goes 255:=qZ.2.1
theorem tree.JJ:FG tree.SR @tree.bG @tree.Both @tree.Goes 329:=qZ.2.2.1
theorem row.JJ:FG row.SR @row.bG @row.Both @row.Goes 292:=qZ.2.2.2
def int.XD {σ:Type} (P:M.Plain σ) (Y:aR) (t:Nat):M.az:=(M.replay P (fun k i=>((Y.th k).ops).getD i ⟨0,0,0⟩) Y.bs).an t
def yI (SR:Type→Type) (Both:{σ:Type}→SR σ→M.Plain σ→Lt→(Nat→Prop)→M.bD σ→M.aR→World→Prop) (n0:Nat):Prop:=∀ {σ:Type} {R:SR σ} {P:M.Plain σ} {L:Lt} {S:Nat→Prop} {E:bD σ} {Y:aR} {w:World} (_h:Both R P L S E Y w),(∀ x:Int,¬(0≤x∧x<L.n)→Calls prog n0 #[.pointer (some ⟨L.bE,0,none⟩),.int .i64 x] w fun e w'=>e = .returned (.tuple #[.agg #[.int .i64 0,.int .i64 0],.int .i64 3])∧Below w.heap.size w w')
  ∧ ∀ t,t<L.n→Calls prog n0 #[.pointer (some ⟨L.bE,0,none⟩),.int .i64 (t:Int)] w fun e w'=>e = .returned (if (Y.th t).part≠0 then .tuple #[.agg #[.int .i64 0,.int .i64 0],.int .i64 4] else if (Y.th t).ended=0 then .tuple #[.agg #[.int .i64 0,.int .i64 0],.int .i64 5] else .tuple #[.agg #[.int .i64 (XD P Y t).s,.int .i64 (XD P Y t).v],.int .i64 0])∧Below w.heap.size w w'
open row in
theorem lJ:yI int.SR @int.Both 189∧yI list.SR @list.Both 249∧yI tree.SR @tree.Both 323∧yI row.SR @row.Both 286:=by
 refine ⟨?_,?_,?_,?_⟩<;>intro σ R P L S E Y w h
 all_goals
  refine ⟨fun x hx=>yJ h.re x hx,fun t ht=>?_⟩;have hi:=h.idle ht;obtain ⟨pb,nf,-,-,T⟩:=h.inv;have X:=T t ht
  by_cases q:(Y.th t).part=0
  ·rw [aN (by simpa using q)]
   by_cases c:(Y.th t).ended=0
   ·rw [aJ c]
    exact vR h.re ht (hi.mpr q) (by rw [X.en];simp [c])
   ·rw [aN c]
    obtain ⟨a1,a2⟩:=X.a0 q (by omega);have e1:(E.th t).VI=(XD P Y t).s:=a1;have e2:(E.th t).val=(XD P Y t).v:=a2;have:=vQ h.re ht (hi.mpr q) (by rw [X.en];simp;omega);rw [e1,e2] at this;exact this
  ·rw [aJ q]
   exact vP h.re ht (fun c=>q (hi.mp c))
theorem int.xM:yI int.SR @int.Both 189:=lJ.1
theorem list.xM:yI list.SR @list.Both 249:=lJ.2.1
theorem tree.xM:yI tree.SR @tree.Both 323:=lJ.2.2.1
theorem row.xM:yI row.SR @row.Both 286:=lJ.2.2.2
attribute [local go_sem ↓] Go.wp_at_zero Go.wp_at_succ
def int.numOf:List (Nat×List Nat)→Nat | []=>0|(q,_)::_=>q
theorem int.dX.num {I:Nat→Prop} {w:World} {bs:List (Nat×List Nat)} {b:Nat} (h:dX I w bs b):w.cell? ⟨b,0,none⟩=some (.int .i64 (numOf bs:Int)):=by
 cases bs with
 |nil=>exact h.2.cell_of rfl
 |cons x bs =>
  obtain ⟨v,b',-,h2,-⟩:=h;exact h2.cell_of rfl
def int.eL:Prop:=∀ {σ:Type} {R:SR σ} {L:Lt} {S:Nat→Prop} {E:bD σ} {w:World} (_h:RE R L S E w) {v f:eX σ} (_hv:E.lI E.prec=some (v,f)) (_hp:E.prec<2*L.n+1) (_hN:E.gB≤1000000000) (_RG:numOf v.bs.reverse=E.gB),Calls prog 217 #[.pointer (some ⟨L.bS,0,none⟩),.int .i64 ((E.gB:Int)*129+(E.prec:Int))] w fun e w'=>∃ q0 bB,e = .returned (.agg #[.int .i64 q0,.pointer (some ⟨bB,0,none⟩)])∧R.rep (fun k=>S k∧¬L.own k) w v.st [.int .i64 q0]∧dX (fun k=>S k∧¬L.own k) w v.bs.reverse bB∧Below w.heap.size w w'
def list.eL:Prop:=∀ {σ:Type} {R:SR σ} {L:Lt} {S:Nat→Prop} {E:bD σ} {w:World} (_h:RE R L S E w) {v f:eX σ} (_hv:E.lI E.prec=some (v,f)) (_hp:E.prec<2*L.n+1) (_hN:E.gB≤1000000000) (_RG:numOf v.bs.reverse=E.gB),Calls prog 276 #[.pointer (some ⟨L.bS,0,none⟩),.int .i64 ((E.gB:Int)*129+(E.prec:Int))] w fun e w'=>∃ q0 bB,e = .returned (.agg #[.pointer q0,.pointer (some ⟨bB,0,none⟩)])∧R.rep (fun k=>S k∧¬L.own k) w v.st [.pointer q0]∧dX (fun k=>S k∧¬L.own k) w v.bs.reverse bB∧Below w.heap.size w w'
def tree.eL:Prop:=∀ {σ:Type} {R:SR σ} {L:Lt} {S:Nat→Prop} {E:bD σ} {w:World} (_h:RE R L S E w) {v f:eX σ} (_hv:E.lI E.prec=some (v,f)) (_hp:E.prec<2*L.n+1) (_hN:E.gB≤1000000000) (_RG:numOf v.bs.reverse=E.gB),Calls prog 350 #[.pointer (some ⟨L.bS,0,none⟩),.int .i64 ((E.gB:Int)*129+(E.prec:Int))] w fun e w'=>∃ q0 bB,e = .returned (.agg #[.pointer q0,.pointer (some ⟨bB,0,none⟩)])∧R.rep (fun k=>S k∧¬L.own k) w v.st [.pointer q0]∧dX (fun k=>S k∧¬L.own k) w v.bs.reverse bB∧Below w.heap.size w w'
theorem qH:int.eL∧list.eL∧tree.eL:=by
 refine ⟨@mkK _ 0 ?_,@mkK _ 1 ?_,@mkK _ 2 ?_⟩<;>intro kk σ R L S E w h v f hv hp hN FZ
 all_goals
  first
   |have:=kA kk
    obtain ⟨b,cv,cf,ic,-,hrow,zM,hfr⟩:∃ b cv cf,w.cell? ⟨L.bP,E.prec*2+1,none⟩=some (.pointer (some ⟨b,0,none⟩))∧(S b∧¬L.own b)∧Row w b 227 (cv++cf)∧int.bH R (fun k=>S k∧¬L.own k) w v cv∧int.bH R (fun k=>S k∧¬L.own k) w f cf:=by
     obtain ⟨sp,q1,q2⟩:=h.po;obtain ⟨b,cv,cf,a1,a2,a3,a4,a5⟩:=q2 E.prec hp v f hv;refine ⟨b,cv,cf,?_,a2,a3,a4,a5⟩;have:=q1.cell hp (show 1<2 by decide);rw [this,a1];rfl
   |have:=kB kk
    obtain ⟨b,cv,cf,ic,-,hrow,zM,hfr⟩:∃ b cv cf,w.cell? ⟨L.bP,E.prec*2+1,none⟩=some (.pointer (some ⟨b,0,none⟩))∧(S b∧¬L.own b)∧Row w b 241 (cv++cf)∧list.bH R (fun k=>S k∧¬L.own k) w v cv∧list.bH R (fun k=>S k∧¬L.own k) w f cf:=by
     obtain ⟨sp,q1,q2⟩:=h.po;obtain ⟨b,cv,cf,a1,a2,a3,a4,a5⟩:=q2 E.prec hp v f hv;refine ⟨b,cv,cf,?_,a2,a3,a4,a5⟩;have:=q1.cell hp (show 1<2 by decide);rw [this,a1];rfl
   |have:=kC kk
    obtain ⟨b,cv,cf,ic,-,hrow,zM,hfr⟩:∃ b cv cf,w.cell? ⟨L.bP,E.prec*2+1,none⟩=some (.pointer (some ⟨b,0,none⟩))∧(S b∧¬L.own b)∧Row w b 269 (cv++cf)∧tree.bH R (fun k=>S k∧¬L.own k) w v cv∧tree.bH R (fun k=>S k∧¬L.own k) w f cf:=by
     obtain ⟨sp,q1,q2⟩:=h.po;obtain ⟨b,cv,cf,a1,a2,a3,a4,a5⟩:=q2 E.prec hp v f hv;refine ⟨b,cv,cf,?_,a2,a3,a4,a5⟩;have:=q1.cell hp (show 1<2 by decide);rw [this,a1];rfl
  obtain ⟨sc,bB,rfl,QM,WR⟩:=zM;obtain ⟨x0,rfl⟩:=uX (R.len QM);obtain ⟨q0,rfl⟩:=R.shape QM x0 (by simp);obtain ⟨y0,y1,rfl⟩:=aF (bH.len R hfr);have hn:=h.ok.n64;have c4:w.cell? ⟨L.bS,4,none⟩=some (.slice (some ⟨L.bP,0,none⟩) (2*L.n+1) (2*L.n+1)):=h.sh.cell_of rfl;have cB:=WR.num;rw [FZ] at cB;have hm:=aA (show (((E.gB:Int)*129+(E.prec:Int)) % 129=(E.prec:Int))∧(((E.gB:Int)*129+(E.prec:Int)) / 129=(E.gB:Int)) by omega);have hp':(E.prec:Int)<2*(L.n:Int)+1:=by omega
  have hp0:(0:Int)≤(E.prec:Int):=by omega
  have nA:=aA (aP QM WR);have aEb:=aA hrow;have HPB:=aA ic;have HCB:=aA cB;have HC4:=aA c4;clear h hv hfr QM WR hrow ic cB c4 FZ
  first|(have:=kA kk;go_enter func217,ntmps217)|(have:=kB kk;go_enter func276,ntmps276)|(have:=kC kk;go_enter func350,ntmps350)
  go_wp2;generalize pT:World.alloc w _=W0;have hb0:Below w.heap.size w W0:=by rw [←pT];exact aB w _
  have d4:=aI hb0 HC4.out;have HDP:=aA (aI hb0 HPB.out);have HDR:=aA (aEb.out.old hb0);have dB:=aI hb0 HCB.out
  first|(have:=kA kk;have HZ0:=aA (show Row W0 w.heap.size 225 ([.int .i64 0]++[.pointer none]) by rw [←pT];exact aV rfl))|(have:=kB kk;have HZ0:=aA (show Row W0 w.heap.size 239 ([.pointer none]++[.pointer none]) by rw [←pT];exact aV rfl))|(have:=kC kk;have HZ0:=aA (show Row W0 w.heap.size 267 ([.pointer none]++[.pointer none]) by rw [←pT];exact aV rfl))
  have fG:=aA hb0;clear pT hb0;have A1:=aA (fun n=>tA (n:=n) (xZ ((E.gB:Int)*129+(E.prec:Int)) (W0.drewN n) (by omega) (by omega)));rw [hm.out.1] at A1
  first|(have:=kA kk;have A2:=aA (fun n=>tA (n:=n) (int.lY L.bP (E.prec*2+1) b _ (W0.drewN n) HDP.out (HDR.out.drewN _) rfl)))|(have:=kB kk;have A2:=aA (fun n=>tA (n:=n) (list.lY L.bP (E.prec*2+1) b _ (W0.drewN n) HDP.out (HDR.out.drewN _) rfl)))|(have:=kC kk;have A2:=aA (fun n=>tA (n:=n) (tree.lY L.bP (E.prec*2+1) b _ (W0.drewN n) HDP.out (HDR.out.drewN _) rfl)))
  first|(have:=kA kk;go_quiet ((first|(go_at_call 223;with_reducible exact A1.out _)|(go_at_call 238;with_reducible exact A2.out _))))|(have:=kB kk;go_quiet ((first|(go_at_call 223;with_reducible exact A1.out _)|(go_at_call 285;with_reducible exact A2.out _))))|(have:=kC kk;go_quiet ((first|(go_at_call 223;with_reducible exact A1.out _)|(go_at_call 359;with_reducible exact A2.out _))))
  generalize RR:World.drewN W0 nq=W5;have GD:=HDR.out.drewN nq;rw [RR] at GD;have HR5:=aA GD;clear GD;have k1:W5.cell? ⟨b,1,none⟩=some (.pointer (some ⟨bB,0,none⟩)):=HR5.out.cell_of rfl;have k2:W5.cell? ⟨bB,0,none⟩=some (.int .i64 (E.gB:Int)):=by rw [←RR];exact dB
  first|(have:=kA kk;have HZ5:=aA (show Row W5 w.heap.size 225 ([.int .i64 0]++[.pointer none]) by rw [←RR];exact HZ0.out))|(have:=kB kk;have HZ5:=aA (show Row W5 w.heap.size 239 ([.pointer none]++[.pointer none]) by rw [←RR];exact HZ0.out))|(have:=kC kk;have HZ5:=aA (show Row W5 w.heap.size 267 ([.pointer none]++[.pointer none]) by rw [←RR];exact HZ0.out))
  have JE:=aA (show Below w.heap.size w W5 by rw [←RR];exact aX fG.out _);clear RR d4 dB A1 A2;have A3:=aA (fun n=>tA (n:=n) (yA ((E.gB:Int)*129+(E.prec:Int)) (W5.drewN n) (by omega) (by omega)));rw [hm.out.2] at A3;go_wp2;go_quiet ((go_at_call 226;with_reducible exact A3.out _));generalize UA:World.drewN W5 nq=W6;have hE6:=HR5.out.drewN nq;rw [UA] at hE6
  first|(have:=kA kk;have yo:Row W6 w.heap.size 225 ([.int .i64 0]++[.pointer none]):=by rw [←UA];exact HZ5.out)|(have:=kB kk;have yo:Row W6 w.heap.size 239 ([.pointer none]++[.pointer none]):=by rw [←UA];exact HZ5.out)|(have:=kC kk;have yo:Row W6 w.heap.size 267 ([.pointer none]++[.pointer none]):=by rw [←UA];exact HZ5.out)
  have y0:W6.cell? ⟨b,0,none⟩=some _:=hE6.cell_of rfl;have y1:W6.cell? ⟨b,1,none⟩=some _:=hE6.cell_of rfl;have z0:W6.cell? ⟨w.heap.size,0,none⟩=some _:=yo.cell_of rfl;have z1:W6.cell? ⟨w.heap.size,1,none⟩=some _:=yo.cell_of rfl;have zf:=yo.frozen;have HB6:=aA (show Below w.heap.size w W6 by rw [←UA];exact aX JE.out _);clear UA k1 k2 hE6 yo A3;go_wp2
  first|(have:=kA kk;refine cR (v:=.agg #[.int .i64 q0,.pointer (some ⟨bB,0,none⟩)]) (by simp [results,results217,go_sem, *]) rfl ⟨q0,bB,rfl,nA.out.1,nA.out.2,?_⟩)|(have:=kB kk;refine cR (v:=.agg #[.pointer q0,.pointer (some ⟨bB,0,none⟩)]) (by simp [results,results276,go_sem, *]) rfl ⟨q0,bB,rfl,nA.out.1,nA.out.2,?_⟩)|(have:=kC kk;refine cR (v:=.agg #[.pointer q0,.pointer (some ⟨bB,0,none⟩)]) (by simp [results,results350,go_sem, *]) rfl ⟨q0,bB,rfl,nA.out.1,nA.out.2,?_⟩)
  repeat (refine Below.setCell ?_ (by simp) _)
  exact HB6.out
theorem int.mN:eL:=qH.1
theorem list.mN:eL:=qH.2.1
theorem tree.mN:eL:=qH.2.2
theorem row.mN {σ:Type} {R:SR σ} {L:Lt} {S:Nat→Prop} {E:bD σ} {w:World} (h:RE R L S E w) {v f:eX σ} (hv:E.lI E.prec=some (v,f)) (hp:E.prec<2*L.n+1) (hN:E.gB≤1000000000) (FZ:numOf v.bs.reverse=E.gB) :
  Calls prog 313 #[.pointer (some ⟨L.bS,0,none⟩),.int .i64 ((E.gB:Int)*129+(E.prec:Int))] w fun e w'=>∃ q0 q1 bB,e = .returned (.agg #[.pointer q0,.pointer q1,.pointer (some ⟨bB,0,none⟩)])∧R.rep (fun k=>S k∧¬L.own k) w v.st [.pointer q0,.pointer q1]∧dX (fun k=>S k∧¬L.own k) w v.bs.reverse bB∧Below w.heap.size w w':=by
 obtain ⟨b,cv,cf,ic,-,hrow,zM,hfr⟩:∃ b cv cf,w.cell? ⟨L.bP,E.prec*2+1,none⟩=some (.pointer (some ⟨b,0,none⟩))∧(S b∧¬L.own b)∧Row w b 255 (cv++cf)∧bH R (fun k=>S k∧¬L.own k) w v cv∧bH R (fun k=>S k∧¬L.own k) w f cf:=by
  obtain ⟨sp,q1,q2⟩:=h.po;obtain ⟨b,cv,cf,a1,a2,a3,a4,a5⟩:=q2 E.prec hp v f hv;refine ⟨b,cv,cf,?_,a2,a3,a4,a5⟩;have:=q1.cell hp (show 1<2 by decide);rw [this,a1];rfl
 obtain ⟨sc,bB,rfl,QM,WR⟩:=zM;obtain ⟨x0,x1,rfl⟩:=OM (R.len QM);obtain ⟨q0,rfl⟩:=R.shape QM x0 (by simp);obtain ⟨q1,rfl⟩:=R.shape QM x1 (by simp);obtain ⟨y0,y1,y2,rfl⟩:=aF (bH.len R hfr);have hn:=h.ok.n64;have c4:w.cell? ⟨L.bS,4,none⟩=some (.slice (some ⟨L.bP,0,none⟩) (2*L.n+1) (2*L.n+1)):=h.sh.cell_of rfl;have cB:=WR.num;rw [FZ] at cB;have hm:=aA (show (((E.gB:Int)*129+(E.prec:Int)) % 129=(E.prec:Int))∧(((E.gB:Int)*129+(E.prec:Int)) / 129=(E.gB:Int)) by omega);have hp':(E.prec:Int)<2*(L.n:Int)+1:=by omega
 have hp0:(0:Int)≤(E.prec:Int):=by omega
 have nA:=aA (aP QM WR);have aEb:=aA hrow;have HPB:=aA ic;have HCB:=aA cB;have HC4:=aA c4;clear h hv hfr QM WR hrow ic cB c4 FZ;go_enter func313,ntmps313;go_wp2;generalize pT:World.alloc w _=W0;have hb0:Below w.heap.size w W0:=by rw [←pT];exact aB w _
 have d4:=aI hb0 HC4.out;have HDP:=aA (aI hb0 HPB.out);have HDR:=aA (aEb.out.old hb0);have dB:=aI hb0 HCB.out;have HZ0:=aA (show Row W0 w.heap.size 253 ([.pointer none,.pointer none]++[.pointer none]) by rw [←pT];exact aV rfl);have fG:=aA hb0;clear pT hb0;have A1:=aA (fun n=>tA (n:=n) (xZ ((E.gB:Int)*129+(E.prec:Int)) (W0.drewN n) (by omega) (by omega)));rw [hm.out.1] at A1;have A2:=aA (fun n=>tA (n:=n) (lY L.bP (E.prec*2+1) b _ (W0.drewN n) HDP.out (HDR.out.drewN _) rfl));go_quiet ((first|(go_at_call 223;with_reducible exact A1.out _)|(go_at_call 322;with_reducible exact A2.out _)));generalize RR:World.drewN W0 nq=W5;have GD:=HDR.out.drewN nq;rw [RR] at GD;have HR5:=aA GD;clear GD;have k1:W5.cell? ⟨b,2,none⟩=some (.pointer (some ⟨bB,0,none⟩)):=HR5.out.cell_of rfl;have k2:W5.cell? ⟨bB,0,none⟩=some (.int .i64 (E.gB:Int)):=by rw [←RR];exact dB
 have HZ5:=aA (show Row W5 w.heap.size 253 ([.pointer none,.pointer none]++[.pointer none]) by rw [←RR];exact HZ0.out);have JE:=aA (show Below w.heap.size w W5 by rw [←RR];exact aX fG.out _);clear RR d4 dB A1 A2;have A3:=aA (fun n=>tA (n:=n) (yA ((E.gB:Int)*129+(E.prec:Int)) (W5.drewN n) (by omega) (by omega)));rw [hm.out.2] at A3;go_wp2;go_quiet ((go_at_call 226;with_reducible exact A3.out _));generalize UA:World.drewN W5 nq=W6;have hE6:=HR5.out.drewN nq;rw [UA] at hE6;have yo:Row W6 w.heap.size 253 ([.pointer none,.pointer none]++[.pointer none]):=by rw [←UA];exact HZ5.out
 have y0:W6.cell? ⟨b,0,none⟩=some _:=hE6.cell_of rfl;have y1:W6.cell? ⟨b,1,none⟩=some _:=hE6.cell_of rfl;have y2:W6.cell? ⟨b,2,none⟩=some _:=hE6.cell_of rfl;have z0:W6.cell? ⟨w.heap.size,0,none⟩=some _:=yo.cell_of rfl;have z1:W6.cell? ⟨w.heap.size,1,none⟩=some _:=yo.cell_of rfl;have z2:W6.cell? ⟨w.heap.size,2,none⟩=some _:=yo.cell_of rfl;have zf:=yo.frozen;have HB6:=aA (show Below w.heap.size w W6 by rw [←UA];exact aX JE.out _);clear UA k1 k2 hE6 yo A3;go_wp2;refine cR (v:=.agg #[.pointer q0,.pointer q1,.pointer (some ⟨bB,0,none⟩)]) (by simp [results,results313,go_sem, *]) rfl ⟨q0,q1,bB,rfl,nA.out.1,nA.out.2,?_⟩
 repeat (refine Below.setCell ?_ (by simp) _)
 exact HB6.out
def int.mG:Prop:=∀ {σ:Type} {R:SR σ} {L:Lt} {S:Nat→Prop} {E:bD σ} {w:World} (_h:RE R L S E w) {v f:eX σ} (_hv:E.lI E.prec=some (v,f)) (_hp:E.prec<2*L.n+1) (_hN:E.gB≤1000000000) (_RG:numOf v.bs.reverse=E.gB),Calls prog 202 #[.pointer (some ⟨L.bS,0,none⟩)] w fun e w'=>∃ q0 bB,e = .returned (.agg #[.int .i64 q0,.pointer (some ⟨bB,0,none⟩)])∧R.rep (fun k=>S k∧¬L.own k) w v.st [.int .i64 q0]∧dX (fun k=>S k∧¬L.own k) w v.bs.reverse bB∧Below w.heap.size w w'
def list.mG:Prop:=∀ {σ:Type} {R:SR σ} {L:Lt} {S:Nat→Prop} {E:bD σ} {w:World} (_h:RE R L S E w) {v f:eX σ} (_hv:E.lI E.prec=some (v,f)) (_hp:E.prec<2*L.n+1) (_hN:E.gB≤1000000000) (_RG:numOf v.bs.reverse=E.gB),Calls prog 261 #[.pointer (some ⟨L.bS,0,none⟩)] w fun e w'=>∃ q0 bB,e = .returned (.agg #[.pointer q0,.pointer (some ⟨bB,0,none⟩)])∧R.rep (fun k=>S k∧¬L.own k) w v.st [.pointer q0]∧dX (fun k=>S k∧¬L.own k) w v.bs.reverse bB∧Below w.heap.size w w'
def tree.mG:Prop:=∀ {σ:Type} {R:SR σ} {L:Lt} {S:Nat→Prop} {E:bD σ} {w:World} (_h:RE R L S E w) {v f:eX σ} (_hv:E.lI E.prec=some (v,f)) (_hp:E.prec<2*L.n+1) (_hN:E.gB≤1000000000) (_RG:numOf v.bs.reverse=E.gB),Calls prog 335 #[.pointer (some ⟨L.bS,0,none⟩)] w fun e w'=>∃ q0 bB,e = .returned (.agg #[.pointer q0,.pointer (some ⟨bB,0,none⟩)])∧R.rep (fun k=>S k∧¬L.own k) w v.st [.pointer q0]∧dX (fun k=>S k∧¬L.own k) w v.bs.reverse bB∧Below w.heap.size w w'
theorem ES:int.mG∧list.mG∧tree.mG:=by
 refine ⟨@mkK _ 0 ?_,@mkK _ 1 ?_,@mkK _ 2 ?_⟩<;>intro kk σ R L S E w h v f hv hp hN FZ
 all_goals
  have c5:w.cell? ⟨L.bS,5,none⟩=some (.int .i64 ((E.gB:Int)*129+(E.prec:Int))):=h.sh.cell_of rfl;have HH:=aA h;have WY:=aA c5;have HV:=aA (aP hv FZ);clear h c5 hv FZ
  first|(have:=kA kk;go_enter func202,ntmps202)|(have:=kB kk;go_enter func261,ntmps261)|(have:=kC kk;go_enter func335,ntmps335)
  go_wp2_with fail;refine (CR L.bS 5 _ _ (bO WY.out _)).mono ?_;rintro e w1 ⟨rfl,rfl⟩;go_wp2_with fail;refine (mN (S:=S) (HH.out.stay (fun k hk=>(aB w _).block k (HH.out.lt k hk)) (fun _ hk=>hk) (fun k hk=>cH (HH.out.lt k hk) (by simp))) HV.out.1 hp hN HV.out.2).mono ?_;rintro e w2 ⟨q0,bB,rfl,BA,zK,bI⟩
  first|(have:=kA kk;have hZ:Row w2 w.heap.size 225 ([.int .i64 0]++[.pointer none]):=(aV rfl).old bI)|(have:=kB kk;have hZ:Row w2 w.heap.size 239 ([.pointer none]++[.pointer none]):=(aV rfl).old bI)|(have:=kC kk;have hZ:Row w2 w.heap.size 267 ([.pointer none]++[.pointer none]):=(aV rfl).old bI)
  have HB:=aA (aS (aB w _) bI (by simp))
  first|(have:=kA kk;have nA:=aA (aP (R.stay (fun k hk _=>⟨hk,((aB w _).block k (HH.out.lt k hk.1)).symm⟩) BA) (int.dX.stay (fun k hk _=>⟨hk,((aB w _).block k (HH.out.lt k hk.1)).symm⟩) (fun k hk=>cH (HH.out.lt k hk.1) (by simp)) _ _ zK)))|(have:=kB kk;have nA:=aA (aP (R.stay (fun k hk _=>⟨hk,((aB w _).block k (HH.out.lt k hk.1)).symm⟩) BA) (list.dX.stay (fun k hk _=>⟨hk,((aB w _).block k (HH.out.lt k hk.1)).symm⟩) (fun k hk=>cH (HH.out.lt k hk.1) (by simp)) _ _ zK)))|(have:=kC kk;have nA:=aA (aP (R.stay (fun k hk _=>⟨hk,((aB w _).block k (HH.out.lt k hk.1)).symm⟩) BA) (tree.dX.stay (fun k hk _=>⟨hk,((aB w _).block k (HH.out.lt k hk.1)).symm⟩) (fun k hk=>cH (HH.out.lt k hk.1) (by simp)) _ _ zK)))
  have z0:w2.cell? ⟨w.heap.size,0,none⟩=some _:=hZ.cell_of rfl;have z1:w2.cell? ⟨w.heap.size,1,none⟩=some _:=hZ.cell_of rfl;have zf:=hZ.frozen;clear hZ bI BA zK;go_wp2
  first|(have:=kA kk;refine cR (v:=.agg #[.int .i64 q0,.pointer (some ⟨bB,0,none⟩)]) (by simp [results,results202,go_sem, *]) rfl ⟨q0,bB,rfl,nA.out.1,nA.out.2,?_⟩)|(have:=kB kk;refine cR (v:=.agg #[.pointer q0,.pointer (some ⟨bB,0,none⟩)]) (by simp [results,results261,go_sem, *]) rfl ⟨q0,bB,rfl,nA.out.1,nA.out.2,?_⟩)|(have:=kC kk;refine cR (v:=.agg #[.pointer q0,.pointer (some ⟨bB,0,none⟩)]) (by simp [results,results335,go_sem, *]) rfl ⟨q0,bB,rfl,nA.out.1,nA.out.2,?_⟩)
  repeat (refine Below.setCell ?_ (by simp) _)
  exact HB.out
theorem int.uZ:mG:=ES.1
theorem list.uZ:mG:=ES.2.1
theorem tree.uZ:mG:=ES.2.2
theorem row.uZ {σ:Type} {R:SR σ} {L:Lt} {S:Nat→Prop} {E:bD σ} {w:World} (h:RE R L S E w) {v f:eX σ} (hv:E.lI E.prec=some (v,f)) (hp:E.prec<2*L.n+1) (hN:E.gB≤1000000000) (FZ:numOf v.bs.reverse=E.gB) :
  Calls prog 298 #[.pointer (some ⟨L.bS,0,none⟩)] w fun e w'=>∃ q0 q1 bB,e = .returned (.agg #[.pointer q0,.pointer q1,.pointer (some ⟨bB,0,none⟩)])∧R.rep (fun k=>S k∧¬L.own k) w v.st [.pointer q0,.pointer q1]∧dX (fun k=>S k∧¬L.own k) w v.bs.reverse bB∧Below w.heap.size w w':=by
 have c5:w.cell? ⟨L.bS,5,none⟩=some (.int .i64 ((E.gB:Int)*129+(E.prec:Int))):=h.sh.cell_of rfl;have HH:=aA h;have WY:=aA c5;have HV:=aA (aP hv FZ);clear h c5 hv FZ;go_enter func298,ntmps298;go_wp2_with fail;refine (CR L.bS 5 _ _ (bO WY.out _)).mono ?_;rintro e w1 ⟨rfl,rfl⟩;go_wp2_with fail;refine (mN (S:=S) (HH.out.stay (fun k hk=>(aB w _).block k (HH.out.lt k hk)) (fun _ hk=>hk) (fun k hk=>cH (HH.out.lt k hk) (by simp))) HV.out.1 hp hN HV.out.2).mono ?_;rintro e w2 ⟨q0,q1,bB,rfl,BA,zK,bI⟩;have hZ:Row w2 w.heap.size 253 ([.pointer none,.pointer none]++[.pointer none]):=(aV rfl).old bI;have HB:=aA (aS (aB w _) bI (by simp));have nA:=aA (aP (R.stay (fun k hk _=>⟨hk,((aB w _).block k (HH.out.lt k hk.1)).symm⟩) BA) (dX.stay (fun k hk _=>⟨hk,((aB w _).block k (HH.out.lt k hk.1)).symm⟩) (fun k hk=>cH (HH.out.lt k hk.1) (by simp)) _ _ zK));have z0:w2.cell? ⟨w.heap.size,0,none⟩=some _:=hZ.cell_of rfl;have z1:w2.cell? ⟨w.heap.size,1,none⟩=some _:=hZ.cell_of rfl;have z2:w2.cell? ⟨w.heap.size,2,none⟩=some _:=hZ.cell_of rfl;have zf:=hZ.frozen;clear hZ bI BA zK;go_wp2;refine cR (v:=.agg #[.pointer q0,.pointer q1,.pointer (some ⟨bB,0,none⟩)]) (by simp [results,results298,go_sem, *]) rfl ⟨q0,q1,bB,rfl,nA.out.1,nA.out.2,?_⟩
 repeat (refine Below.setCell ?_ (by simp) _)
 exact HB.out
end Go.Proofs.YtefjhnhdagolhaaGreat
namespace Go.Proofs.YtefjhnhdagolhaaGreat
open Tryz
open int list tree
open Go.RowKit
open M (aM aC aD eX bU bD aR bJ bC aL aQ)
theorem int.BH {w:World} {b:Nat} {t:TypeId} {m:Nat} (h:Row w b t (zeros (.int .i64 0) m)):Fn w b t m (fun _=>.int .i64 0):=by
 have e:zeros (.int .i64 0) m=(List.range m).map (fun _=>Value.int .i64 0):=by
  apply List.ext_getElem
  ·simp [zeros]
  ·intro i h1 h2;simp [zeros]
 unfold Fn;rw [←e];exact h
theorem int.aEB {w:World} {g:Nat} {e:TypeId} {cur:Array Value} {m c:Nat} (h:w.heap[g]?=some (.cells cur e (0,0))) (hs:cur.size=m*c):JC w g e m c (fun i j=>(cur.toList[i*c+j]?).getD (.int .i64 0)):=by
 have q:cur.toList=(List.range (m*c)).map (fun k=>(fun i j=>(cur.toList[i*c+j]?).getD (Value.int .i64 0)) (k / c) (k % c)):=by
  apply List.ext_getElem
  ·simp [hs]
  ·intro i h1 h2
   have:i / c*c+i % c=i:=Nat.div_add_mod' i c;simp only [List.getElem_map,List.getElem_range,this];rw [eT h1];rfl
 unfold JC Fn Row;rw [←q];simpa using h
theorem int.aDf {w:World} {b e rw n bE:Nat} {bW:Nat→Nat} (h:Row w b e ((gF (2*n+1) rw (2*n+1) bW).set 1 (.pointer (some ⟨bE,0,none⟩)))) :
  JC w b e (2*n+1) 2 (fun r j=>if j=0 then .slice (some ⟨bW r,0,none⟩) rw rw else .pointer ((if r=0 then some bE else none).map fun b=>⟨b,0,none⟩)):=by
 have q:(gF (2*n+1) rw (2*n+1) bW).set 1 (.pointer (some ⟨bE,0,none⟩))=(List.range ((2*n+1)*2)).map (fun k=>(fun (r j:Nat)=>if j=0 then Value.slice (some ⟨bW r,0,none⟩) rw rw else .pointer ((if r=0 then some bE else none).map fun b=>⟨b,0,none⟩)) (k / 2) (k % 2)):=by
  apply List.ext_getElem
  ·simp [xF];omega
  ·intro i h1 h2
   have hi:i<(2*n+1)*2:=by simpa using h2
   rw [List.getElem_set];simp only [List.getElem_map,List.getElem_range,gF]
   by_cases c1:1=i
   ·subst c1;simp
   ·rw [aN c1]
    by_cases c2:i % 2=0
    ·rw [aJ c2,aJ c2,aJ (by omega)]
    ·rw [aN c2,aN c2,aN (by omega)]
     rfl
 unfold JC Fn;rw [←q];exact h
theorem int.mM {σ:Type} {P:M.Plain σ} (L:Lt) (t:Nat) (f:eX σ):cN L t ((M.E0 P f).th t) ([.int .i64 0]++[.pointer none]) ([.int .i64 0]++[.pointer none]) (.slice none 0 0)=cE L.bS (t:Int) (L.cap:Int) (L.gD t) (mW L.n) (L.gG t) (tw L.n):=by
 simp [cN,cE,M.E0,mW,bC,M.tw,tw]
theorem list.mM {σ:Type} {P:M.Plain σ} (L:Lt) (t:Nat) (f:eX σ):cN L t ((M.E0 P f).th t) ([.pointer none]++[.pointer none]) ([.pointer none]++[.pointer none]) (.slice none 0 0)=cE L.bS (t:Int) (L.cap:Int) (L.gD t) (mW L.n) (L.gG t) (tw L.n):=by
 simp [cN,cE,M.E0,mW,bC,M.tw,tw]
theorem tree.mM {σ:Type} {P:M.Plain σ} (L:Lt) (t:Nat) (f:eX σ):cN L t ((M.E0 P f).th t) ([.pointer none]++[.pointer none]) ([.pointer none]++[.pointer none]) (.slice none 0 0)=cE L.bS (t:Int) (L.cap:Int) (L.gD t) (mW L.n) (L.gG t) (tw L.n):=by
 simp [cN,cE,M.E0,mW,bC,M.tw,tw]
theorem row.mM {σ:Type} {P:M.Plain σ} (L:Lt) (t:Nat) (f:eX σ):cN L t ((M.E0 P f).th t) ([.pointer none,.pointer none]++[.pointer none]) ([.pointer none,.pointer none]++[.pointer none]) (.slice none 0 0)=cE L.bS (t:Int) (L.cap:Int) (L.gD t) (mW L.n) (L.gG t) (tw L.n):=by
 simp [cN,cE,M.E0,mW,bC,M.tw,tw]
end Go.Proofs.YtefjhnhdagolhaaGreat
