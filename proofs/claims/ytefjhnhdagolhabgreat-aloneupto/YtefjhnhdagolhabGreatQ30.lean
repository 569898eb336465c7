import Derived.Test.YtefjhnhdagolhabGreatQ29
import Derived.Test.YtefjhnhdagolhabGreatQ10
import Derived.Test.YtefjhnhdagolhabGreatQ15
import Derived.Test.YtefjhnhdagolhabGreatQ07
import Derived.Test.YtefjhnhdagolhabGreatQ09
set_option maxHeartbeats 1000000
namespace Go.Proofs.YtefjhnhdagolhabGreat
open int list tree
open Go.RowKit
open M (aH aC aE cY aS aK aT bJ aR aL aM)
structure int.Both {σ:Type} (R:SR σ) (P:M.Plain σ) (L:Lt) (S:Nat→Prop) (E:aK σ) (Y:aT) (w:World):Prop where
 re:RE R L S E w
 inv:M.Inv P L.n L.cap E Y
 CT:M.DS L.n E
 IA:M.KH R.sz L.n E Y
structure list.Both {σ:Type} (R:SR σ) (P:M.Plain σ) (L:Lt) (S:Nat→Prop) (E:aK σ) (Y:aT) (w:World):Prop where
 re:RE R L S E w
 inv:M.Inv P L.n L.cap E Y
 CT:M.DS L.n E
 IA:M.KH R.sz L.n E Y
structure tree.Both {σ:Type} (R:SR σ) (P:M.Plain σ) (L:Lt) (S:Nat→Prop) (E:aK σ) (Y:aT) (w:World):Prop where
 re:RE R L S E w
 inv:M.Inv P L.n L.cap E Y
 CT:M.DS L.n E
 IA:M.KH R.sz L.n E Y
structure row.Both {σ:Type} (R:SR σ) (P:M.Plain σ) (L:Lt) (S:Nat→Prop) (E:aK σ) (Y:aT) (w:World):Prop where
 re:RE R L S E w
 inv:M.Inv P L.n L.cap E Y
 CT:M.DS L.n E
 IA:M.KH R.sz L.n E Y
def int.Both.tN:Prop:=∀ {σ:Type} {R:SR σ} {P:M.Plain σ} {L:Lt} {S:Nat→Prop} {E:aK σ} {Y:aT} {w:World} {t:Nat} (_h:Both R P L S E Y w) (_ht:t<L.n),(E.th t).phase=0↔(Y.th t).part=0
def list.Both.tN:Prop:=∀ {σ:Type} {R:SR σ} {P:M.Plain σ} {L:Lt} {S:Nat→Prop} {E:aK σ} {Y:aT} {w:World} {t:Nat} (_h:Both R P L S E Y w) (_ht:t<L.n),(E.th t).phase=0↔(Y.th t).part=0
def tree.Both.tN:Prop:=∀ {σ:Type} {R:SR σ} {P:M.Plain σ} {L:Lt} {S:Nat→Prop} {E:aK σ} {Y:aT} {w:World} {t:Nat} (_h:Both R P L S E Y w) (_ht:t<L.n),(E.th t).phase=0↔(Y.th t).part=0
theorem tP:int.Both.tN∧list.Both.tN∧tree.Both.tN:=by
 refine ⟨?_,?_,?_⟩<;>intro σ R P L S E Y w t h ht
 all_goals
  obtain ⟨pb,nf,-,-,T⟩:=h.inv
  have X:=T t ht
  have WQ:=X.p1
  constructor
  ·intro q
   by_cases c:(Y.th t).part=11
   ·have:=X.p4 c;omega
   ·have:=X.p2 (by omega);omega
  ·intro q
   have:=X.p2 (by omega)
   omega
theorem int.Both.idle:tN:=tP.1
theorem list.Both.idle:tN:=tP.2.1
theorem tree.Both.idle:tN:=tP.2.2
theorem row.Both.idle {σ:Type} {R:SR σ} {P:M.Plain σ} {L:Lt} {S:Nat→Prop} {E:aK σ} {Y:aT} {w:World} {t:Nat} (h:Both R P L S E Y w) (ht:t<L.n):(E.th t).phase=0↔(Y.th t).part=0:=by
 obtain ⟨pb,nf,-,-,T⟩:=h.inv
 have X:=T t ht
 have WQ:=X.p1
 constructor
 ·intro q
  by_cases c:(Y.th t).part=11
  ·have:=X.p4 c;omega
  ·have:=X.p2 (by omega);omega
 ·intro q
  have:=X.p2 (by omega)
  omega
theorem int.Both.phase {σ:Type} {R:SR σ} {P:M.Plain σ} {L:Lt} {S:Nat→Prop} {E:aK σ} {Y:aT} {w:World} {t:Nat} (h:Both R P L S E Y w) (ht:t<L.n):(E.th t).phase≤13:=by
 obtain ⟨pb,nf,-,-,T⟩:=h.inv
 have X:=T t ht
 have WQ:=X.p1
 by_cases c:(Y.th t).part=11
 ·have:=X.p4 c;omega
 ·have:=X.p2 (by omega);omega
theorem list.Both.phase {σ:Type} {R:SR σ} {P:M.Plain σ} {L:Lt} {S:Nat→Prop} {E:aK σ} {Y:aT} {w:World} {t:Nat} (h:Both R P L S E Y w) (ht:t<L.n):(E.th t).phase≤13:=by
 obtain ⟨pb,nf,-,-,T⟩:=h.inv
 have X:=T t ht
 have WQ:=X.p1
 by_cases c:(Y.th t).part=11
 ·have:=X.p4 c;omega
 ·have:=X.p2 (by omega);omega
theorem tree.Both.phase {σ:Type} {R:SR σ} {P:M.Plain σ} {L:Lt} {S:Nat→Prop} {E:aK σ} {Y:aT} {w:World} {t:Nat} (h:Both R P L S E Y w) (ht:t<L.n):(E.th t).phase≤13:=by
 obtain ⟨pb,nf,-,-,T⟩:=h.inv
 have X:=T t ht
 have WQ:=X.p1
 by_cases c:(Y.th t).part=11
 ·have:=X.p4 c;omega
 ·have:=X.p2 (by omega);omega
theorem row.Both.phase {σ:Type} {R:SR σ} {P:M.Plain σ} {L:Lt} {S:Nat→Prop} {E:aK σ} {Y:aT} {w:World} {t:Nat} (h:Both R P L S E Y w) (ht:t<L.n):(E.th t).phase≤13:=by
 obtain ⟨pb,nf,-,-,T⟩:=h.inv
 have X:=T t ht
 have WQ:=X.p1
 by_cases c:(Y.th t).part=11
 ·have:=X.p4 c;omega
 ·have:=X.p2 (by omega);omega
theorem int.Both.cZ {σ:Type} {R:SR σ} {P:M.Plain σ} {L:Lt} {S:Nat→Prop} {E:aK σ} {Y:aT} {w:World} (h:Both R P L S E Y w):E.cZ=Y.bs.length:=by obtain ⟨pb,nf,q,-,-⟩:=h.inv;exact q
theorem list.Both.cZ {σ:Type} {R:SR σ} {P:M.Plain σ} {L:Lt} {S:Nat→Prop} {E:aK σ} {Y:aT} {w:World} (h:Both R P L S E Y w):E.cZ=Y.bs.length:=by obtain ⟨pb,nf,q,-,-⟩:=h.inv;exact q
theorem tree.Both.cZ {σ:Type} {R:SR σ} {P:M.Plain σ} {L:Lt} {S:Nat→Prop} {E:aK σ} {Y:aT} {w:World} (h:Both R P L S E Y w):E.cZ=Y.bs.length:=by obtain ⟨pb,nf,q,-,-⟩:=h.inv;exact q
theorem row.Both.cZ {σ:Type} {R:SR σ} {P:M.Plain σ} {L:Lt} {S:Nat→Prop} {E:aK σ} {Y:aT} {w:World} (h:Both R P L S E Y w):E.cZ=Y.bs.length:=by obtain ⟨pb,nf,q,-,-⟩:=h.inv;exact q
theorem int.Both.can {σ:Type} {R:SR σ} {P:M.Plain σ} {L:Lt} {S:Nat→Prop} {E:aK σ} {Y:aT} {w:World} {t:Nat} (h:Both R P L S E Y w) (ht:t<L.n) (hN:Y.bs.length≤1000000000):cF L E t :=
 cF.of h.re.ok.n64 h.re.ok.WU h.inv h.CT (by rw [h.cZ];exact hN) ht
theorem list.Both.can {σ:Type} {R:SR σ} {P:M.Plain σ} {L:Lt} {S:Nat→Prop} {E:aK σ} {Y:aT} {w:World} {t:Nat} (h:Both R P L S E Y w) (ht:t<L.n) (hN:Y.bs.length≤1000000000):cF L E t :=
 cF.of h.re.ok.n64 h.re.ok.WU h.inv h.CT (by rw [h.cZ];exact hN) ht
theorem tree.Both.can {σ:Type} {R:SR σ} {P:M.Plain σ} {L:Lt} {S:Nat→Prop} {E:aK σ} {Y:aT} {w:World} {t:Nat} (h:Both R P L S E Y w) (ht:t<L.n) (hN:Y.bs.length≤1000000000):cF L E t :=
 cF.of h.re.ok.n64 h.re.ok.WU h.inv h.CT (by rw [h.cZ];exact hN) ht
theorem row.Both.can {σ:Type} {R:SR σ} {P:M.Plain σ} {L:Lt} {S:Nat→Prop} {E:aK σ} {Y:aT} {w:World} {t:Nat} (h:Both R P L S E Y w) (ht:t<L.n) (hN:Y.bs.length≤1000000000):cF L E t :=
 cF.of h.re.ok.n64 h.re.ok.WU h.inv h.CT (by rw [h.cZ];exact hN) ht
theorem int.Both.sz8 {σ:Type} {R:SR σ} {P:M.Plain σ} {L:Lt} {S:Nat→Prop} {E:aK σ} {Y:aT} {w:World} {t:Nat} (h:Both R P L S E Y w) (ht:t<L.n) (hN:Y.bs.length≤1000000000) (hF:Y.bs.flatten.length≤100000000000):(E.th t).phase=8→∀ v,(E.th t).now=some v→R.sz v.st≤1000000000000:=fun p8=>by
 obtain ⟨-,h1,h2,-⟩:=(h.can ht hN).p8 p8
 exact h.IA.bound ht hF (by omega) p8
theorem list.Both.sz8 {σ:Type} {R:SR σ} {P:M.Plain σ} {L:Lt} {S:Nat→Prop} {E:aK σ} {Y:aT} {w:World} {t:Nat} (h:Both R P L S E Y w) (ht:t<L.n) (hN:Y.bs.length≤1000000000) (hF:Y.bs.flatten.length≤100000000000):(E.th t).phase=8→∀ v,(E.th t).now=some v→R.sz v.st≤1000000000000:=fun p8=>by
 obtain ⟨-,h1,h2,-⟩:=(h.can ht hN).p8 p8
 exact h.IA.bound ht hF (by omega) p8
theorem tree.Both.sz8 {σ:Type} {R:SR σ} {P:M.Plain σ} {L:Lt} {S:Nat→Prop} {E:aK σ} {Y:aT} {w:World} {t:Nat} (h:Both R P L S E Y w) (ht:t<L.n) (hN:Y.bs.length≤1000000000) (hF:Y.bs.flatten.length≤100000000000):(E.th t).phase=8→∀ v,(E.th t).now=some v→R.sz v.st≤1000000000000:=fun p8=>by
 obtain ⟨-,h1,h2,-⟩:=(h.can ht hN).p8 p8
 exact h.IA.bound ht hF (by omega) p8
theorem row.Both.sz8 {σ:Type} {R:SR σ} {P:M.Plain σ} {L:Lt} {S:Nat→Prop} {E:aK σ} {Y:aT} {w:World} {t:Nat} (h:Both R P L S E Y w) (ht:t<L.n) (hN:Y.bs.length≤1000000000) (hF:Y.bs.flatten.length≤100000000000):(E.th t).phase=8→∀ v,(E.th t).now=some v→R.sz v.st≤1000000000000:=fun p8=>by
 obtain ⟨-,h1,h2,-⟩:=(h.can ht hN).p8 p8
 exact h.IA.bound ht hF (by omega) p8
theorem int.Both.spare {σ:Type} {R:SR σ} {P:M.Plain σ} {L:Lt} {S:Nat→Prop} {E:aK σ} {Y:aT} {w:World} {t:Nat} (h:Both R P L S E Y w) (ht:t<L.n):(E.th t).spare<2*L.n+1:=by
 obtain ⟨pb,nf,-,-,T⟩:=h.inv
 rcases (T t ht).sp with q|q<;>omega
theorem list.Both.spare {σ:Type} {R:SR σ} {P:M.Plain σ} {L:Lt} {S:Nat→Prop} {E:aK σ} {Y:aT} {w:World} {t:Nat} (h:Both R P L S E Y w) (ht:t<L.n):(E.th t).spare<2*L.n+1:=by
 obtain ⟨pb,nf,-,-,T⟩:=h.inv
 rcases (T t ht).sp with q|q<;>omega
theorem tree.Both.spare {σ:Type} {R:SR σ} {P:M.Plain σ} {L:Lt} {S:Nat→Prop} {E:aK σ} {Y:aT} {w:World} {t:Nat} (h:Both R P L S E Y w) (ht:t<L.n):(E.th t).spare<2*L.n+1:=by
 obtain ⟨pb,nf,-,-,T⟩:=h.inv
 rcases (T t ht).sp with q|q<;>omega
theorem row.Both.spare {σ:Type} {R:SR σ} {P:M.Plain σ} {L:Lt} {S:Nat→Prop} {E:aK σ} {Y:aT} {w:World} {t:Nat} (h:Both R P L S E Y w) (ht:t<L.n):(E.th t).spare<2*L.n+1:=by
 obtain ⟨pb,nf,-,-,T⟩:=h.inv
 rcases (T t ht).sp with q|q<;>omega
structure int.Goes {σ:Type} (R:SR σ) (P:M.Plain σ) (L:Lt) (S:Nat→Prop) (w:World) (Y':aT) (w':World):Prop where
 ex:∃ E',Both R P L (grown S w w') E' Y' w'
 fr:Fr L.own w w'
structure list.Goes {σ:Type} (R:SR σ) (P:M.Plain σ) (L:Lt) (S:Nat→Prop) (w:World) (Y':aT) (w':World):Prop where
 ex:∃ E',Both R P L (grown S w w') E' Y' w'
 fr:Fr L.own w w'
structure tree.Goes {σ:Type} (R:SR σ) (P:M.Plain σ) (L:Lt) (S:Nat→Prop) (w:World) (Y':aT) (w':World):Prop where
 ex:∃ E',Both R P L (grown S w w') E' Y' w'
 fr:Fr L.own w w'
structure row.Goes {σ:Type} (R:SR σ) (P:M.Plain σ) (L:Lt) (S:Nat→Prop) (w:World) (Y':aT) (w':World):Prop where
 ex:∃ E',Both R P L (grown S w w') E' Y' w'
 fr:Fr L.own w w'
theorem int.Goes.left {σ:Type} {R:SR σ} {P:M.Plain σ} {L:Lt} {S:Nat→Prop} {w:World} {E':aK σ} {Y':aT} {w':World} (h:aF R L S w E' w') (hi:M.Inv P L.n L.cap E' Y') (hb:M.DS L.n E') (hz:M.KH R.sz L.n E' Y'):Goes R P L S w Y' w':=⟨⟨E',h.re,hi,hb,hz⟩,h.fr⟩
theorem list.Goes.left {σ:Type} {R:SR σ} {P:M.Plain σ} {L:Lt} {S:Nat→Prop} {w:World} {E':aK σ} {Y':aT} {w':World} (h:aF R L S w E' w') (hi:M.Inv P L.n L.cap E' Y') (hb:M.DS L.n E') (hz:M.KH R.sz L.n E' Y'):Goes R P L S w Y' w':=⟨⟨E',h.re,hi,hb,hz⟩,h.fr⟩
theorem tree.Goes.left {σ:Type} {R:SR σ} {P:M.Plain σ} {L:Lt} {S:Nat→Prop} {w:World} {E':aK σ} {Y':aT} {w':World} (h:aF R L S w E' w') (hi:M.Inv P L.n L.cap E' Y') (hb:M.DS L.n E') (hz:M.KH R.sz L.n E' Y'):Goes R P L S w Y' w':=⟨⟨E',h.re,hi,hb,hz⟩,h.fr⟩
theorem row.Goes.left {σ:Type} {R:SR σ} {P:M.Plain σ} {L:Lt} {S:Nat→Prop} {w:World} {E':aK σ} {Y':aT} {w':World} (h:aF R L S w E' w') (hi:M.Inv P L.n L.cap E' Y') (hb:M.DS L.n E') (hz:M.KH R.sz L.n E' Y'):Goes R P L S w Y' w':=⟨⟨E',h.re,hi,hb,hz⟩,h.fr⟩
def int.gY:Prop:=∀ {σ:Type} {R:SR σ} {P:M.Plain σ} {L:Lt} {S:Nat→Prop} {E:aK σ} {Y:aT} {w:World} (_h:Both R P L S E Y w) (o:M.Op),(∀ x:Int,¬(0≤x∧x<L.n)→Calls Tryz.prog 102 #[.pointer (some ⟨L.bE,0,none⟩),.int .i64 x,.agg #[.int .i64 o.c,.int .i64 o.a,.int .i64 o.b]] w fun e w'=>e = .returned (.int .i64 3)∧Goes R P L S w Y w')
  ∧ ∀ t,t<L.n→Calls Tryz.prog 102 #[.pointer (some ⟨L.bE,0,none⟩),.int .i64 (t:Int),.agg #[.int .i64 o.c,.int .i64 o.a,.int .i64 o.b]] w fun e w'=>e = .returned (.int .i64 (if (Y.th t).part=0 then 0 else 4))∧Goes R P L S w (if (Y.th t).part=0 then M.aY Y t o else Y) w'
def list.gY:Prop:=∀ {σ:Type} {R:SR σ} {P:M.Plain σ} {L:Lt} {S:Nat→Prop} {E:aK σ} {Y:aT} {w:World} (_h:Both R P L S E Y w) (o:M.Op),(∀ x:Int,¬(0≤x∧x<L.n)→Calls Tryz.prog 162 #[.pointer (some ⟨L.bE,0,none⟩),.int .i64 x,.agg #[.int .i64 o.c,.int .i64 o.a,.int .i64 o.b]] w fun e w'=>e = .returned (.int .i64 3)∧Goes R P L S w Y w')
  ∧ ∀ t,t<L.n→Calls Tryz.prog 162 #[.pointer (some ⟨L.bE,0,none⟩),.int .i64 (t:Int),.agg #[.int .i64 o.c,.int .i64 o.a,.int .i64 o.b]] w fun e w'=>e = .returned (.int .i64 (if (Y.th t).part=0 then 0 else 4))∧Goes R P L S w (if (Y.th t).part=0 then M.aY Y t o else Y) w'
def tree.gY:Prop:=∀ {σ:Type} {R:SR σ} {P:M.Plain σ} {L:Lt} {S:Nat→Prop} {E:aK σ} {Y:aT} {w:World} (_h:Both R P L S E Y w) (o:M.Op),(∀ x:Int,¬(0≤x∧x<L.n)→Calls Tryz.prog 236 #[.pointer (some ⟨L.bE,0,none⟩),.int .i64 x,.agg #[.int .i64 o.c,.int .i64 o.a,.int .i64 o.b]] w fun e w'=>e = .returned (.int .i64 3)∧Goes R P L S w Y w')
  ∧ ∀ t,t<L.n→Calls Tryz.prog 236 #[.pointer (some ⟨L.bE,0,none⟩),.int .i64 (t:Int),.agg #[.int .i64 o.c,.int .i64 o.a,.int .i64 o.b]] w fun e w'=>e = .returned (.int .i64 (if (Y.th t).part=0 then 0 else 4))∧Goes R P L S w (if (Y.th t).part=0 then M.aY Y t o else Y) w'
def row.gY:Prop:=∀ {σ:Type} {R:SR σ} {P:M.Plain σ} {L:Lt} {S:Nat→Prop} {E:aK σ} {Y:aT} {w:World} (_h:Both R P L S E Y w) (o:M.Op),(∀ x:Int,¬(0≤x∧x<L.n)→Calls Tryz.prog 199 #[.pointer (some ⟨L.bE,0,none⟩),.int .i64 x,.agg #[.int .i64 o.c,.int .i64 o.a,.int .i64 o.b]] w fun e w'=>e = .returned (.int .i64 3)∧Goes R P L S w Y w')
  ∧ ∀ t,t<L.n→Calls Tryz.prog 199 #[.pointer (some ⟨L.bE,0,none⟩),.int .i64 (t:Int),.agg #[.int .i64 o.c,.int .i64 o.a,.int .i64 o.b]] w fun e w'=>e = .returned (.int .i64 (if (Y.th t).part=0 then 0 else 4))∧Goes R P L S w (if (Y.th t).part=0 then M.aY Y t o else Y) w'
open row in
theorem uM:int.gY∧list.gY∧tree.gY∧row.gY:=by
 refine ⟨?_,?_,?_,?_⟩<;>intro σ R P L S E Y w h o
 all_goals
  refine ⟨fun x hx=>?_,fun t ht=>?_⟩
  ·refine (uL h.re x hx o).mono ?_
   rintro e w' ⟨rfl,hl⟩
   exact ⟨rfl,Goes.left hl h.inv h.CT h.IA⟩
  ·by_cases q:(Y.th t).part=0
   ·simp only [if_pos q]
    refine (sG h.re ht ((h.idle ht).mpr q) o).mono ?_
    rintro e w' ⟨rfl,hl⟩
    exact ⟨rfl,Goes.left hl (M.ER h.inv ht q o) (h.CT.begin ht o) (h.IA.begin o)⟩
   ·simp only [if_neg q]
    refine (sF h.re ht (fun c=>q ((h.idle ht).mp c)) o).mono ?_
    rintro e w' ⟨rfl,hl⟩
    exact ⟨rfl,Goes.left hl h.inv h.CT h.IA⟩
theorem int.uN:gY:=uM.1
theorem list.uN:gY:=uM.2.1
theorem tree.uN:gY:=uM.2.2.1
theorem row.uN:gY:=uM.2.2.2
def int.tQ {σ:Type} (P:M.Plain σ) (Y:aT) (t:Nat):M.PY:=(M.replay P (fun k i=>((Y.th k).ops).getD i ⟨0,0,0⟩) Y.bs).an t
def int.fO:Prop:=∀ {σ:Type} {R:SR σ} {P:M.Plain σ} {L:Lt} {S:Nat→Prop} {E:aK σ} {Y:aT} {w:World} (_h:Both R P L S E Y w),(∀ x:Int,¬(0≤x∧x<L.n)→Calls Tryz.prog 101 #[.pointer (some ⟨L.bE,0,none⟩),.int .i64 x] w fun e w'=>e = .returned (.tuple #[.agg #[.int .i64 0,.int .i64 0],.int .i64 3])∧Below w.heap.size w w')
  ∧ ∀ t,t<L.n→Calls Tryz.prog 101 #[.pointer (some ⟨L.bE,0,none⟩),.int .i64 (t:Int)] w fun e w'=>e = .returned (if (Y.th t).part≠0 then .tuple #[.agg #[.int .i64 0,.int .i64 0],.int .i64 4] else if (Y.th t).ended=0 then .tuple #[.agg #[.int .i64 0,.int .i64 0],.int .i64 5] else .tuple #[.agg #[.int .i64 (tQ P Y t).s,.int .i64 (tQ P Y t).v],.int .i64 0])∧Below w.heap.size w w'
def list.fO:Prop:=∀ {σ:Type} {R:SR σ} {P:M.Plain σ} {L:Lt} {S:Nat→Prop} {E:aK σ} {Y:aT} {w:World} (_h:Both R P L S E Y w),(∀ x:Int,¬(0≤x∧x<L.n)→Calls Tryz.prog 161 #[.pointer (some ⟨L.bE,0,none⟩),.int .i64 x] w fun e w'=>e = .returned (.tuple #[.agg #[.int .i64 0,.int .i64 0],.int .i64 3])∧Below w.heap.size w w')
  ∧ ∀ t,t<L.n→Calls Tryz.prog 161 #[.pointer (some ⟨L.bE,0,none⟩),.int .i64 (t:Int)] w fun e w'=>e = .returned (if (Y.th t).part≠0 then .tuple #[.agg #[.int .i64 0,.int .i64 0],.int .i64 4] else if (Y.th t).ended=0 then .tuple #[.agg #[.int .i64 0,.int .i64 0],.int .i64 5] else .tuple #[.agg #[.int .i64 (tQ P Y t).s,.int .i64 (tQ P Y t).v],.int .i64 0])∧Below w.heap.size w w'
def tree.fO:Prop:=∀ {σ:Type} {R:SR σ} {P:M.Plain σ} {L:Lt} {S:Nat→Prop} {E:aK σ} {Y:aT} {w:World} (_h:Both R P L S E Y w),(∀ x:Int,¬(0≤x∧x<L.n)→Calls Tryz.prog 235 #[.pointer (some ⟨L.bE,0,none⟩),.int .i64 x] w fun e w'=>e = .returned (.tuple #[.agg #[.int .i64 0,.int .i64 0],.int .i64 3])∧Below w.heap.size w w')
  ∧ ∀ t,t<L.n→Calls Tryz.prog 235 #[.pointer (some ⟨L.bE,0,none⟩),.int .i64 (t:Int)] w fun e w'=>e = .returned (if (Y.th t).part≠0 then .tuple #[.agg #[.int .i64 0,.int .i64 0],.int .i64 4] else if (Y.th t).ended=0 then .tuple #[.agg #[.int .i64 0,.int .i64 0],.int .i64 5] else .tuple #[.agg #[.int .i64 (tQ P Y t).s,.int .i64 (tQ P Y t).v],.int .i64 0])∧Below w.heap.size w w'
def row.fO:Prop:=∀ {σ:Type} {R:SR σ} {P:M.Plain σ} {L:Lt} {S:Nat→Prop} {E:aK σ} {Y:aT} {w:World} (_h:Both R P L S E Y w),(∀ x:Int,¬(0≤x∧x<L.n)→Calls Tryz.prog 198 #[.pointer (some ⟨L.bE,0,none⟩),.int .i64 x] w fun e w'=>e = .returned (.tuple #[.agg #[.int .i64 0,.int .i64 0],.int .i64 3])∧Below w.heap.size w w')
  ∧ ∀ t,t<L.n→Calls Tryz.prog 198 #[.pointer (some ⟨L.bE,0,none⟩),.int .i64 (t:Int)] w fun e w'=>e = .returned (if (Y.th t).part≠0 then .tuple #[.agg #[.int .i64 0,.int .i64 0],.int .i64 4] else if (Y.th t).ended=0 then .tuple #[.agg #[.int .i64 0,.int .i64 0],.int .i64 5] else .tuple #[.agg #[.int .i64 (tQ P Y t).s,.int .i64 (tQ P Y t).v],.int .i64 0])∧Below w.heap.size w w'
open row in
theorem sI:int.fO∧list.fO∧tree.fO∧row.fO:=by
 refine ⟨?_,?_,?_,?_⟩<;>intro σ R P L S E Y w h
 all_goals
  refine ⟨fun x hx=>sH h.re x hx,fun t ht=>?_⟩
  have hi:=h.idle ht
  obtain ⟨pb,nf,-,-,T⟩:=h.inv
  have X:=T t ht
  by_cases q:(Y.th t).part=0
  ·rw [if_neg (by simpa using q)]
   by_cases c:(Y.th t).ended=0
   ·rw [if_pos c]
    exact qC h.re ht (hi.mpr q) (by rw [X.en];simp [c])
   ·rw [if_neg c]
    obtain ⟨a1,a2⟩:=X.a0 q (by omega)
    have e1:(E.th t).xG=(tQ P Y t).s:=a1
    have e2:(E.th t).val=(tQ P Y t).v:=a2
    have:=qD h.re ht (hi.mpr q) (by rw [X.en];simp;omega)
    rw [e1,e2] at this
    exact this
  ·rw [if_pos q]
   exact qB h.re ht (fun c=>q (hi.mp c))
theorem int.wV:fO:=sI.1
theorem list.wV:fO:=sI.2.1
theorem tree.wV:fO:=sI.2.2.1
theorem row.wV:fO:=sI.2.2.2
theorem int.dO {w:World} {b:Nat} {t:TypeId} {m:Nat} (h:Row w b t (zeros (.int .i64 0) m)):Fn w b t m (fun _=>.int .i64 0):=by
 have e:zeros (.int .i64 0) m=(List.range m).map (fun _=>Value.int .i64 0):=by
  apply List.ext_getElem
  ·simp [zeros]
  ·intro i h1 h2;simp [zeros]
 unfold Fn
 rw [←e]
 exact h
def int.jP:Prop:=∀ {w:World} {g:Nat} {e:TypeId} {cur:Array Value} {m c:Nat} (_h:w.heap[g]?=some (.cells cur e (0,0))) (_hs:cur.size=m*c),vJ w g e m c (fun i j=>(cur.toList[i*c+j]?).getD (.int .i64 0))
def list.jP:Prop:=∀ {w:World} {g:Nat} {e:TypeId} {cur:Array Value} {m c:Nat} (_h:w.heap[g]?=some (.cells cur e (0,0))) (_hs:cur.size=m*c),vJ w g e m c (fun i j=>(cur.toList[i*c+j]?).getD (.int .i64 0))
def tree.jP:Prop:=∀ {w:World} {g:Nat} {e:TypeId} {cur:Array Value} {m c:Nat} (_h:w.heap[g]?=some (.cells cur e (0,0))) (_hs:cur.size=m*c),vJ w g e m c (fun i j=>(cur.toList[i*c+j]?).getD (.int .i64 0))
def row.jP:Prop:=∀ {w:World} {g:Nat} {e:TypeId} {cur:Array Value} {m c:Nat} (_h:w.heap[g]?=some (.cells cur e (0,0))) (_hs:cur.size=m*c),vJ w g e m c (fun i j=>(cur.toList[i*c+j]?).getD (.int .i64 0))
open row in
theorem wW:int.jP∧list.jP∧tree.jP∧row.jP:=by
 refine ⟨?_,?_,?_,?_⟩<;>intro w g e cur m c h hs
 all_goals
  have q:cur.toList=(List.range (m*c)).map (fun k=>(fun i j=>(cur.toList[i*c+j]?).getD (Value.int .i64 0)) (k / c) (k % c)):=by
   apply List.ext_getElem
   ·simp [hs]
   ·intro i h1 h2
    have:i / c*c+i % c=i:=Nat.div_add_mod' i c
    simp only [List.getElem_map,List.getElem_range,this]
    rw [List.getElem?_eq_getElem h1]
    rfl
  unfold vJ Fn Row
  rw [←q]
  simpa using h
theorem int.vO:jP:=wW.1
theorem list.vO:jP:=wW.2.1
theorem tree.vO:jP:=wW.2.2.1
theorem row.vO:jP:=wW.2.2.2
theorem int.AQ {w:World} {b e rw n bE:Nat} {bW:Nat→Nat} (h:Row w b e ((eW (2*n+1) rw (2*n+1) bW).set 1 (.pointer (some ⟨bE,0,none⟩)))) :
  vJ w b e (2*n+1) 2 (fun r j=>if j=0 then .slice (some ⟨bW r,0,none⟩) rw rw else .pointer ((if r=0 then some bE else none).map fun b=>⟨b,0,none⟩)):=by
 have q:(eW (2*n+1) rw (2*n+1) bW).set 1 (.pointer (some ⟨bE,0,none⟩))=(List.range ((2*n+1)*2)).map (fun k=>(fun (r j:Nat)=>if j=0 then Value.slice (some ⟨bW r,0,none⟩) rw rw else .pointer ((if r=0 then some bE else none).map fun b=>⟨b,0,none⟩)) (k / 2) (k % 2)):=by
  apply List.ext_getElem
  ·simp [qJ];omega
  ·intro i h1 h2
   have hi:i<(2*n+1)*2:=by simpa using h2
   rw [List.getElem_set]
   simp only [List.getElem_map,List.getElem_range,eW]
   by_cases c1:1=i
   ·subst c1;simp
   ·rw [if_neg c1]
    by_cases c2:i % 2=0
    ·rw [if_pos c2,if_pos c2,if_pos (by omega)]
    ·rw [if_neg c2,if_neg c2,if_neg (by omega)]
     rfl
 unfold vJ Fn
 rw [←q]
 exact h
theorem int.jQ {σ:Type} {P:M.Plain σ} (L:Lt) (t:Nat) (f:cY σ):aO L t ((M.E0 P f).th t) ([.int .i64 0]++[.pointer none]) ([.int .i64 0]++[.pointer none]) (.slice none 0 0)=aW L.bS (t:Int) (L.cap:Int) (L.gD t) (eD L.n) (L.gG t) (tw L.n):=by
 simp [aO,aW,M.E0,eD,aR,M.tw,tw]
theorem list.jQ {σ:Type} {P:M.Plain σ} (L:Lt) (t:Nat) (f:cY σ):aO L t ((M.E0 P f).th t) ([.pointer none]++[.pointer none]) ([.pointer none]++[.pointer none]) (.slice none 0 0)=aW L.bS (t:Int) (L.cap:Int) (L.gD t) (eD L.n) (L.gG t) (tw L.n):=by
 simp [aO,aW,M.E0,eD,aR,M.tw,tw]
theorem tree.jQ {σ:Type} {P:M.Plain σ} (L:Lt) (t:Nat) (f:cY σ):aO L t ((M.E0 P f).th t) ([.pointer none]++[.pointer none]) ([.pointer none]++[.pointer none]) (.slice none 0 0)=aW L.bS (t:Int) (L.cap:Int) (L.gD t) (eD L.n) (L.gG t) (tw L.n):=by
 simp [aO,aW,M.E0,eD,aR,M.tw,tw]
theorem row.jQ {σ:Type} {P:M.Plain σ} (L:Lt) (t:Nat) (f:cY σ):aO L t ((M.E0 P f).th t) ([.pointer none,.pointer none]++[.pointer none]) ([.pointer none,.pointer none]++[.pointer none]) (.slice none 0 0)=aW L.bS (t:Int) (L.cap:Int) (L.gD t) (eD L.n) (L.gG t) (tw L.n):=by
 simp [aO,aW,M.E0,eD,aR,M.tw,tw]
end Go.Proofs.YtefjhnhdagolhabGreat
