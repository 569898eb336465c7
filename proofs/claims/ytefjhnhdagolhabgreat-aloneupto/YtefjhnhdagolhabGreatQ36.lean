import Derived.Test.YtefjhnhdagolhabGreatQ33
import Derived.Test.YtefjhnhdagolhabGreatQ31
import Derived.Test.YtefjhnhdagolhabGreatQ35
import Derived.Test.YtefjhnhdagolhabGreatQ14
set_option maxHeartbeats 8000000
set_option maxRecDepth 20000
namespace Go.Proofs.YtefjhnhdagolhabGreat
open int list tree
open Go.RowKit
open M (aH aC aE cY aS aK aT bJ aR aL aM marks tagged num YI)
attribute [local go_sem ↓] Go.wp_at_zero Go.wp_at_succ
theorem int.Both.yi {σ:Type} {R:SR σ} {P:M.Plain σ} {L:Lt} {S:Nat→Prop} {E:aK σ} {Y:aT} {w:World} (h:Both R P L S E Y w):YI P L.n L.cap Y:=⟨E,h.inv⟩
theorem list.Both.yi {σ:Type} {R:SR σ} {P:M.Plain σ} {L:Lt} {S:Nat→Prop} {E:aK σ} {Y:aT} {w:World} (h:Both R P L S E Y w):YI P L.n L.cap Y:=⟨E,h.inv⟩
theorem tree.Both.yi {σ:Type} {R:SR σ} {P:M.Plain σ} {L:Lt} {S:Nat→Prop} {E:aK σ} {Y:aT} {w:World} (h:Both R P L S E Y w):YI P L.n L.cap Y:=⟨E,h.inv⟩
theorem row.Both.yi {σ:Type} {R:SR σ} {P:M.Plain σ} {L:Lt} {S:Nat→Prop} {E:aK σ} {Y:aT} {w:World} (h:Both R P L S E Y w):YI P L.n L.cap Y:=⟨E,h.inv⟩
theorem int.Both.stay {σ:Type} {R:SR σ} {P:M.Plain σ} {L:Lt} {S S':Nat→Prop} {E:aK σ} {Y:aT} {w w1:World} (h:Both R P L S E Y w) (hk:∀ k,S k→w1.heap[k]?=w.heap[k]?) (hS:∀ k,S k→S' k) (hlt:∀ k,S' k→k<w1.heap.size):Both R P L S' E Y w1:=⟨h.re.stay hk hS hlt,h.inv,h.CT,h.IA⟩
theorem list.Both.stay {σ:Type} {R:SR σ} {P:M.Plain σ} {L:Lt} {S S':Nat→Prop} {E:aK σ} {Y:aT} {w w1:World} (h:Both R P L S E Y w) (hk:∀ k,S k→w1.heap[k]?=w.heap[k]?) (hS:∀ k,S k→S' k) (hlt:∀ k,S' k→k<w1.heap.size):Both R P L S' E Y w1:=⟨h.re.stay hk hS hlt,h.inv,h.CT,h.IA⟩
theorem tree.Both.stay {σ:Type} {R:SR σ} {P:M.Plain σ} {L:Lt} {S S':Nat→Prop} {E:aK σ} {Y:aT} {w w1:World} (h:Both R P L S E Y w) (hk:∀ k,S k→w1.heap[k]?=w.heap[k]?) (hS:∀ k,S k→S' k) (hlt:∀ k,S' k→k<w1.heap.size):Both R P L S' E Y w1:=⟨h.re.stay hk hS hlt,h.inv,h.CT,h.IA⟩
theorem row.Both.stay {σ:Type} {R:SR σ} {P:M.Plain σ} {L:Lt} {S S':Nat→Prop} {E:aK σ} {Y:aT} {w w1:World} (h:Both R P L S E Y w) (hk:∀ k,S k→w1.heap[k]?=w.heap[k]?) (hS:∀ k,S k→S' k) (hlt:∀ k,S' k→k<w1.heap.size):Both R P L S' E Y w1:=⟨h.re.stay hk hS hlt,h.inv,h.CT,h.IA⟩
theorem int.Goes.next {σ:Type} {R:SR σ} {P:M.Plain σ} {L:Lt} {S:Nat→Prop} {Y' QU:aT} {w w1 w2:World} (h:Goes R P L S w Y' w1) (h':Goes R P L (grown S w w1) w1 QU w2):Goes R P L S w QU w2:=by
 obtain ⟨E1,b1⟩:=h.ex
 obtain ⟨E2,b2⟩:=h'.ex
 exact Goes.left (aF.next ⟨b1.re,h.fr⟩ ⟨b2.re,h'.fr⟩) b2.inv b2.CT b2.IA
theorem list.Goes.next {σ:Type} {R:SR σ} {P:M.Plain σ} {L:Lt} {S:Nat→Prop} {Y' QU:aT} {w w1 w2:World} (h:Goes R P L S w Y' w1) (h':Goes R P L (grown S w w1) w1 QU w2):Goes R P L S w QU w2:=by
 obtain ⟨E1,b1⟩:=h.ex
 obtain ⟨E2,b2⟩:=h'.ex
 exact Goes.left (aF.next ⟨b1.re,h.fr⟩ ⟨b2.re,h'.fr⟩) b2.inv b2.CT b2.IA
theorem tree.Goes.next {σ:Type} {R:SR σ} {P:M.Plain σ} {L:Lt} {S:Nat→Prop} {Y' QU:aT} {w w1 w2:World} (h:Goes R P L S w Y' w1) (h':Goes R P L (grown S w w1) w1 QU w2):Goes R P L S w QU w2:=by
 obtain ⟨E1,b1⟩:=h.ex
 obtain ⟨E2,b2⟩:=h'.ex
 exact Goes.left (aF.next ⟨b1.re,h.fr⟩ ⟨b2.re,h'.fr⟩) b2.inv b2.CT b2.IA
theorem row.Goes.next {σ:Type} {R:SR σ} {P:M.Plain σ} {L:Lt} {S:Nat→Prop} {Y' QU:aT} {w w1 w2:World} (h:Goes R P L S w Y' w1) (h':Goes R P L (grown S w w1) w1 QU w2):Goes R P L S w QU w2:=by
 obtain ⟨E1,b1⟩:=h.ex
 obtain ⟨E2,b2⟩:=h'.ex
 exact Goes.left (aF.next ⟨b1.re,h.fr⟩ ⟨b2.re,h'.fr⟩) b2.inv b2.CT b2.IA
def int.Goes.lT:Prop:=∀ {σ:Type} {R:SR σ} {P:M.Plain σ} {L:Lt} {S:Nat→Prop} {Y':aT} {w w1 w2:World} (_h:Goes R P L S w Y' w1) {B:Nat} (_hk:∀ k,k≠B→k<w1.heap.size→w2.heap[k]?=w1.heap[k]?) (_ho:w2.os=w1.os∧w2.tape=w1.tape∧w2.output=w1.output) (_hz:w1.heap.size≤w2.heap.size) (_hBS:¬S B) (_hB:B<w.heap.size),(∃ E',Both R P L (grown S w w2) E' Y' w2)∧w2.os=w.os∧w2.tape=w.tape∧w2.output=w.output∧w.heap.size≤w2.heap.size∧∀ k,k<w.heap.size→k≠B→¬L.own k→w2.heap[k]?=w.heap[k]?
def list.Goes.lT:Prop:=∀ {σ:Type} {R:SR σ} {P:M.Plain σ} {L:Lt} {S:Nat→Prop} {Y':aT} {w w1 w2:World} (_h:Goes R P L S w Y' w1) {B:Nat} (_hk:∀ k,k≠B→k<w1.heap.size→w2.heap[k]?=w1.heap[k]?) (_ho:w2.os=w1.os∧w2.tape=w1.tape∧w2.output=w1.output) (_hz:w1.heap.size≤w2.heap.size) (_hBS:¬S B) (_hB:B<w.heap.size),(∃ E',Both R P L (grown S w w2) E' Y' w2)∧w2.os=w.os∧w2.tape=w.tape∧w2.output=w.output∧w.heap.size≤w2.heap.size∧∀ k,k<w.heap.size→k≠B→¬L.own k→w2.heap[k]?=w.heap[k]?
def tree.Goes.lT:Prop:=∀ {σ:Type} {R:SR σ} {P:M.Plain σ} {L:Lt} {S:Nat→Prop} {Y':aT} {w w1 w2:World} (_h:Goes R P L S w Y' w1) {B:Nat} (_hk:∀ k,k≠B→k<w1.heap.size→w2.heap[k]?=w1.heap[k]?) (_ho:w2.os=w1.os∧w2.tape=w1.tape∧w2.output=w1.output) (_hz:w1.heap.size≤w2.heap.size) (_hBS:¬S B) (_hB:B<w.heap.size),(∃ E',Both R P L (grown S w w2) E' Y' w2)∧w2.os=w.os∧w2.tape=w.tape∧w2.output=w.output∧w.heap.size≤w2.heap.size∧∀ k,k<w.heap.size→k≠B→¬L.own k→w2.heap[k]?=w.heap[k]?
def row.Goes.lT:Prop:=∀ {σ:Type} {R:SR σ} {P:M.Plain σ} {L:Lt} {S:Nat→Prop} {Y':aT} {w w1 w2:World} (_h:Goes R P L S w Y' w1) {B:Nat} (_hk:∀ k,k≠B→k<w1.heap.size→w2.heap[k]?=w1.heap[k]?) (_ho:w2.os=w1.os∧w2.tape=w1.tape∧w2.output=w1.output) (_hz:w1.heap.size≤w2.heap.size) (_hBS:¬S B) (_hB:B<w.heap.size),(∃ E',Both R P L (grown S w w2) E' Y' w2)∧w2.os=w.os∧w2.tape=w.tape∧w2.output=w.output∧w.heap.size≤w2.heap.size∧∀ k,k<w.heap.size→k≠B→¬L.own k→w2.heap[k]?=w.heap[k]?
open row in
theorem oB:int.Goes.lT∧list.Goes.lT∧tree.Goes.lT∧row.Goes.lT:=by
 refine ⟨?_,?_,?_,?_⟩<;>intro σ R P L S Y' w w1 w2 h B hk ho hz hBS hB
 all_goals
  obtain ⟨E1,b1⟩:=h.ex
  refine ⟨⟨E1,b1.stay (fun k hS=>hk k (fun e=>?_) (b1.re.lt k hS)) (fun k hS=>?_) (fun k hS=>?_)⟩,ho.1.trans h.fr.os,ho.2.1.trans h.fr.tape,ho.2.2.trans h.fr.output,Nat.le_trans h.fr.size hz,fun k hkk hne ho'=>(hk k hne (Nat.lt_of_lt_of_le hkk h.fr.size)).trans (h.fr.block k hkk ho')⟩
  ·subst e
   rcases hS with hS|hS
   ·exact hBS hS
   ·omega
  ·rcases hS with hS|hS
   ·exact .inl hS
   ·exact .inr ⟨hS.1,Nat.lt_of_lt_of_le hS.2 hz⟩
  ·rcases hS with hS|hS
   ·exact Nat.lt_of_lt_of_le (b1.re.lt k (.inl hS)) hz
   ·exact hS.2
theorem int.Goes.KW:lT:=oB.1
theorem list.Goes.KW:lT:=oB.2.1
theorem tree.Goes.KW:lT:=oB.2.2.1
theorem row.Goes.KW:lT:=oB.2.2.2
def int.Goes.pH:Prop:=∀ {σ:Type} {R:SR σ} {P:M.Plain σ} {L:Lt} {S:Nat→Prop} {Y':aT} {w w2:World} {W:World} {B:Nat} (_h:(∃ E',Both R P L (grown S W w2) E' Y' w2)∧w2.os=W.os∧w2.tape=W.tape∧w2.output=W.output∧W.heap.size≤w2.heap.size∧∀ k,k<W.heap.size→k≠B→¬L.own k→w2.heap[k]?=W.heap[k]?) (_hB:w.heap.size≤B) (_hS:∀ k,S k→k<w.heap.size) (_hb:Below w.heap.size w W),Goes R P L S w Y' w2
def list.Goes.pH:Prop:=∀ {σ:Type} {R:SR σ} {P:M.Plain σ} {L:Lt} {S:Nat→Prop} {Y':aT} {w w2:World} {W:World} {B:Nat} (_h:(∃ E',Both R P L (grown S W w2) E' Y' w2)∧w2.os=W.os∧w2.tape=W.tape∧w2.output=W.output∧W.heap.size≤w2.heap.size∧∀ k,k<W.heap.size→k≠B→¬L.own k→w2.heap[k]?=W.heap[k]?) (_hB:w.heap.size≤B) (_hS:∀ k,S k→k<w.heap.size) (_hb:Below w.heap.size w W),Goes R P L S w Y' w2
def tree.Goes.pH:Prop:=∀ {σ:Type} {R:SR σ} {P:M.Plain σ} {L:Lt} {S:Nat→Prop} {Y':aT} {w w2:World} {W:World} {B:Nat} (_h:(∃ E',Both R P L (grown S W w2) E' Y' w2)∧w2.os=W.os∧w2.tape=W.tape∧w2.output=W.output∧W.heap.size≤w2.heap.size∧∀ k,k<W.heap.size→k≠B→¬L.own k→w2.heap[k]?=W.heap[k]?) (_hB:w.heap.size≤B) (_hS:∀ k,S k→k<w.heap.size) (_hb:Below w.heap.size w W),Goes R P L S w Y' w2
def row.Goes.pH:Prop:=∀ {σ:Type} {R:SR σ} {P:M.Plain σ} {L:Lt} {S:Nat→Prop} {Y':aT} {w w2:World} {W:World} {B:Nat} (_h:(∃ E',Both R P L (grown S W w2) E' Y' w2)∧w2.os=W.os∧w2.tape=W.tape∧w2.output=W.output∧W.heap.size≤w2.heap.size∧∀ k,k<W.heap.size→k≠B→¬L.own k→w2.heap[k]?=W.heap[k]?) (_hB:w.heap.size≤B) (_hS:∀ k,S k→k<w.heap.size) (_hb:Below w.heap.size w W),Goes R P L S w Y' w2
open row in
theorem qG:int.Goes.pH∧list.Goes.pH∧tree.Goes.pH∧row.Goes.pH:=by
 refine ⟨?_,?_,?_,?_⟩<;>intro σ R P L S Y' w w2 W B h hB hS hb
 all_goals
  obtain ⟨⟨E1,b1⟩,h1,h2,h3,h4,h5⟩:=h
  have hz:=hb.size
  refine ⟨⟨E1,b1.stay (fun _ _=>rfl) (fun k hk=>?_) (fun k hk=>?_)⟩,⟨h1.trans hb.os,h2.trans hb.tape,h3.trans hb.output,Nat.le_trans hb.size h4,fun k hk ho=>(h5 k (by omega) (by omega) ho).trans (hb.block k hk)⟩⟩
  ·rcases hk with hk|hk
   ·exact .inl hk
   ·exact .inr ⟨Nat.le_trans hb.size hk.1,hk.2⟩
  ·rcases hk with hk|hk
   ·have:=hS k hk;omega
   ·exact hk.2
theorem int.Goes.made:pH:=qG.1
theorem list.Goes.made:pH:=qG.2.1
theorem tree.Goes.made:pH:=qG.2.2.1
theorem row.Goes.made:pH:=qG.2.2.2
def int.jT:Prop:=∀ {σ:Type} {R:SR σ} {P:M.Plain σ} {L:Lt} {S:Nat→Prop} {Y:aT} {w:World} (x er:Int) (o:M.Op) (_her:er≠0) (_hS:∀ k,S k→k<w.heap.size) (_hc:∀ W,Below w.heap.size w W→Calls Tryz.prog 102 #[.pointer (some ⟨L.bE,0,none⟩),.int .i64 x,.agg #[.int .i64 o.c,.int .i64 o.a,.int .i64 o.b]] W fun e w'=>e = .returned (.int .i64 er)∧Goes R P L S W Y w') (_BI:∀ k,L.own k→S k),Calls Tryz.prog 104 #[.pointer (some ⟨L.bE,0,none⟩),.int .i64 x,.agg #[.int .i64 o.c,.int .i64 o.a,.int .i64 o.b]] w fun e w'=>e = .returned (.tuple #[.agg #[.int .i64 0,.int .i64 0],.int .i64 er])∧Goes R P L S w Y w'
def list.jT:Prop:=∀ {σ:Type} {R:SR σ} {P:M.Plain σ} {L:Lt} {S:Nat→Prop} {Y:aT} {w:World} (x er:Int) (o:M.Op) (_her:er≠0) (_hS:∀ k,S k→k<w.heap.size) (_hc:∀ W,Below w.heap.size w W→Calls Tryz.prog 162 #[.pointer (some ⟨L.bE,0,none⟩),.int .i64 x,.agg #[.int .i64 o.c,.int .i64 o.a,.int .i64 o.b]] W fun e w'=>e = .returned (.int .i64 er)∧Goes R P L S W Y w') (_BI:∀ k,L.own k→S k),Calls Tryz.prog 164 #[.pointer (some ⟨L.bE,0,none⟩),.int .i64 x,.agg #[.int .i64 o.c,.int .i64 o.a,.int .i64 o.b]] w fun e w'=>e = .returned (.tuple #[.agg #[.int .i64 0,.int .i64 0],.int .i64 er])∧Goes R P L S w Y w'
def tree.jT:Prop:=∀ {σ:Type} {R:SR σ} {P:M.Plain σ} {L:Lt} {S:Nat→Prop} {Y:aT} {w:World} (x er:Int) (o:M.Op) (_her:er≠0) (_hS:∀ k,S k→k<w.heap.size) (_hc:∀ W,Below w.heap.size w W→Calls Tryz.prog 236 #[.pointer (some ⟨L.bE,0,none⟩),.int .i64 x,.agg #[.int .i64 o.c,.int .i64 o.a,.int .i64 o.b]] W fun e w'=>e = .returned (.int .i64 er)∧Goes R P L S W Y w') (_BI:∀ k,L.own k→S k),Calls Tryz.prog 238 #[.pointer (some ⟨L.bE,0,none⟩),.int .i64 x,.agg #[.int .i64 o.c,.int .i64 o.a,.int .i64 o.b]] w fun e w'=>e = .returned (.tuple #[.agg #[.int .i64 0,.int .i64 0],.int .i64 er])∧Goes R P L S w Y w'
def row.jT:Prop:=∀ {σ:Type} {R:SR σ} {P:M.Plain σ} {L:Lt} {S:Nat→Prop} {Y:aT} {w:World} (x er:Int) (o:M.Op) (_her:er≠0) (_hS:∀ k,S k→k<w.heap.size) (_hc:∀ W,Below w.heap.size w W→Calls Tryz.prog 199 #[.pointer (some ⟨L.bE,0,none⟩),.int .i64 x,.agg #[.int .i64 o.c,.int .i64 o.a,.int .i64 o.b]] W fun e w'=>e = .returned (.int .i64 er)∧Goes R P L S W Y w') (_BI:∀ k,L.own k→S k),Calls Tryz.prog 201 #[.pointer (some ⟨L.bE,0,none⟩),.int .i64 x,.agg #[.int .i64 o.c,.int .i64 o.a,.int .i64 o.b]] w fun e w'=>e = .returned (.tuple #[.agg #[.int .i64 0,.int .i64 0],.int .i64 er])∧Goes R P L S w Y w'
open row in
theorem xA:int.jT∧list.jT∧tree.jT∧row.jT:=by
 refine ⟨@mkK _ 0 ?_,@mkK _ 1 ?_,@mkK _ 2 ?_,@mkK _ 3 ?_⟩<;>intro kk σ R P L S Y w x er o her hS hc hown
 all_goals
  have aKh:(er == 0)=false:=by simp [her]
  first|(have _:Kn 0:=kk;go_enter Tryz.func104,Tryz.ntmps104)|(have _:Kn 1:=kk;go_enter Tryz.func164,Tryz.ntmps164)|(have _:Kn 2:=kk;go_enter Tryz.func238,Tryz.ntmps238)|(have _:Kn 3:=kk;go_enter Tryz.func201,Tryz.ntmps201)
  go_upto_region 1 with fail
  generalize hW:World.alloc (World.alloc w _) _=W
  have hb:Below w.heap.size w W:=by rw [←hW];exact ((Below.refl _ _).alloc (Nat.le_refl _) _).alloc (by simp) _
  have r0:Row W w.heap.size 46 [.int .i64 o.c,.int .i64 o.a,.int .i64 o.b]:=by rw [←hW];exact (Row.new' rfl).alloc _
  have r1:Row W (w.heap.size+1) 38 [.int .i64 0,.int .i64 0]:=by rw [←hW];exact Row.new' (by simp)
  have x0:=r0.cell_of (i:=0) rfl
  have x1:=r0.cell_of (i:=1) rfl
  have x2:=r0.cell_of (i:=2) rfl
  have LX:w.heap.size+1<W.heap.size:=r1.lt
  have uX:=aA r1
  have HB:=aA hb
  have HC:=aA (hc W hb)
  have hnS:¬S (w.heap.size+1):=fun c=>by have:=hS _ c;omega
  have hnO:¬L.own (w.heap.size+1):=fun c=>hnS (hown _ c)
  clear hW r0 r1 hb hc
  go_wp2_with fail
  refine HC.out.mono ?_
  rintro e w3 ⟨rfl,hg3⟩
  have r3:Row w3 (w.heap.size+1) 38 [.int .i64 0,.int .i64 0]:=uX.out.of_block (hg3.fr.block _ uX.out.lt hnO)
  have y0:=r3.cell_of (i:=0) rfl
  have y1:=r3.cell_of (i:=1) rfl
  have z0:=r3.frozen 0
  have z1:=r3.frozen 1
  have uT:=aA (r3.set 0 (.int .i64 0) |>.set 1 (.int .i64 0))
  have HG0:=aA hg3
  clear hg3 r3
  go_wp2_with fail
  have q1:=uT.out.cell_of (i:=0) rfl
  have q2:=uT.out.cell_of (i:=1) rfl
  refine bodyPost_ret (v:=.tuple #[.agg #[.int .i64 0,.int .i64 0],.int .i64 er]) (by simp [results,Tryz.results104,Tryz.results164,Tryz.results238,Tryz.results201,go_sem,q1,q2]) rfl ⟨rfl,?_⟩
  refine Goes.made (W:=W) (B:=w.heap.size+1) (Goes.KW HG0.out (B:=w.heap.size+1) (fun k hk _=>?_) ⟨rfl,rfl,rfl⟩ (by simp [World.setCell]) hnS (by omega)) (by omega) hS HB.out
  rw [Below.heap_setCell _ _ _ k hk,Below.heap_setCell _ _ _ k hk]
theorem int.DC:jT:=xA.1
theorem list.DC:jT:=xA.2.1
theorem tree.DC:jT:=xA.2.2.1
theorem row.DC:jT:=xA.2.2.2
def int.DoE {σ:Type} (R:SR σ) (P:M.Plain σ) (L:Lt) (S:Nat→Prop) (W:World) (D:DL) (t K:Nat) (Y':aT) (g:Nat) (w':World):Prop:=∃ Yc,sQ P D t K Y' g Yc∧Goes R P L S W Yc w'
def list.DoE {σ:Type} (R:SR σ) (P:M.Plain σ) (L:Lt) (S:Nat→Prop) (W:World) (D:DL) (t K:Nat) (Y':aT) (g:Nat) (w':World):Prop:=∃ Yc,sQ P D t K Y' g Yc∧Goes R P L S W Yc w'
def tree.DoE {σ:Type} (R:SR σ) (P:M.Plain σ) (L:Lt) (S:Nat→Prop) (W:World) (D:DL) (t K:Nat) (Y':aT) (g:Nat) (w':World):Prop:=∃ Yc,sQ P D t K Y' g Yc∧Goes R P L S W Yc w'
def row.DoE {σ:Type} (R:SR σ) (P:M.Plain σ) (L:Lt) (S:Nat→Prop) (W:World) (D:DL) (t K:Nat) (Y':aT) (g:Nat) (w':World):Prop:=∃ Yc,sQ P D t K Y' g Yc∧Goes R P L S W Yc w'
def int.iD:Prop:=∀ {σ:Type} {R:SR σ} {P:M.Plain σ} {L:Lt} {S:Nat→Prop} {E:aK σ} {Y:aT} {w:World} {t K:Nat} {fA:Nat} {rv:Value} (_hA:cE R P L fA rv) (_h:Both R P L S E Y w) (D:DL) (_NQ:D.n=L.n) (_NR:D.cap=L.cap) (_hK:zS D K Y) (_NS:K+6000≤1000000000) (_ht:t<L.n) (_hp:(Y.th t).part=0) (o:M.Op),Calls Tryz.prog 104 #[.pointer (some ⟨L.bE,0,none⟩),.int .i64 (t:Int),.agg #[.int .i64 o.c,.int .i64 o.a,.int .i64 o.b]] w fun e w'=>e = .returned (.tuple #[.agg #[.int .i64 (pM P (M.fin L.n L.cap t (M.aY Y t o)) t).s,.int .i64 (pM P (M.fin L.n L.cap t (M.aY Y t o)) t).v],.int .i64 0])∧Goes R P L S w (M.fin L.n L.cap t (M.aY Y t o)) w'
def list.iD:Prop:=∀ {σ:Type} {R:SR σ} {P:M.Plain σ} {L:Lt} {S:Nat→Prop} {E:aK σ} {Y:aT} {w:World} {t K:Nat} {fA:Nat} {rv:Value} (_hA:cE R P L fA rv) (_h:Both R P L S E Y w) (D:DL) (_NQ:D.n=L.n) (_NR:D.cap=L.cap) (_hK:zS D K Y) (_NS:K+6000≤1000000000) (_ht:t<L.n) (_hp:(Y.th t).part=0) (o:M.Op),Calls Tryz.prog 164 #[.pointer (some ⟨L.bE,0,none⟩),.int .i64 (t:Int),.agg #[.int .i64 o.c,.int .i64 o.a,.int .i64 o.b]] w fun e w'=>e = .returned (.tuple #[.agg #[.int .i64 (pM P (M.fin L.n L.cap t (M.aY Y t o)) t).s,.int .i64 (pM P (M.fin L.n L.cap t (M.aY Y t o)) t).v],.int .i64 0])∧Goes R P L S w (M.fin L.n L.cap t (M.aY Y t o)) w'
def tree.iD:Prop:=∀ {σ:Type} {R:SR σ} {P:M.Plain σ} {L:Lt} {S:Nat→Prop} {E:aK σ} {Y:aT} {w:World} {t K:Nat} {fA:Nat} {rv:Value} (_hA:cE R P L fA rv) (_h:Both R P L S E Y w) (D:DL) (_NQ:D.n=L.n) (_NR:D.cap=L.cap) (_hK:zS D K Y) (_NS:K+6000≤1000000000) (_ht:t<L.n) (_hp:(Y.th t).part=0) (o:M.Op),Calls Tryz.prog 238 #[.pointer (some ⟨L.bE,0,none⟩),.int .i64 (t:Int),.agg #[.int .i64 o.c,.int .i64 o.a,.int .i64 o.b]] w fun e w'=>e = .returned (.tuple #[.agg #[.int .i64 (pM P (M.fin L.n L.cap t (M.aY Y t o)) t).s,.int .i64 (pM P (M.fin L.n L.cap t (M.aY Y t o)) t).v],.int .i64 0])∧Goes R P L S w (M.fin L.n L.cap t (M.aY Y t o)) w'
def row.iD:Prop:=∀ {σ:Type} {R:SR σ} {P:M.Plain σ} {L:Lt} {S:Nat→Prop} {E:aK σ} {Y:aT} {w:World} {t K:Nat} {fA:Nat} {rv:Value} (_hA:cE R P L fA rv) (_h:Both R P L S E Y w) (D:DL) (_NQ:D.n=L.n) (_NR:D.cap=L.cap) (_hK:zS D K Y) (_NS:K+6000≤1000000000) (_ht:t<L.n) (_hp:(Y.th t).part=0) (o:M.Op),Calls Tryz.prog 201 #[.pointer (some ⟨L.bE,0,none⟩),.int .i64 (t:Int),.agg #[.int .i64 o.c,.int .i64 o.a,.int .i64 o.b]] w fun e w'=>e = .returned (.tuple #[.agg #[.int .i64 (pM P (M.fin L.n L.cap t (M.aY Y t o)) t).s,.int .i64 (pM P (M.fin L.n L.cap t (M.aY Y t o)) t).v],.int .i64 0])∧Goes R P L S w (M.fin L.n L.cap t (M.aY Y t o)) w'
open row in
theorem uU:int.iD∧list.iD∧tree.iD∧row.iD:=by
 refine ⟨@mkK _ 0 ?_,@mkK _ 1 ?_,@mkK _ 2 ?_,@mkK _ 3 ?_⟩<;>intro kk σ R P L S E Y w t K fA rv hA h D xB xC hK PT ht hp o
 all_goals
  have yS:=h.re.ok.n1
  have aGn:=h.re.ok.n64
  have aFV:=h.re.ok.WU
  have hGo:=sQ.begin (L:=D) (by rw [xB,xC];exact h.yi) (by omega) (by omega) (by omega) hp hK o
  rw [xB,xC] at hGo
  have htD:t<D.n:=by omega
  generalize hY1:M.aY Y t o=Y1 at *
  generalize hY':M.fin L.n L.cap t Y1=Y' at *
  first|(have _:Kn 0:=kk;go_enter Tryz.func104,Tryz.ntmps104)|(have _:Kn 1:=kk;go_enter Tryz.func164,Tryz.ntmps164)|(have _:Kn 2:=kk;go_enter Tryz.func238,Tryz.ntmps238)|(have _:Kn 3:=kk;go_enter Tryz.func201,Tryz.ntmps201)
  go_upto_region 1 with fail
  generalize hW:World.alloc (World.alloc w _) _=W
  have hb:Below w.heap.size w W:=by rw [←hW];exact ((Below.refl _ _).alloc (Nat.le_refl _) _).alloc (by simp) _
  have r0:Row W w.heap.size 46 [.int .i64 o.c,.int .i64 o.a,.int .i64 o.b]:=by rw [←hW];exact (Row.new' rfl).alloc _
  have r1:Row W (w.heap.size+1) 38 [.int .i64 0,.int .i64 0]:=by rw [←hW];exact Row.new' (by simp)
  have x0:=r0.cell_of (i:=0) rfl
  have x1:=r0.cell_of (i:=1) rfl
  have x2:=r0.cell_of (i:=2) rfl
  have HB:=aA hb
  have tG:Both R P L S E Y W:=h.stay (fun k hS=>hb.block k (h.re.lt k hS)) (fun _ hS=>hS) (fun k hS=>Nat.lt_of_lt_of_le (h.re.lt k hS) hb.size)
  have HBg:=aA ((uN tG o).2 t ht)
  rw [if_pos hp,if_pos hp,hY1] at HBg
  have hnS:¬S (w.heap.size+1):=fun c=>by have:=h.re.lt _ c;omega
  have hnO:¬L.own (w.heap.size+1):=fun c=>hnS (h.re.ow _ c)
  have HSL:=aA h.re.lt
  have uX:=aA r1
  have HGo:=aA hGo
  have HAp:=aA hA
  have ht':(t:Int)<(L.n:Int):=by omega
  have oG:(0:Int)≤(t:Int):=by omega
  have LX:w.heap.size+1<W.heap.size:=r1.lt
  clear hW r0 r1 hb h hGo hY1 hY' hK tG hA hp
  go_wp2_with fail
  refine HBg.out.mono ?_
  rintro e w3 ⟨rfl,hg3⟩
  have HG3:=aA hg3
  clear hg3
  go_wp2_with fail
  go_loopg [] 5000 (fun g w'=>DoE R P L S W D t (K+1) Y' g w')
  case atStart=>exact ⟨Y1,HGo.out,HG3.out⟩
  case round =>
   obtain ⟨Yc,ZS,hgo⟩:=hrel
   obtain ⟨Ec,hB⟩:=hgo.ex
   have hl:zS D 1000000000 Yc:=ZS.lim.mono (by have:=ZS.gl;omega)
   have hid:=hB.idle ht
   have c1:wr.cell? ⟨L.bE,1,none⟩=some (.slice (some ⟨L.g,0,none⟩) L.n L.gc):=hB.re.qM.cell_of rfl
   have HBu:=aA (qV hB.re ht)
   by_cases YT:(Yc.th t).part=0
   ·have hYe:=ZS.end YT
    subst hYe
    have ZJ:(Yc.th t).ended≠0:=by
     rw [ZS.yi.ok.ide t htD YT]
     exact fun c=>ZS.ops (List.eq_nil_of_length_eq_zero c)
    have HAn:=aA ((wV hB).2 t ht)
    rw [if_neg (by simpa using YT),if_neg ZJ,show tQ P Yc t=pM P Yc t from rfl] at HAn
    have HPH:=aA (show decide ((Ec.th t).phase≠0)=false by simpa using hid.mpr YT)
    have hr:Row wr (w.heap.size+1) 38 [.int .i64 0,.int .i64 0]:=uX.out.of_block (hgo.fr.block _ uX.out.lt hnO)
    have HR:=aA hr
    have aGq:=aA hgo
    clear ZS hgo hB hl hid YT ZJ hr HG3 HGo
    go_wp2_with fail
    refine HBu.out.mono ?_
    rintro e w4 ⟨rfl,rfl⟩
    rw [HPH.out]
    go_wp2_with fail
    refine HAn.out.mono ?_
    rintro e w5 ⟨rfl,zP⟩
    have r5:=HR.out.old zP
    have y0:=r5.cell_of (i:=0) rfl
    have y1:=r5.cell_of (i:=1) rfl
    have z0:=r5.frozen 0
    have z1:=r5.frozen 1
    have uT:=aA (r5.set 0 (.int .i64 (pM P Yc t).s) |>.set 1 (.int .i64 (pM P Yc t).v))
    have YO:=aA zP
    clear zP r5
    go_wp2_with fail
    have q1:=uT.out.cell_of (i:=0) rfl
    have q2:=uT.out.cell_of (i:=1) rfl
    refine bodyPost_ret (v:=.tuple #[.agg #[.int .i64 (pM P Yc t).s,.int .i64 (pM P Yc t).v],.int .i64 0]) (by simp [results,Tryz.results104,Tryz.results164,Tryz.results238,Tryz.results201,go_sem,q1,q2]) rfl ⟨rfl,?_⟩
    refine Goes.made (W:=W) (B:=w.heap.size+1) (Goes.KW aGq.out (B:=w.heap.size+1) (fun k hk hkk=>?_) ⟨YO.out.os,YO.out.tape,YO.out.output⟩ (by simp [World.setCell];exact YO.out.size) hnS (by omega)) (by omega) HSL.out HB.out
    rw [Below.heap_setCell _ _ _ k hk,Below.heap_setCell _ _ _ k hk]
    exact YO.out.block k hkk
   ·have cG:1≤(Ec.th t).phase:=by have:=mt hid.mp YT;omega
    have HPH:=aA (show decide ((Ec.th t).phase≠0)=true by simp;omega)
    have hN:Yc.bs.length≤1000000000:=hl.2
    have aDu:=hB.can ht hN
    have h13:=hB.phase ht
    have HSt:=aA (HZ HAp.out hB.re ht aDu (hB.sz8 ht hN (Nat.le_trans (hB.yi.all aGn (fun t ht=>hl.1 t (by omega))) (by omega))) cG h13)
    obtain ⟨s1,-⟩:=M.JY (Nat.lt_of_lt_of_le (by decide) yS) hB.inv ht YT
    have hst:=ZS.step (by omega) htD YT
    rw [xB,xC] at hst
    have hgk:0<gk:=hst.1
    have HPo:=aA (show ∀ w',aF R L (grown S W wr) wr (M.step P L.n L.cap Ec t) w'→DoE R P L S W D t (K+1) Y' (gk-1) w' from fun w' hd=>⟨_,hst.2,hgo.next (Goes.left hd s1 (hB.CT.step ht (hB.spare ht)) (hB.IA.step HAp.out.z hB.inv ht))⟩)
    clear ZS hgo hB hl hid YT hN aDu h13 s1 hst cG
    go_wp2_with fail
    refine HBu.out.mono ?_
    rintro e w4 ⟨rfl,rfl⟩
    rw [HPH.out]
    go_wp2_with fail
    refine HSt.out.mono ?_
    rintro e w5 ⟨rfl,hd5⟩
    have HP:=aA (HPo.out w5 hd5)
    clear hd5
    go_wp2_with fail
    go_roundg (gk-1)
    case measure=>omega
    case rel=>exact HP.out
theorem int.AR:iD:=uU.1
theorem list.AR:iD:=uU.2.1
theorem tree.AR:iD:=uU.2.2.1
theorem row.AR:iD:=uU.2.2.2
def int.pI:Prop:=∀ {σ:Type} {R:SR σ} {P:M.Plain σ} {L:Lt} {S:Nat→Prop} {E:aK σ} {Y:aT} {w:World} {K:Nat} {fA:Nat} {rv:Value} (_hA:cE R P L fA rv) (_h:Both R P L S E Y w) (D:DL) (_NQ:D.n=L.n) (_NR:D.cap=L.cap) (_hK:zS D K Y) (_NS:K+6000≤1000000000) (o:M.Op),(∀ x:Int,¬(0≤x∧x<L.n)→Calls Tryz.prog 104 #[.pointer (some ⟨L.bE,0,none⟩),.int .i64 x,.agg #[.int .i64 o.c,.int .i64 o.a,.int .i64 o.b]] w fun e w'=>e = .returned (.tuple #[.agg #[.int .i64 0,.int .i64 0],.int .i64 3])∧Goes R P L S w Y w')
  ∧ ∀ t,t<L.n→Calls Tryz.prog 104 #[.pointer (some ⟨L.bE,0,none⟩),.int .i64 (t:Int),.agg #[.int .i64 o.c,.int .i64 o.a,.int .i64 o.b]] w fun e w'=>e = .returned (doW P L.n L.cap Y t o)∧Goes R P L S w (doY L.n L.cap Y t o) w'
def list.pI:Prop:=∀ {σ:Type} {R:SR σ} {P:M.Plain σ} {L:Lt} {S:Nat→Prop} {E:aK σ} {Y:aT} {w:World} {K:Nat} {fA:Nat} {rv:Value} (_hA:cE R P L fA rv) (_h:Both R P L S E Y w) (D:DL) (_NQ:D.n=L.n) (_NR:D.cap=L.cap) (_hK:zS D K Y) (_NS:K+6000≤1000000000) (o:M.Op),(∀ x:Int,¬(0≤x∧x<L.n)→Calls Tryz.prog 164 #[.pointer (some ⟨L.bE,0,none⟩),.int .i64 x,.agg #[.int .i64 o.c,.int .i64 o.a,.int .i64 o.b]] w fun e w'=>e = .returned (.tuple #[.agg #[.int .i64 0,.int .i64 0],.int .i64 3])∧Goes R P L S w Y w')
  ∧ ∀ t,t<L.n→Calls Tryz.prog 164 #[.pointer (some ⟨L.bE,0,none⟩),.int .i64 (t:Int),.agg #[.int .i64 o.c,.int .i64 o.a,.int .i64 o.b]] w fun e w'=>e = .returned (doW P L.n L.cap Y t o)∧Goes R P L S w (doY L.n L.cap Y t o) w'
def tree.pI:Prop:=∀ {σ:Type} {R:SR σ} {P:M.Plain σ} {L:Lt} {S:Nat→Prop} {E:aK σ} {Y:aT} {w:World} {K:Nat} {fA:Nat} {rv:Value} (_hA:cE R P L fA rv) (_h:Both R P L S E Y w) (D:DL) (_NQ:D.n=L.n) (_NR:D.cap=L.cap) (_hK:zS D K Y) (_NS:K+6000≤1000000000) (o:M.Op),(∀ x:Int,¬(0≤x∧x<L.n)→Calls Tryz.prog 238 #[.pointer (some ⟨L.bE,0,none⟩),.int .i64 x,.agg #[.int .i64 o.c,.int .i64 o.a,.int .i64 o.b]] w fun e w'=>e = .returned (.tuple #[.agg #[.int .i64 0,.int .i64 0],.int .i64 3])∧Goes R P L S w Y w')
  ∧ ∀ t,t<L.n→Calls Tryz.prog 238 #[.pointer (some ⟨L.bE,0,none⟩),.int .i64 (t:Int),.agg #[.int .i64 o.c,.int .i64 o.a,.int .i64 o.b]] w fun e w'=>e = .returned (doW P L.n L.cap Y t o)∧Goes R P L S w (doY L.n L.cap Y t o) w'
def row.pI:Prop:=∀ {σ:Type} {R:SR σ} {P:M.Plain σ} {L:Lt} {S:Nat→Prop} {E:aK σ} {Y:aT} {w:World} {K:Nat} {fA:Nat} {rv:Value} (_hA:cE R P L fA rv) (_h:Both R P L S E Y w) (D:DL) (_NQ:D.n=L.n) (_NR:D.cap=L.cap) (_hK:zS D K Y) (_NS:K+6000≤1000000000) (o:M.Op),(∀ x:Int,¬(0≤x∧x<L.n)→Calls Tryz.prog 201 #[.pointer (some ⟨L.bE,0,none⟩),.int .i64 x,.agg #[.int .i64 o.c,.int .i64 o.a,.int .i64 o.b]] w fun e w'=>e = .returned (.tuple #[.agg #[.int .i64 0,.int .i64 0],.int .i64 3])∧Goes R P L S w Y w')
  ∧ ∀ t,t<L.n→Calls Tryz.prog 201 #[.pointer (some ⟨L.bE,0,none⟩),.int .i64 (t:Int),.agg #[.int .i64 o.c,.int .i64 o.a,.int .i64 o.b]] w fun e w'=>e = .returned (doW P L.n L.cap Y t o)∧Goes R P L S w (doY L.n L.cap Y t o) w'
open row in
theorem IG:int.pI∧list.pI∧tree.pI∧row.pI:=by
 refine ⟨?_,?_,?_,?_⟩<;>intro σ R P L S E Y w K fA rv hA h D xB xC hK PT o
 all_goals
  have st:∀ W,Below w.heap.size w W→Both R P L S E Y W:=fun W hb=>h.stay (fun k hS=>hb.block k (h.re.lt k hS)) (fun _ hS=>hS) (fun k hS=>Nat.lt_of_lt_of_le (h.re.lt k hS) hb.size)
  refine ⟨fun x hx=>DC x 3 o (by decide) h.re.lt (fun W hb=>(uN (st W hb) o).1 x hx) h.re.ow,fun t ht=>?_⟩
  unfold doW doY
  by_cases hp:(Y.th t).part=0
  ·rw [if_neg (by simpa using hp),if_neg (by simpa using hp)]
   exact AR hA h D xB xC hK PT ht hp o
  ·rw [if_pos hp,if_pos hp]
   refine DC (t:Int) 4 o (by decide) h.re.lt (fun W hb=>?_) h.re.ow
   have:=(uN (st W hb) o).2 t ht
   rw [if_neg hp,if_neg hp] at this
   exact this
theorem int.DD:pI:=IG.1
theorem list.DD:pI:=IG.2.1
theorem tree.DD:pI:=IG.2.2.1
theorem row.DD:pI:=IG.2.2.2
end Go.Proofs.YtefjhnhdagolhabGreat
namespace Go.Proofs.YtefjhnhdagolhabGreat
open int list tree
open Go.RowKit
open M (aH aC aE cY aS aK aT bJ aR aL aM marks tagged num YI)
theorem int.Goes.DE {σ:Type} {R:SR σ} {P:M.Plain σ} {L:Lt} {S:Nat→Prop} {w w':World} {Y':aT} (hS:∀ k,L.own k→S k) (h:Goes R P L S w Y' w'):zH (fun S Y w=>∃ E,Both R P L S E Y w) S w Y' w' :=
 ⟨h.ex,⟨h.fr.os,h.fr.tape,h.fr.output,h.fr.size,fun k hk hn=>h.fr.block k hk (fun c=>hn (hS k c))⟩⟩
theorem list.Goes.DE {σ:Type} {R:SR σ} {P:M.Plain σ} {L:Lt} {S:Nat→Prop} {w w':World} {Y':aT} (hS:∀ k,L.own k→S k) (h:Goes R P L S w Y' w'):zH (fun S Y w=>∃ E,Both R P L S E Y w) S w Y' w' :=
 ⟨h.ex,⟨h.fr.os,h.fr.tape,h.fr.output,h.fr.size,fun k hk hn=>h.fr.block k hk (fun c=>hn (hS k c))⟩⟩
theorem tree.Goes.DE {σ:Type} {R:SR σ} {P:M.Plain σ} {L:Lt} {S:Nat→Prop} {w w':World} {Y':aT} (hS:∀ k,L.own k→S k) (h:Goes R P L S w Y' w'):zH (fun S Y w=>∃ E,Both R P L S E Y w) S w Y' w' :=
 ⟨h.ex,⟨h.fr.os,h.fr.tape,h.fr.output,h.fr.size,fun k hk hn=>h.fr.block k hk (fun c=>hn (hS k c))⟩⟩
theorem row.Goes.DE {σ:Type} {R:SR σ} {P:M.Plain σ} {L:Lt} {S:Nat→Prop} {w w':World} {Y':aT} (hS:∀ k,L.own k→S k) (h:Goes R P L S w Y' w'):zH (fun S Y w=>∃ E,Both R P L S E Y w) S w Y' w' :=
 ⟨h.ex,⟨h.fr.os,h.fr.tape,h.fr.output,h.fr.size,fun k hk hn=>h.fr.block k hk (fun c=>hn (hS k c))⟩⟩
theorem int.xD {σ:Type} (P:M.Plain σ) (Y:aT):(tF P Y Y.order.length).st=pN P Y:=by rw [EW,KJ];rfl
theorem int.YU {σ:Type} {R:SR σ} {P:M.Plain σ} {L:Lt} {tell:σ→List Int} {fA:Nat} {rv:Value} (hA:cE R P L fA rv) {fT:Nat} {rt:Value} (hT:sL R L tell fT rt) (D:DL) (xB:D.n=L.n) (xC:D.cap=L.cap) :
  EF P tell D 83 L.bE (fun S Y w=>∃ E,Both R P L S E Y w) 104 105 106 where
 mDo _:=by kernel_rfl
 mOr _:=by kernel_rfl
 mTe _:=by kernel_rfl
 cDo _ _ _:=by kernel_rfl
 cOr _:=by kernel_rfl
 cTe _:=by kernel_rfl
 yi S Y w h:=by obtain ⟨E,h⟩:=h;rw [xB,xC];exact h.yi
 lt S Y w h:=by obtain ⟨E,h⟩:=h;exact h.re.lt
 stay S S' Y w w' h hk hS hlt:=by obtain ⟨E,h⟩:=h;exact ⟨E,h.stay hk hS hlt⟩
 dd S Y w x o K h hK PT:=by
  obtain ⟨E,h⟩:=h
  rw [xB,xC]
  unfold YC doZ
  by_cases hx:ZK L.n x
  ·rw [if_pos hx,if_pos hx]
   obtain ⟨t,rfl,ht,e⟩:=FW hx
   rw [e,←zT]
   refine ((DD hA h D xB xC hK PT o).2 t ht).mono ?_
   rintro e w' ⟨rfl,hg⟩
   exact ⟨rfl,hg.DE h.re.ow⟩
  ·rw [if_neg hx,if_neg hx]
   refine ((DD hA h D xB xC hK PT o).1 x hx).mono ?_
   rintro e w' ⟨rfl,hg⟩
   exact ⟨rfl,hg.DE h.re.ow⟩
 or S Y w h hK:=by
  obtain ⟨E,h⟩:=h
  have:=h.yi.all h.re.ok.n64 (B:=1000000000) (fun t ht=>hK.1 t (by omega))
  exact sK h hK.2 (by omega)
 te S Y w h hK:=by
  obtain ⟨E,h⟩:=h
  rw [xD]
  exact sM hT hA.z h hK.2 (Nat.le_trans (h.yi.all h.re.ok.n64 (B:=1000000000) (fun t ht=>hK.1 t (by omega))) (by omega))
theorem list.YU {σ:Type} {R:SR σ} {P:M.Plain σ} {L:Lt} {tell:σ→List Int} {fA:Nat} {rv:Value} (hA:cE R P L fA rv) {fT:Nat} {rt:Value} (hT:sL R L tell fT rt) (D:DL) (xB:D.n=L.n) (xC:D.cap=L.cap) :
  EF P tell D 87 L.bE (fun S Y w=>∃ E,Both R P L S E Y w) 164 165 166 where
 mDo _:=by kernel_rfl
 mOr _:=by kernel_rfl
 mTe _:=by kernel_rfl
 cDo _ _ _:=by kernel_rfl
 cOr _:=by kernel_rfl
 cTe _:=by kernel_rfl
 yi S Y w h:=by obtain ⟨E,h⟩:=h;rw [xB,xC];exact h.yi
 lt S Y w h:=by obtain ⟨E,h⟩:=h;exact h.re.lt
 stay S S' Y w w' h hk hS hlt:=by obtain ⟨E,h⟩:=h;exact ⟨E,h.stay hk hS hlt⟩
 dd S Y w x o K h hK PT:=by
  obtain ⟨E,h⟩:=h
  rw [xB,xC]
  unfold YC doZ
  by_cases hx:ZK L.n x
  ·rw [if_pos hx,if_pos hx]
   obtain ⟨t,rfl,ht,e⟩:=FW hx
   rw [e,←zT]
   refine ((DD hA h D xB xC hK PT o).2 t ht).mono ?_
   rintro e w' ⟨rfl,hg⟩
   exact ⟨rfl,hg.DE h.re.ow⟩
  ·rw [if_neg hx,if_neg hx]
   refine ((DD hA h D xB xC hK PT o).1 x hx).mono ?_
   rintro e w' ⟨rfl,hg⟩
   exact ⟨rfl,hg.DE h.re.ow⟩
 or S Y w h hK:=by
  obtain ⟨E,h⟩:=h
  have:=h.yi.all h.re.ok.n64 (B:=1000000000) (fun t ht=>hK.1 t (by omega))
  exact sK h hK.2 (by omega)
 te S Y w h hK:=by
  obtain ⟨E,h⟩:=h
  rw [xD]
  exact sM hT hA.z h hK.2 (Nat.le_trans (h.yi.all h.re.ok.n64 (B:=1000000000) (fun t ht=>hK.1 t (by omega))) (by omega))
theorem tree.YU {σ:Type} {R:SR σ} {P:M.Plain σ} {L:Lt} {tell:σ→List Int} {fA:Nat} {rv:Value} (hA:cE R P L fA rv) {fT:Nat} {rt:Value} (hT:sL R L tell fT rt) (D:DL) (xB:D.n=L.n) (xC:D.cap=L.cap) :
  EF P tell D 95 L.bE (fun S Y w=>∃ E,Both R P L S E Y w) 238 239 240 where
 mDo _:=by kernel_rfl
 mOr _:=by kernel_rfl
 mTe _:=by kernel_rfl
 cDo _ _ _:=by kernel_rfl
 cOr _:=by kernel_rfl
 cTe _:=by kernel_rfl
 yi S Y w h:=by obtain ⟨E,h⟩:=h;rw [xB,xC];exact h.yi
 lt S Y w h:=by obtain ⟨E,h⟩:=h;exact h.re.lt
 stay S S' Y w w' h hk hS hlt:=by obtain ⟨E,h⟩:=h;exact ⟨E,h.stay hk hS hlt⟩
 dd S Y w x o K h hK PT:=by
  obtain ⟨E,h⟩:=h
  rw [xB,xC]
  unfold YC doZ
  by_cases hx:ZK L.n x
  ·rw [if_pos hx,if_pos hx]
   obtain ⟨t,rfl,ht,e⟩:=FW hx
   rw [e,←zT]
   refine ((DD hA h D xB xC hK PT o).2 t ht).mono ?_
   rintro e w' ⟨rfl,hg⟩
   exact ⟨rfl,hg.DE h.re.ow⟩
  ·rw [if_neg hx,if_neg hx]
   refine ((DD hA h D xB xC hK PT o).1 x hx).mono ?_
   rintro e w' ⟨rfl,hg⟩
   exact ⟨rfl,hg.DE h.re.ow⟩
 or S Y w h hK:=by
  obtain ⟨E,h⟩:=h
  have:=h.yi.all h.re.ok.n64 (B:=1000000000) (fun t ht=>hK.1 t (by omega))
  exact sK h hK.2 (by omega)
 te S Y w h hK:=by
  obtain ⟨E,h⟩:=h
  rw [xD]
  exact sM hT hA.z h hK.2 (Nat.le_trans (h.yi.all h.re.ok.n64 (B:=1000000000) (fun t ht=>hK.1 t (by omega))) (by omega))
theorem row.YU {σ:Type} {R:SR σ} {P:M.Plain σ} {L:Lt} {tell:σ→List Int} {fA:Nat} {rv:Value} (hA:cE R P L fA rv) {fT:Nat} {rt:Value} (hT:sL R L tell fT rt) (D:DL) (xB:D.n=L.n) (xC:D.cap=L.cap) :
  EF P tell D 91 L.bE (fun S Y w=>∃ E,Both R P L S E Y w) 201 202 203 where
 mDo _:=by kernel_rfl
 mOr _:=by kernel_rfl
 mTe _:=by kernel_rfl
 cDo _ _ _:=by kernel_rfl
 cOr _:=by kernel_rfl
 cTe _:=by kernel_rfl
 yi S Y w h:=by obtain ⟨E,h⟩:=h;rw [xB,xC];exact h.yi
 lt S Y w h:=by obtain ⟨E,h⟩:=h;exact h.re.lt
 stay S S' Y w w' h hk hS hlt:=by obtain ⟨E,h⟩:=h;exact ⟨E,h.stay hk hS hlt⟩
 dd S Y w x o K h hK PT:=by
  obtain ⟨E,h⟩:=h
  rw [xB,xC]
  unfold YC doZ
  by_cases hx:ZK L.n x
  ·rw [if_pos hx,if_pos hx]
   obtain ⟨t,rfl,ht,e⟩:=FW hx
   rw [e,←zT]
   refine ((DD hA h D xB xC hK PT o).2 t ht).mono ?_
   rintro e w' ⟨rfl,hg⟩
   exact ⟨rfl,hg.DE h.re.ow⟩
  ·rw [if_neg hx,if_neg hx]
   refine ((DD hA h D xB xC hK PT o).1 x hx).mono ?_
   rintro e w' ⟨rfl,hg⟩
   exact ⟨rfl,hg.DE h.re.ow⟩
 or S Y w h hK:=by
  obtain ⟨E,h⟩:=h
  have:=h.yi.all h.re.ok.n64 (B:=1000000000) (fun t ht=>hK.1 t (by omega))
  exact sK h hK.2 (by omega)
 te S Y w h hK:=by
  obtain ⟨E,h⟩:=h
  rw [xD]
  exact sM hT hA.z h hK.2 (Nat.le_trans (h.yi.all h.re.ok.n64 (B:=1000000000) (fun t ht=>hK.1 t (by omega))) (by omega))
def int.lU:Prop:=∀ {σ:Type} {P:M.Plain σ} {tell:σ→List Int} {n cap:Nat} {oT:TypeId} {fA fT:Nat} {w b w'} (_hn:1≤n) (_NI:n≤64) (_hc:cap≤64) (_h:∃ (w1:World) (G:Nat→Prop) (R:SR σ) (ov rv rt:Value),Below w.heap.size w w1∧dL w1 n (cap:Int) oT ov b w'∧(∀ k,G k→w.heap.size≤k∧k<w1.heap.size)∧(∀ I:Nat→Prop,(∀ k,G k→I k)→R.rep I w' P.first [.int .i64 0])∧(∀ L:Lt,L.oT=oT→L.ov=ov→cE R P L fA rv)∧∀ L:Lt,L.oT=oT→L.ov=ov→sL R L tell fT rt),vD P tell n cap w b w'
def list.lU:Prop:=∀ {σ:Type} {P:M.Plain σ} {tell:σ→List Int} {n cap:Nat} {oT:TypeId} {fA fT:Nat} {w b w'} (_hn:1≤n) (_NI:n≤64) (_hc:cap≤64) (_h:∃ (w1:World) (G:Nat→Prop) (R:SR σ) (ov rv rt:Value),Below w.heap.size w w1∧dL w1 n (cap:Int) oT ov b w'∧(∀ k,G k→w.heap.size≤k∧k<w1.heap.size)∧(∀ I:Nat→Prop,(∀ k,G k→I k)→R.rep I w' P.first [.pointer none])∧(∀ L:Lt,L.oT=oT→L.ov=ov→cE R P L fA rv)∧∀ L:Lt,L.oT=oT→L.ov=ov→sL R L tell fT rt),vD P tell n cap w b w'
def tree.lU:Prop:=∀ {σ:Type} {P:M.Plain σ} {tell:σ→List Int} {n cap:Nat} {oT:TypeId} {fA fT:Nat} {w b w'} (_hn:1≤n) (_NI:n≤64) (_hc:cap≤64) (_h:∃ (w1:World) (G:Nat→Prop) (R:SR σ) (ov rv rt:Value),Below w.heap.size w w1∧dL w1 n (cap:Int) oT ov b w'∧(∀ k,G k→w.heap.size≤k∧k<w1.heap.size)∧(∀ I:Nat→Prop,(∀ k,G k→I k)→R.rep I w' P.first [.pointer none])∧(∀ L:Lt,L.oT=oT→L.ov=ov→cE R P L fA rv)∧∀ L:Lt,L.oT=oT→L.ov=ov→sL R L tell fT rt),vD P tell n cap w b w'
def row.lU:Prop:=∀ {σ:Type} {P:M.Plain σ} {tell:σ→List Int} {n cap:Nat} {oT:TypeId} {fA fT:Nat} {w b w'} (_hn:1≤n) (_NI:n≤64) (_hc:cap≤64) (_h:∃ (w1:World) (G:Nat→Prop) (R:SR σ) (ov rv rt:Value),Below w.heap.size w w1∧dL w1 n (cap:Int) oT ov b w'∧(∀ k,G k→w.heap.size≤k∧k<w1.heap.size)∧(∀ I:Nat→Prop,(∀ k,G k→I k)→R.rep I w' P.first [.pointer none,.pointer none])∧(∀ L:Lt,L.oT=oT→L.ov=ov→cE R P L fA rv)∧∀ L:Lt,L.oT=oT→L.ov=ov→sL R L tell fT rt),vD P tell n cap w b w'
open row in
theorem AU:int.lU∧list.lU∧tree.lU∧row.lU:=by
 refine ⟨?_,?_,?_,?_⟩<;>intro σ P tell n cap oT fA fT w b w' hn tY hc h
 all_goals
  obtain ⟨wg,G,R,ov,rv,rt,hbg,⟨bN',hr',hE,hge⟩,hG,hz,hA,hT⟩:=h
  obtain ⟨L,e1,e2,e3,e4,rfl,hB⟩:=Both.new2 (P:=P) hr' hE hn tY hc (fun k hk=>(hG k hk).2) hz
  have z3:=hbg.size
  have z5:=hE.below.1.size
  refine ⟨_,L.bE,_,_,_,_,_,fun D d1 d2=>YU (hA L e3 e4) (hT L e3 e4) D (d1.trans e1.symm) (d2.trans e2.symm),⟨_,hB⟩,hr',?_,by omega,Below.next hbg hE.below.1 hbg.size⟩
  rintro k (c|c)
  ·exact ⟨by omega,c.1.2,c.2⟩
  ·have:=hG k c
   exact ⟨by omega,by omega,by omega⟩
theorem int.DF:lU:=AU.1
theorem list.DF:lU:=AU.2.1
theorem tree.DF:lU:=AU.2.2.1
theorem row.DF:lU:=AU.2.2.2
end Go.Proofs.YtefjhnhdagolhabGreat
