import Derived.Test.YtefjhnhdagolhaaGreatQ37
import Derived.Test.YtefjhnhdagolhaaGreatQ14
set_option maxHeartbeats 8000000
set_option maxRecDepth 20000
namespace Go.Proofs.YtefjhnhdagolhaaGreat
open int list tree
open Go.RowKit
open M (aI aC aD cY aS aK aP bA aQ aL aN marks tagged num YI)
attribute [local go_sem ↓] Go.wp_at_zero Go.wp_at_succ
theorem int.Both.yi {σ:Type} {R:SR σ} {P:M.Plain σ} {L:Lt} {S:Nat→Prop} {E:aK σ} {Y:aP} {w:World} (h:Both R P L S E Y w):YI P L.n L.cap Y:=⟨E,h.inv⟩
theorem list.Both.yi {σ:Type} {R:SR σ} {P:M.Plain σ} {L:Lt} {S:Nat→Prop} {E:aK σ} {Y:aP} {w:World} (h:Both R P L S E Y w):YI P L.n L.cap Y:=⟨E,h.inv⟩
theorem tree.Both.yi {σ:Type} {R:SR σ} {P:M.Plain σ} {L:Lt} {S:Nat→Prop} {E:aK σ} {Y:aP} {w:World} (h:Both R P L S E Y w):YI P L.n L.cap Y:=⟨E,h.inv⟩
theorem row.Both.yi {σ:Type} {R:SR σ} {P:M.Plain σ} {L:Lt} {S:Nat→Prop} {E:aK σ} {Y:aP} {w:World} (h:Both R P L S E Y w):YI P L.n L.cap Y:=⟨E,h.inv⟩
theorem int.Both.stay {σ:Type} {R:SR σ} {P:M.Plain σ} {L:Lt} {S S':Nat→Prop} {E:aK σ} {Y:aP} {w w1:World} (h:Both R P L S E Y w) (hk:∀ k,S k→w1.heap[k]?=w.heap[k]?) (hS:∀ k,S k→S' k) (hlt:∀ k,S' k→k<w1.heap.size):Both R P L S' E Y w1:=⟨h.re.stay hk hS hlt,h.inv,h.yB,h.AY⟩
theorem list.Both.stay {σ:Type} {R:SR σ} {P:M.Plain σ} {L:Lt} {S S':Nat→Prop} {E:aK σ} {Y:aP} {w w1:World} (h:Both R P L S E Y w) (hk:∀ k,S k→w1.heap[k]?=w.heap[k]?) (hS:∀ k,S k→S' k) (hlt:∀ k,S' k→k<w1.heap.size):Both R P L S' E Y w1:=⟨h.re.stay hk hS hlt,h.inv,h.yB,h.AY⟩
theorem tree.Both.stay {σ:Type} {R:SR σ} {P:M.Plain σ} {L:Lt} {S S':Nat→Prop} {E:aK σ} {Y:aP} {w w1:World} (h:Both R P L S E Y w) (hk:∀ k,S k→w1.heap[k]?=w.heap[k]?) (hS:∀ k,S k→S' k) (hlt:∀ k,S' k→k<w1.heap.size):Both R P L S' E Y w1:=⟨h.re.stay hk hS hlt,h.inv,h.yB,h.AY⟩
theorem row.Both.stay {σ:Type} {R:SR σ} {P:M.Plain σ} {L:Lt} {S S':Nat→Prop} {E:aK σ} {Y:aP} {w w1:World} (h:Both R P L S E Y w) (hk:∀ k,S k→w1.heap[k]?=w.heap[k]?) (hS:∀ k,S k→S' k) (hlt:∀ k,S' k→k<w1.heap.size):Both R P L S' E Y w1:=⟨h.re.stay hk hS hlt,h.inv,h.yB,h.AY⟩
theorem int.Goes.next {σ:Type} {R:SR σ} {P:M.Plain σ} {L:Lt} {S:Nat→Prop} {Y' RR:aP} {w w1 w2:World} (h:Goes R P L S w Y' w1) (h':Goes R P L (grown S w w1) w1 RR w2):Goes R P L S w RR w2:=by
 obtain ⟨E1,b1⟩:=h.ex
 obtain ⟨E2,b2⟩:=h'.ex
 exact Goes.left (aF.next ⟨b1.re,h.fr⟩ ⟨b2.re,h'.fr⟩) b2.inv b2.yB b2.AY
theorem list.Goes.next {σ:Type} {R:SR σ} {P:M.Plain σ} {L:Lt} {S:Nat→Prop} {Y' RR:aP} {w w1 w2:World} (h:Goes R P L S w Y' w1) (h':Goes R P L (grown S w w1) w1 RR w2):Goes R P L S w RR w2:=by
 obtain ⟨E1,b1⟩:=h.ex
 obtain ⟨E2,b2⟩:=h'.ex
 exact Goes.left (aF.next ⟨b1.re,h.fr⟩ ⟨b2.re,h'.fr⟩) b2.inv b2.yB b2.AY
theorem tree.Goes.next {σ:Type} {R:SR σ} {P:M.Plain σ} {L:Lt} {S:Nat→Prop} {Y' RR:aP} {w w1 w2:World} (h:Goes R P L S w Y' w1) (h':Goes R P L (grown S w w1) w1 RR w2):Goes R P L S w RR w2:=by
 obtain ⟨E1,b1⟩:=h.ex
 obtain ⟨E2,b2⟩:=h'.ex
 exact Goes.left (aF.next ⟨b1.re,h.fr⟩ ⟨b2.re,h'.fr⟩) b2.inv b2.yB b2.AY
theorem row.Goes.next {σ:Type} {R:SR σ} {P:M.Plain σ} {L:Lt} {S:Nat→Prop} {Y' RR:aP} {w w1 w2:World} (h:Goes R P L S w Y' w1) (h':Goes R P L (grown S w w1) w1 RR w2):Goes R P L S w RR w2:=by
 obtain ⟨E1,b1⟩:=h.ex
 obtain ⟨E2,b2⟩:=h'.ex
 exact Goes.left (aF.next ⟨b1.re,h.fr⟩ ⟨b2.re,h'.fr⟩) b2.inv b2.yB b2.AY
def int.Goes.lV:Prop:=∀ {σ:Type} {R:SR σ} {P:M.Plain σ} {L:Lt} {S:Nat→Prop} {Y':aP} {w w1 w2:World} (_h:Goes R P L S w Y' w1) {B:Nat} (_hk:∀ k,k≠B→k<w1.heap.size→w2.heap[k]?=w1.heap[k]?) (_ho:w2.os=w1.os∧w2.tape=w1.tape∧w2.output=w1.output) (_hz:w1.heap.size≤w2.heap.size) (_hBS:¬S B) (_hB:B<w.heap.size),(∃ E',Both R P L (grown S w w2) E' Y' w2)∧w2.os=w.os∧w2.tape=w.tape∧w2.output=w.output∧w.heap.size≤w2.heap.size∧∀ k,k<w.heap.size→k≠B→¬L.own k→w2.heap[k]?=w.heap[k]?
def list.Goes.lV:Prop:=∀ {σ:Type} {R:SR σ} {P:M.Plain σ} {L:Lt} {S:Nat→Prop} {Y':aP} {w w1 w2:World} (_h:Goes R P L S w Y' w1) {B:Nat} (_hk:∀ k,k≠B→k<w1.heap.size→w2.heap[k]?=w1.heap[k]?) (_ho:w2.os=w1.os∧w2.tape=w1.tape∧w2.output=w1.output) (_hz:w1.heap.size≤w2.heap.size) (_hBS:¬S B) (_hB:B<w.heap.size),(∃ E',Both R P L (grown S w w2) E' Y' w2)∧w2.os=w.os∧w2.tape=w.tape∧w2.output=w.output∧w.heap.size≤w2.heap.size∧∀ k,k<w.heap.size→k≠B→¬L.own k→w2.heap[k]?=w.heap[k]?
def tree.Goes.lV:Prop:=∀ {σ:Type} {R:SR σ} {P:M.Plain σ} {L:Lt} {S:Nat→Prop} {Y':aP} {w w1 w2:World} (_h:Goes R P L S w Y' w1) {B:Nat} (_hk:∀ k,k≠B→k<w1.heap.size→w2.heap[k]?=w1.heap[k]?) (_ho:w2.os=w1.os∧w2.tape=w1.tape∧w2.output=w1.output) (_hz:w1.heap.size≤w2.heap.size) (_hBS:¬S B) (_hB:B<w.heap.size),(∃ E',Both R P L (grown S w w2) E' Y' w2)∧w2.os=w.os∧w2.tape=w.tape∧w2.output=w.output∧w.heap.size≤w2.heap.size∧∀ k,k<w.heap.size→k≠B→¬L.own k→w2.heap[k]?=w.heap[k]?
def row.Goes.lV:Prop:=∀ {σ:Type} {R:SR σ} {P:M.Plain σ} {L:Lt} {S:Nat→Prop} {Y':aP} {w w1 w2:World} (_h:Goes R P L S w Y' w1) {B:Nat} (_hk:∀ k,k≠B→k<w1.heap.size→w2.heap[k]?=w1.heap[k]?) (_ho:w2.os=w1.os∧w2.tape=w1.tape∧w2.output=w1.output) (_hz:w1.heap.size≤w2.heap.size) (_hBS:¬S B) (_hB:B<w.heap.size),(∃ E',Both R P L (grown S w w2) E' Y' w2)∧w2.os=w.os∧w2.tape=w.tape∧w2.output=w.output∧w.heap.size≤w2.heap.size∧∀ k,k<w.heap.size→k≠B→¬L.own k→w2.heap[k]?=w.heap[k]?
open row in
theorem oM:int.Goes.lV∧list.Goes.lV∧tree.Goes.lV∧row.Goes.lV:=by
 refine ⟨?_,?_,?_,?_⟩<;>intro σ R P L S Y' w w1 w2 h B hk ho hz hBS hB
 all_goals
  obtain ⟨E1,b1⟩:=h.ex
  refine ⟨⟨E1,b1.stay (fun k hS=>hk k (fun e=>?_) (b1.re.lt k hS)) (fun k hS=>?_) (fun k hS=>?_)⟩,ho.1.trans h.fr.os,ho.2.1.trans h.fr.tape,ho.2.2.trans h.fr.output,Nat.le_trans h.fr.size hz,fun k hkk hne ho'=>(hk k hne (Nat.lt_of_lt_of_le hkk h.fr.size)).trans (h.fr.block k hkk ho')⟩
  ·subst e
   rcases hS with hS|hS
   ·exact hBS hS
   ·omega
  ·rcases hS with hS|hS
   ·exact .inl hS
   ·exact .inr ⟨hS.1,Nat.lt_of_lt_of_le hS.2 hz⟩
  ·rcases hS with hS|hS
   ·exact Nat.lt_of_lt_of_le (b1.re.lt k (.inl hS)) hz
   ·exact hS.2
theorem int.Goes.LK:lV:=oM.1
theorem list.Goes.LK:lV:=oM.2.1
theorem tree.Goes.LK:lV:=oM.2.2.1
theorem row.Goes.LK:lV:=oM.2.2.2
def int.Goes.pQ:Prop:=∀ {σ:Type} {R:SR σ} {P:M.Plain σ} {L:Lt} {S:Nat→Prop} {Y':aP} {w w2:World} {W:World} {B:Nat} (_h:(∃ E',Both R P L (grown S W w2) E' Y' w2)∧w2.os=W.os∧w2.tape=W.tape∧w2.output=W.output∧W.heap.size≤w2.heap.size∧∀ k,k<W.heap.size→k≠B→¬L.own k→w2.heap[k]?=W.heap[k]?) (_hB:w.heap.size≤B) (_hS:∀ k,S k→k<w.heap.size) (_hb:Below w.heap.size w W),Goes R P L S w Y' w2
def list.Goes.pQ:Prop:=∀ {σ:Type} {R:SR σ} {P:M.Plain σ} {L:Lt} {S:Nat→Prop} {Y':aP} {w w2:World} {W:World} {B:Nat} (_h:(∃ E',Both R P L (grown S W w2) E' Y' w2)∧w2.os=W.os∧w2.tape=W.tape∧w2.output=W.output∧W.heap.size≤w2.heap.size∧∀ k,k<W.heap.size→k≠B→¬L.own k→w2.heap[k]?=W.heap[k]?) (_hB:w.heap.size≤B) (_hS:∀ k,S k→k<w.heap.size) (_hb:Below w.heap.size w W),Goes R P L S w Y' w2
def tree.Goes.pQ:Prop:=∀ {σ:Type} {R:SR σ} {P:M.Plain σ} {L:Lt} {S:Nat→Prop} {Y':aP} {w w2:World} {W:World} {B:Nat} (_h:(∃ E',Both R P L (grown S W w2) E' Y' w2)∧w2.os=W.os∧w2.tape=W.tape∧w2.output=W.output∧W.heap.size≤w2.heap.size∧∀ k,k<W.heap.size→k≠B→¬L.own k→w2.heap[k]?=W.heap[k]?) (_hB:w.heap.size≤B) (_hS:∀ k,S k→k<w.heap.size) (_hb:Below w.heap.size w W),Goes R P L S w Y' w2
def row.Goes.pQ:Prop:=∀ {σ:Type} {R:SR σ} {P:M.Plain σ} {L:Lt} {S:Nat→Prop} {Y':aP} {w w2:World} {W:World} {B:Nat} (_h:(∃ E',Both R P L (grown S W w2) E' Y' w2)∧w2.os=W.os∧w2.tape=W.tape∧w2.output=W.output∧W.heap.size≤w2.heap.size∧∀ k,k<W.heap.size→k≠B→¬L.own k→w2.heap[k]?=W.heap[k]?) (_hB:w.heap.size≤B) (_hS:∀ k,S k→k<w.heap.size) (_hb:Below w.heap.size w W),Goes R P L S w Y' w2
open row in
theorem qV:int.Goes.pQ∧list.Goes.pQ∧tree.Goes.pQ∧row.Goes.pQ:=by
 refine ⟨?_,?_,?_,?_⟩<;>intro σ R P L S Y' w w2 W B h hB hS hb
 all_goals
  obtain ⟨⟨E1,b1⟩,h1,h2,h3,h4,h5⟩:=h
  have hz:=hb.size
  refine ⟨⟨E1,b1.stay (fun _ _=>rfl) (fun k hk=>?_) (fun k hk=>?_)⟩,⟨h1.trans hb.os,h2.trans hb.tape,h3.trans hb.output,Nat.le_trans hb.size h4,fun k hk ho=>(h5 k (by omega) (by omega) ho).trans (hb.block k hk)⟩⟩
  ·rcases hk with hk|hk
   ·exact .inl hk
   ·exact .inr ⟨Nat.le_trans hb.size hk.1,hk.2⟩
  ·rcases hk with hk|hk
   ·have:=hS k hk;omega
   ·exact hk.2
theorem int.Goes.made:pQ:=qV.1
theorem list.Goes.made:pQ:=qV.2.1
theorem tree.Goes.made:pQ:=qV.2.2.1
theorem row.Goes.made:pQ:=qV.2.2.2
def int.kA:Prop:=∀ {σ:Type} {R:SR σ} {P:M.Plain σ} {L:Lt} {S:Nat→Prop} {Y:aP} {w:World} (x er:Int) (o:M.Op) (_her:er≠0) (_hS:∀ k,S k→k<w.heap.size) (_hc:∀ W,Below w.heap.size w W→Calls Tryz.prog 190 #[.pointer (some ⟨L.bE,0,none⟩),.int .i64 x,.agg #[.int .i64 o.c,.int .i64 o.a,.int .i64 o.b]] W fun e w'=>e = .returned (.int .i64 er)∧Goes R P L S W Y w') (_BO:∀ k,L.own k→S k),Calls Tryz.prog 192 #[.pointer (some ⟨L.bE,0,none⟩),.int .i64 x,.agg #[.int .i64 o.c,.int .i64 o.a,.int .i64 o.b]] w fun e w'=>e = .returned (.tuple #[.agg #[.int .i64 0,.int .i64 0],.int .i64 er])∧Goes R P L S w Y w'
def list.kA:Prop:=∀ {σ:Type} {R:SR σ} {P:M.Plain σ} {L:Lt} {S:Nat→Prop} {Y:aP} {w:World} (x er:Int) (o:M.Op) (_her:er≠0) (_hS:∀ k,S k→k<w.heap.size) (_hc:∀ W,Below w.heap.size w W→Calls Tryz.prog 250 #[.pointer (some ⟨L.bE,0,none⟩),.int .i64 x,.agg #[.int .i64 o.c,.int .i64 o.a,.int .i64 o.b]] W fun e w'=>e = .returned (.int .i64 er)∧Goes R P L S W Y w') (_BO:∀ k,L.own k→S k),Calls Tryz.prog 252 #[.pointer (some ⟨L.bE,0,none⟩),.int .i64 x,.agg #[.int .i64 o.c,.int .i64 o.a,.int .i64 o.b]] w fun e w'=>e = .returned (.tuple #[.agg #[.int .i64 0,.int .i64 0],.int .i64 er])∧Goes R P L S w Y w'
def tree.kA:Prop:=∀ {σ:Type} {R:SR σ} {P:M.Plain σ} {L:Lt} {S:Nat→Prop} {Y:aP} {w:World} (x er:Int) (o:M.Op) (_her:er≠0) (_hS:∀ k,S k→k<w.heap.size) (_hc:∀ W,Below w.heap.size w W→Calls Tryz.prog 324 #[.pointer (some ⟨L.bE,0,none⟩),.int .i64 x,.agg #[.int .i64 o.c,.int .i64 o.a,.int .i64 o.b]] W fun e w'=>e = .returned (.int .i64 er)∧Goes R P L S W Y w') (_BO:∀ k,L.own k→S k),Calls Tryz.prog 326 #[.pointer (some ⟨L.bE,0,none⟩),.int .i64 x,.agg #[.int .i64 o.c,.int .i64 o.a,.int .i64 o.b]] w fun e w'=>e = .returned (.tuple #[.agg #[.int .i64 0,.int .i64 0],.int .i64 er])∧Goes R P L S w Y w'
def row.kA:Prop:=∀ {σ:Type} {R:SR σ} {P:M.Plain σ} {L:Lt} {S:Nat→Prop} {Y:aP} {w:World} (x er:Int) (o:M.Op) (_her:er≠0) (_hS:∀ k,S k→k<w.heap.size) (_hc:∀ W,Below w.heap.size w W→Calls Tryz.prog 287 #[.pointer (some ⟨L.bE,0,none⟩),.int .i64 x,.agg #[.int .i64 o.c,.int .i64 o.a,.int .i64 o.b]] W fun e w'=>e = .returned (.int .i64 er)∧Goes R P L S W Y w') (_BO:∀ k,L.own k→S k),Calls Tryz.prog 289 #[.pointer (some ⟨L.bE,0,none⟩),.int .i64 x,.agg #[.int .i64 o.c,.int .i64 o.a,.int .i64 o.b]] w fun e w'=>e = .returned (.tuple #[.agg #[.int .i64 0,.int .i64 0],.int .i64 er])∧Goes R P L S w Y w'
open row in
theorem xY:int.kA∧list.kA∧tree.kA∧row.kA:=by
 refine ⟨@mkK _ 0 ?_,@mkK _ 1 ?_,@mkK _ 2 ?_,@mkK _ 3 ?_⟩<;>intro kk σ R P L S Y w x er o her hS hc hown
 all_goals
  have aMh:(er == 0)=false:=by simp [her]
  first|(have _:Kn 0:=kk;go_enter Tryz.func192,Tryz.ntmps192)|(have _:Kn 1:=kk;go_enter Tryz.func252,Tryz.ntmps252)|(have _:Kn 2:=kk;go_enter Tryz.func326,Tryz.ntmps326)|(have _:Kn 3:=kk;go_enter Tryz.func289,Tryz.ntmps289)
  go_upto_region 1 with fail
  generalize hW:World.alloc (World.alloc w _) _=W
  have hb:Below w.heap.size w W:=by rw [←hW];exact ((Below.refl _ _).alloc (Nat.le_refl _) _).alloc (by simp) _
  have r0:Row W w.heap.size 36 [.int .i64 o.c,.int .i64 o.a,.int .i64 o.b]:=by rw [←hW];exact (Row.new' rfl).alloc _
  have r1:Row W (w.heap.size+1) 94 [.int .i64 0,.int .i64 0]:=by rw [←hW];exact Row.new' (by simp)
  have x0:=r0.cell_of (i:=0) rfl
  have x1:=r0.cell_of (i:=1) rfl
  have x2:=r0.cell_of (i:=2) rfl
  have hzW:w.heap.size+1<W.heap.size:=r1.lt
  have CG:=aA r1
  have HB:=aA hb
  have HC:=aA (hc W hb)
  have hnS:¬S (w.heap.size+1):=fun c=>by have:=hS _ c;omega
  have hnO:¬L.own (w.heap.size+1):=fun c=>hnS (hown _ c)
  clear hW r0 r1 hb hc
  go_wp2_with fail
  refine HC.out.mono ?_
  rintro e w3 ⟨rfl,hg3⟩
  have r3:Row w3 (w.heap.size+1) 94 [.int .i64 0,.int .i64 0]:=CG.out.of_block (hg3.fr.block _ CG.out.lt hnO)
  have y0:=r3.cell_of (i:=0) rfl
  have y1:=r3.cell_of (i:=1) rfl
  have z0:=r3.frozen 0
  have z1:=r3.frozen 1
  have IC:=aA (r3.set 0 (.int .i64 0) |>.set 1 (.int .i64 0))
  have HG0:=aA hg3
  clear hg3 r3
  go_wp2_with fail
  have q1:=IC.out.cell_of (i:=0) rfl
  have q2:=IC.out.cell_of (i:=1) rfl
  refine bodyPost_ret (v:=.tuple #[.agg #[.int .i64 0,.int .i64 0],.int .i64 er]) (by simp [results,Tryz.results192,Tryz.results252,Tryz.results326,Tryz.results289,go_sem,q1,q2]) rfl ⟨rfl,?_⟩
  refine Goes.made (W:=W) (B:=w.heap.size+1) (Goes.LK HG0.out (B:=w.heap.size+1) (fun k hk _=>?_) ⟨rfl,rfl,rfl⟩ (by simp [World.setCell]) hnS (by omega)) (by omega) hS HB.out
  rw [Below.heap_setCell _ _ _ k hk,Below.heap_setCell _ _ _ k hk]
theorem int.DQ:kA:=xY.1
theorem list.DQ:kA:=xY.2.1
theorem tree.DQ:kA:=xY.2.2.1
theorem row.DQ:kA:=xY.2.2.2
def int.DoE {σ:Type} (R:SR σ) (P:M.Plain σ) (L:Lt) (S:Nat→Prop) (W:World) (D:DL) (t K:Nat) (Y':aP) (g:Nat) (w':World):Prop:=∃ Yc,tB P D t K Y' g Yc∧Goes R P L S W Yc w'
def list.DoE {σ:Type} (R:SR σ) (P:M.Plain σ) (L:Lt) (S:Nat→Prop) (W:World) (D:DL) (t K:Nat) (Y':aP) (g:Nat) (w':World):Prop:=∃ Yc,tB P D t K Y' g Yc∧Goes R P L S W Yc w'
def tree.DoE {σ:Type} (R:SR σ) (P:M.Plain σ) (L:Lt) (S:Nat→Prop) (W:World) (D:DL) (t K:Nat) (Y':aP) (g:Nat) (w':World):Prop:=∃ Yc,tB P D t K Y' g Yc∧Goes R P L S W Yc w'
def row.DoE {σ:Type} (R:SR σ) (P:M.Plain σ) (L:Lt) (S:Nat→Prop) (W:World) (D:DL) (t K:Nat) (Y':aP) (g:Nat) (w':World):Prop:=∃ Yc,tB P D t K Y' g Yc∧Goes R P L S W Yc w'
def int.iL:Prop:=∀ {σ:Type} {R:SR σ} {P:M.Plain σ} {L:Lt} {S:Nat→Prop} {E:aK σ} {Y:aP} {w:World} {t K:Nat} {fA:Nat} {rv:Value} (_hA:bO R P L fA rv) (_h:Both R P L S E Y w) (D:DL) (_DR:D.n=L.n) (_DS:D.cap=L.cap) (_hK:wG D K Y) (_OP:K+6000≤1000000000) (_ht:t<L.n) (_hp:(Y.th t).part=0) (o:M.Op),Calls Tryz.prog 192 #[.pointer (some ⟨L.bE,0,none⟩),.int .i64 (t:Int),.agg #[.int .i64 o.c,.int .i64 o.a,.int .i64 o.b]] w fun e w'=>e = .returned (.tuple #[.agg #[.int .i64 (gB P (M.fin L.n L.cap t (M.bG Y t o)) t).s,.int .i64 (gB P (M.fin L.n L.cap t (M.bG Y t o)) t).v],.int .i64 0])∧Goes R P L S w (M.fin L.n L.cap t (M.bG Y t o)) w'
def list.iL:Prop:=∀ {σ:Type} {R:SR σ} {P:M.Plain σ} {L:Lt} {S:Nat→Prop} {E:aK σ} {Y:aP} {w:World} {t K:Nat} {fA:Nat} {rv:Value} (_hA:bO R P L fA rv) (_h:Both R P L S E Y w) (D:DL) (_DR:D.n=L.n) (_DS:D.cap=L.cap) (_hK:wG D K Y) (_OP:K+6000≤1000000000) (_ht:t<L.n) (_hp:(Y.th t).part=0) (o:M.Op),Calls Tryz.prog 252 #[.pointer (some ⟨L.bE,0,none⟩),.int .i64 (t:Int),.agg #[.int .i64 o.c,.int .i64 o.a,.int .i64 o.b]] w fun e w'=>e = .returned (.tuple #[.agg #[.int .i64 (gB P (M.fin L.n L.cap t (M.bG Y t o)) t).s,.int .i64 (gB P (M.fin L.n L.cap t (M.bG Y t o)) t).v],.int .i64 0])∧Goes R P L S w (M.fin L.n L.cap t (M.bG Y t o)) w'
def tree.iL:Prop:=∀ {σ:Type} {R:SR σ} {P:M.Plain σ} {L:Lt} {S:Nat→Prop} {E:aK σ} {Y:aP} {w:World} {t K:Nat} {fA:Nat} {rv:Value} (_hA:bO R P L fA rv) (_h:Both R P L S E Y w) (D:DL) (_DR:D.n=L.n) (_DS:D.cap=L.cap) (_hK:wG D K Y) (_OP:K+6000≤1000000000) (_ht:t<L.n) (_hp:(Y.th t).part=0) (o:M.Op),Calls Tryz.prog 326 #[.pointer (some ⟨L.bE,0,none⟩),.int .i64 (t:Int),.agg #[.int .i64 o.c,.int .i64 o.a,.int .i64 o.b]] w fun e w'=>e = .returned (.tuple #[.agg #[.int .i64 (gB P (M.fin L.n L.cap t (M.bG Y t o)) t).s,.int .i64 (gB P (M.fin L.n L.cap t (M.bG Y t o)) t).v],.int .i64 0])∧Goes R P L S w (M.fin L.n L.cap t (M.bG Y t o)) w'
def row.iL:Prop:=∀ {σ:Type} {R:SR σ} {P:M.Plain σ} {L:Lt} {S:Nat→Prop} {E:aK σ} {Y:aP} {w:World} {t K:Nat} {fA:Nat} {rv:Value} (_hA:bO R P L fA rv) (_h:Both R P L S E Y w) (D:DL) (_DR:D.n=L.n) (_DS:D.cap=L.cap) (_hK:wG D K Y) (_OP:K+6000≤1000000000) (_ht:t<L.n) (_hp:(Y.th t).part=0) (o:M.Op),Calls Tryz.prog 289 #[.pointer (some ⟨L.bE,0,none⟩),.int .i64 (t:Int),.agg #[.int .i64 o.c,.int .i64 o.a,.int .i64 o.b]] w fun e w'=>e = .returned (.tuple #[.agg #[.int .i64 (gB P (M.fin L.n L.cap t (M.bG Y t o)) t).s,.int .i64 (gB P (M.fin L.n L.cap t (M.bG Y t o)) t).v],.int .i64 0])∧Goes R P L S w (M.fin L.n L.cap t (M.bG Y t o)) w'
open row in
theorem vN:int.iL∧list.iL∧tree.iL∧row.iL:=by
 refine ⟨@mkK _ 0 ?_,@mkK _ 1 ?_,@mkK _ 2 ?_,@mkK _ 3 ?_⟩<;>intro kk σ R P L S E Y w t K fA rv hA h D FR FT hK VR ht hp o
 all_goals
  have zF:=h.re.ok.n1
  have aEm:=h.re.ok.n64
  have aAb:=h.re.ok.VQ
  have hGo:=tB.begin (L:=D) (by rw [FR,FT];exact h.yi) (by omega) (by omega) (by omega) hp hK o
  rw [FR,FT] at hGo
  have htD:t<D.n:=by omega
  generalize hY1:M.bG Y t o=Y1 at *
  generalize VA:M.fin L.n L.cap t Y1=Y' at *
  first|(have _:Kn 0:=kk;go_enter Tryz.func192,Tryz.ntmps192)|(have _:Kn 1:=kk;go_enter Tryz.func252,Tryz.ntmps252)|(have _:Kn 2:=kk;go_enter Tryz.func326,Tryz.ntmps326)|(have _:Kn 3:=kk;go_enter Tryz.func289,Tryz.ntmps289)
  go_upto_region 1 with fail
  generalize hW:World.alloc (World.alloc w _) _=W
  have hb:Below w.heap.size w W:=by rw [←hW];exact ((Below.refl _ _).alloc (Nat.le_refl _) _).alloc (by simp) _
  have r0:Row W w.heap.size 36 [.int .i64 o.c,.int .i64 o.a,.int .i64 o.b]:=by rw [←hW];exact (Row.new' rfl).alloc _
  have r1:Row W (w.heap.size+1) 94 [.int .i64 0,.int .i64 0]:=by rw [←hW];exact Row.new' (by simp)
  have x0:=r0.cell_of (i:=0) rfl
  have x1:=r0.cell_of (i:=1) rfl
  have x2:=r0.cell_of (i:=2) rfl
  have HB:=aA hb
  have tX:Both R P L S E Y W:=h.stay (fun k hS=>hb.block k (h.re.lt k hS)) (fun _ hS=>hS) (fun k hS=>Nat.lt_of_lt_of_le (h.re.lt k hS) hb.size)
  have HBg:=aA ((qT tX o).2 t ht)
  rw [if_pos hp,if_pos hp,hY1] at HBg
  have hnS:¬S (w.heap.size+1):=fun c=>by have:=h.re.lt _ c;omega
  have hnO:¬L.own (w.heap.size+1):=fun c=>hnS (h.re.ow _ c)
  have HSL:=aA h.re.lt
  have CG:=aA r1
  have HGo:=aA hGo
  have HAp:=aA hA
  have ht':(t:Int)<(L.n:Int):=by omega
  have nQ:(0:Int)≤(t:Int):=by omega
  have hzW:w.heap.size+1<W.heap.size:=r1.lt
  clear hW r0 r1 hb h hGo hY1 VA hK tX hA hp
  go_wp2_with fail
  refine HBg.out.mono ?_
  rintro e w3 ⟨rfl,hg3⟩
  have HG3:=aA hg3
  clear hg3
  go_wp2_with fail
  go_loopg [] 5000 (fun g w'=>DoE R P L S W D t (K+1) Y' g w')
  case atStart=>exact ⟨Y1,HGo.out,HG3.out⟩
  case round =>
   obtain ⟨Yc,hgc,hgo⟩:=hrel
   obtain ⟨Ec,hB⟩:=hgo.ex
   have hl:wG D 1000000000 Yc:=hgc.lim.mono (by have:=hgc.gl;omega)
   have hid:=hB.idle ht
   have c1:wr.cell? ⟨L.bE,1,none⟩=some (.slice (some ⟨L.g,0,none⟩) L.n L.gc):=hB.re.oQ.cell_of rfl
   have HBu:=aA (mD hB.re ht)
   by_cases hpc:(Yc.th t).part=0
   ·have hYe:=hgc.end hpc
    subst hYe
    have JW:(Yc.th t).ended≠0:=by
     rw [hgc.yi.ok.ide t htD hpc]
     exact fun c=>hgc.ops (List.eq_nil_of_length_eq_zero c)
    have HAn:=aA ((rV hB).2 t ht)
    rw [if_neg (by simpa using hpc),if_neg JW,show uH P Yc t=gB P Yc t from rfl] at HAn
    have HPH:=aA (show decide ((Ec.th t).phase≠0)=false by simpa using hid.mpr hpc)
    have hr:Row wr (w.heap.size+1) 94 [.int .i64 0,.int .i64 0]:=CG.out.of_block (hgo.fr.block _ CG.out.lt hnO)
    have HR:=aA hr
    have aH3:=aA hgo
    clear hgc hgo hB hl hid hpc JW hr HG3 HGo
    go_wp2_with fail
    refine HBu.out.mono ?_
    rintro e w4 ⟨rfl,rfl⟩
    rw [HPH.out]
    go_wp2_with fail
    refine HAn.out.mono ?_
    rintro e w5 ⟨rfl,yF⟩
    have r5:=HR.out.old yF
    have y0:=r5.cell_of (i:=0) rfl
    have y1:=r5.cell_of (i:=1) rfl
    have z0:=r5.frozen 0
    have z1:=r5.frozen 1
    have IC:=aA (r5.set 0 (.int .i64 (gB P Yc t).s) |>.set 1 (.int .i64 (gB P Yc t).v))
    have TT:=aA yF
    clear yF r5
    go_wp2_with fail
    have q1:=IC.out.cell_of (i:=0) rfl
    have q2:=IC.out.cell_of (i:=1) rfl
    refine bodyPost_ret (v:=.tuple #[.agg #[.int .i64 (gB P Yc t).s,.int .i64 (gB P Yc t).v],.int .i64 0]) (by simp [results,Tryz.results192,Tryz.results252,Tryz.results326,Tryz.results289,go_sem,q1,q2]) rfl ⟨rfl,?_⟩
    refine Goes.made (W:=W) (B:=w.heap.size+1) (Goes.LK aH3.out (B:=w.heap.size+1) (fun k hk hkk=>?_) ⟨TT.out.os,TT.out.tape,TT.out.output⟩ (by simp [World.setCell];exact TT.out.size) hnS (by omega)) (by omega) HSL.out HB.out
    rw [Below.heap_setCell _ _ _ k hk,Below.heap_setCell _ _ _ k hk]
    exact TT.out.block k hkk
   ·have cF:1≤(Ec.th t).phase:=by have:=mt hid.mp hpc;omega
    have HPH:=aA (show decide ((Ec.th t).phase≠0)=true by simp;omega)
    have hN:Yc.bs.length≤1000000000:=hl.2
    have aEH:=hB.can ht hN
    have h13:=hB.phase ht
    have HSt:=aA (DJ HAp.out hB.re ht aEH (hB.sz8 ht hN (Nat.le_trans (hB.yi.all aEm (fun t ht=>hl.1 t (by omega))) (by omega))) cF h13)
    obtain ⟨s1,-⟩:=M.wT (Nat.lt_of_lt_of_le (by decide) zF) hB.inv ht hpc
    have hst:=hgc.step (by omega) htD hpc
    rw [FR,FT] at hst
    have hgk:0<gk:=hst.1
    have HPo:=aA (show ∀ w',aF R L (grown S W wr) wr (M.step P L.n L.cap Ec t) w'→DoE R P L S W D t (K+1) Y' (gk-1) w' from fun w' hd=>⟨_,hst.2,hgo.next (Goes.left hd s1 (hB.yB.step ht (hB.spare ht)) (hB.AY.step HAp.out.z hB.inv ht))⟩)
    clear hgc hgo hB hl hid hpc hN aEH h13 s1 hst cF
    go_wp2_with fail
    refine HBu.out.mono ?_
    rintro e w4 ⟨rfl,rfl⟩
    rw [HPH.out]
    go_wp2_with fail
    refine HSt.out.mono ?_
    rintro e w5 ⟨rfl,hd5⟩
    have HP:=aA (HPo.out w5 hd5)
    clear hd5
    go_wp2_with fail
    go_roundg (gk-1)
    case measure=>omega
    case rel=>exact HP.out
theorem int.BD:iL:=vN.1
theorem list.BD:iL:=vN.2.1
theorem tree.BD:iL:=vN.2.2.1
theorem row.BD:iL:=vN.2.2.2
def int.pR:Prop:=∀ {σ:Type} {R:SR σ} {P:M.Plain σ} {L:Lt} {S:Nat→Prop} {E:aK σ} {Y:aP} {w:World} {K:Nat} {fA:Nat} {rv:Value} (_hA:bO R P L fA rv) (_h:Both R P L S E Y w) (D:DL) (_DR:D.n=L.n) (_DS:D.cap=L.cap) (_hK:wG D K Y) (_OP:K+6000≤1000000000) (o:M.Op),(∀ x:Int,¬(0≤x∧x<L.n)→Calls Tryz.prog 192 #[.pointer (some ⟨L.bE,0,none⟩),.int .i64 x,.agg #[.int .i64 o.c,.int .i64 o.a,.int .i64 o.b]] w fun e w'=>e = .returned (.tuple #[.agg #[.int .i64 0,.int .i64 0],.int .i64 3])∧Goes R P L S w Y w')
  ∧ ∀ t,t<L.n→Calls Tryz.prog 192 #[.pointer (some ⟨L.bE,0,none⟩),.int .i64 (t:Int),.agg #[.int .i64 o.c,.int .i64 o.a,.int .i64 o.b]] w fun e w'=>e = .returned (doW P L.n L.cap Y t o)∧Goes R P L S w (doY L.n L.cap Y t o) w'
def list.pR:Prop:=∀ {σ:Type} {R:SR σ} {P:M.Plain σ} {L:Lt} {S:Nat→Prop} {E:aK σ} {Y:aP} {w:World} {K:Nat} {fA:Nat} {rv:Value} (_hA:bO R P L fA rv) (_h:Both R P L S E Y w) (D:DL) (_DR:D.n=L.n) (_DS:D.cap=L.cap) (_hK:wG D K Y) (_OP:K+6000≤1000000000) (o:M.Op),(∀ x:Int,¬(0≤x∧x<L.n)→Calls Tryz.prog 252 #[.pointer (some ⟨L.bE,0,none⟩),.int .i64 x,.agg #[.int .i64 o.c,.int .i64 o.a,.int .i64 o.b]] w fun e w'=>e = .returned (.tuple #[.agg #[.int .i64 0,.int .i64 0],.int .i64 3])∧Goes R P L S w Y w')
  ∧ ∀ t,t<L.n→Calls Tryz.prog 252 #[.pointer (some ⟨L.bE,0,none⟩),.int .i64 (t:Int),.agg #[.int .i64 o.c,.int .i64 o.a,.int .i64 o.b]] w fun e w'=>e = .returned (doW P L.n L.cap Y t o)∧Goes R P L S w (doY L.n L.cap Y t o) w'
def tree.pR:Prop:=∀ {σ:Type} {R:SR σ} {P:M.Plain σ} {L:Lt} {S:Nat→Prop} {E:aK σ} {Y:aP} {w:World} {K:Nat} {fA:Nat} {rv:Value} (_hA:bO R P L fA rv) (_h:Both R P L S E Y w) (D:DL) (_DR:D.n=L.n) (_DS:D.cap=L.cap) (_hK:wG D K Y) (_OP:K+6000≤1000000000) (o:M.Op),(∀ x:Int,¬(0≤x∧x<L.n)→Calls Tryz.prog 326 #[.pointer (some ⟨L.bE,0,none⟩),.int .i64 x,.agg #[.int .i64 o.c,.int .i64 o.a,.int .i64 o.b]] w fun e w'=>e = .returned (.tuple #[.agg #[.int .i64 0,.int .i64 0],.int .i64 3])∧Goes R P L S w Y w')
  ∧ ∀ t,t<L.n→Calls Tryz.prog 326 #[.pointer (some ⟨L.bE,0,none⟩),.int .i64 (t:Int),.agg #[.int .i64 o.c,.int .i64 o.a,.int .i64 o.b]] w fun e w'=>e = .returned (doW P L.n L.cap Y t o)∧Goes R P L S w (doY L.n L.cap Y t o) w'
def row.pR:Prop:=∀ {σ:Type} {R:SR σ} {P:M.Plain σ} {L:Lt} {S:Nat→Prop} {E:aK σ} {Y:aP} {w:World} {K:Nat} {fA:Nat} {rv:Value} (_hA:bO R P L fA rv) (_h:Both R P L S E Y w) (D:DL) (_DR:D.n=L.n) (_DS:D.cap=L.cap) (_hK:wG D K Y) (_OP:K+6000≤1000000000) (o:M.Op),(∀ x:Int,¬(0≤x∧x<L.n)→Calls Tryz.prog 289 #[.pointer (some ⟨L.bE,0,none⟩),.int .i64 x,.agg #[.int .i64 o.c,.int .i64 o.a,.int .i64 o.b]] w fun e w'=>e = .returned (.tuple #[.agg #[.int .i64 0,.int .i64 0],.int .i64 3])∧Goes R P L S w Y w')
  ∧ ∀ t,t<L.n→Calls Tryz.prog 289 #[.pointer (some ⟨L.bE,0,none⟩),.int .i64 (t:Int),.agg #[.int .i64 o.c,.int .i64 o.a,.int .i64 o.b]] w fun e w'=>e = .returned (doW P L.n L.cap Y t o)∧Goes R P L S w (doY L.n L.cap Y t o) w'
open row in
theorem JA:int.pR∧list.pR∧tree.pR∧row.pR:=by
 refine ⟨?_,?_,?_,?_⟩<;>intro σ R P L S E Y w K fA rv hA h D FR FT hK VR o
 all_goals
  have st:∀ W,Below w.heap.size w W→Both R P L S E Y W:=fun W hb=>h.stay (fun k hS=>hb.block k (h.re.lt k hS)) (fun _ hS=>hS) (fun k hS=>Nat.lt_of_lt_of_le (h.re.lt k hS) hb.size)
  refine ⟨fun x hx=>DQ x 3 o (by decide) h.re.lt (fun W hb=>(qT (st W hb) o).1 x hx) h.re.ow,fun t ht=>?_⟩
  unfold doW doY
  by_cases hp:(Y.th t).part=0
  ·rw [if_neg (by simpa using hp),if_neg (by simpa using hp)]
   exact BD hA h D FR FT hK VR ht hp o
  ·rw [if_pos hp,if_pos hp]
   refine DQ (t:Int) 4 o (by decide) h.re.lt (fun W hb=>?_) h.re.ow
   have:=(qT (st W hb) o).2 t ht
   rw [if_neg hp,if_neg hp] at this
   exact this
theorem int.XH:pR:=JA.1
theorem list.XH:pR:=JA.2.1
theorem tree.XH:pR:=JA.2.2.1
theorem row.XH:pR:=JA.2.2.2
end Go.Proofs.YtefjhnhdagolhaaGreat
namespace Go.Proofs.YtefjhnhdagolhaaGreat
open int list tree
open Go.RowKit
open M (aI aC aD cY aS aK aP bA aQ aL aN marks tagged num YI)
theorem int.Goes.RT {σ:Type} {R:SR σ} {P:M.Plain σ} {L:Lt} {S:Nat→Prop} {w w':World} {Y':aP} (hS:∀ k,L.own k→S k) (h:Goes R P L S w Y' w'):XY (fun S Y w=>∃ E,Both R P L S E Y w) S w Y' w' :=
 ⟨h.ex,⟨h.fr.os,h.fr.tape,h.fr.output,h.fr.size,fun k hk hn=>h.fr.block k hk (fun c=>hn (hS k c))⟩⟩
theorem list.Goes.RT {σ:Type} {R:SR σ} {P:M.Plain σ} {L:Lt} {S:Nat→Prop} {w w':World} {Y':aP} (hS:∀ k,L.own k→S k) (h:Goes R P L S w Y' w'):XY (fun S Y w=>∃ E,Both R P L S E Y w) S w Y' w' :=
 ⟨h.ex,⟨h.fr.os,h.fr.tape,h.fr.output,h.fr.size,fun k hk hn=>h.fr.block k hk (fun c=>hn (hS k c))⟩⟩
theorem tree.Goes.RT {σ:Type} {R:SR σ} {P:M.Plain σ} {L:Lt} {S:Nat→Prop} {w w':World} {Y':aP} (hS:∀ k,L.own k→S k) (h:Goes R P L S w Y' w'):XY (fun S Y w=>∃ E,Both R P L S E Y w) S w Y' w' :=
 ⟨h.ex,⟨h.fr.os,h.fr.tape,h.fr.output,h.fr.size,fun k hk hn=>h.fr.block k hk (fun c=>hn (hS k c))⟩⟩
theorem row.Goes.RT {σ:Type} {R:SR σ} {P:M.Plain σ} {L:Lt} {S:Nat→Prop} {w w':World} {Y':aP} (hS:∀ k,L.own k→S k) (h:Goes R P L S w Y' w'):XY (fun S Y w=>∃ E,Both R P L S E Y w) S w Y' w' :=
 ⟨h.ex,⟨h.fr.os,h.fr.tape,h.fr.output,h.fr.size,fun k hk hn=>h.fr.block k hk (fun c=>hn (hS k c))⟩⟩
theorem int.aAm {σ:Type} (P:M.Plain σ) (Y:aP):(VC P Y Y.order.length).st=pX P Y:=by rw [yH,VD];rfl
theorem int.xok {σ:Type} {R:SR σ} {P:M.Plain σ} {L:Lt} {tell:σ→List Int} {fA:Nat} {rv:Value} (hA:bO R P L fA rv) {fT:Nat} {rt:Value} (hT:sY R L tell fT rt) (D:DL) (FR:D.n=L.n) (FT:D.cap=L.cap) :
  wH P tell D 183 L.bE (fun S Y w=>∃ E,Both R P L S E Y w) 190 195 189 192 193 194 191 where
 mBe _:=by kernel_rfl
 mSt _:=by kernel_rfl
 mAn _:=by kernel_rfl
 mDo _:=by kernel_rfl
 mOr _:=by kernel_rfl
 mTe _:=by kernel_rfl
 mBo _:=by kernel_rfl
 cBe _ _ _:=by kernel_rfl
 cSt _ _:=by kernel_rfl
 cAn _ _:=by kernel_rfl
 cDo _ _ _:=by kernel_rfl
 cOr _:=by kernel_rfl
 cTe _:=by kernel_rfl
 cBo _:=by kernel_rfl
 lt S Y w h:=by obtain ⟨E,h⟩:=h;exact h.re.lt
 stay S S' Y w w' h hk hS hlt:=by obtain ⟨E,h⟩:=h;exact ⟨E,h.stay hk hS hlt⟩
 be S Y w x o h:=by
  obtain ⟨E,h⟩:=h
  rw [FR]
  unfold beE VE
  by_cases hx:NM L.n x
  ·rw [if_pos hx,if_pos hx]
   obtain ⟨t,rfl,ht,e⟩:=GQ hx
   rw [e]
   refine ((qT h o).2 t ht).mono ?_
   rintro e w' ⟨rfl,hg⟩
   exact ⟨rfl,hg.RT h.re.ow⟩
  ·rw [if_neg hx,if_neg hx]
   refine ((qT h o).1 x hx).mono ?_
   rintro e w' ⟨rfl,hg⟩
   exact ⟨rfl,hg.RT h.re.ow⟩
 st S Y w x h hK:=by
  obtain ⟨E,h⟩:=h
  have hN:=hK.2
  have hF:Y.bs.flatten.length≤100000000000:=Nat.le_trans (h.yi.all h.re.ok.n64 (B:=1000000000) (fun t ht=>hK.1 t (by omega))) (by omega)
  rw [FR,FT]
  unfold stA stE RS
  by_cases hx:NM L.n x
  ·rw [if_pos hx,if_pos hx,if_pos hx]
   obtain ⟨t,rfl,ht,e⟩:=GQ hx
   rw [e]
   by_cases hp:(Y.th t).part=0
   ·rw [if_pos hp,if_pos hp,if_pos hp]
    refine ((yR hA h hN hF).2.1 t ht hp).mono ?_
    rintro e w' ⟨rfl,hg⟩
    exact ⟨rfl,hg.RT h.re.ow⟩
   ·rw [if_neg hp,if_neg hp,if_neg hp]
    refine ((yR hA h hN hF).2.2 t ht hp).mono ?_
    rintro e w' ⟨rfl,hg⟩
    exact ⟨rfl,hg.RT h.re.ow⟩
  ·rw [if_neg hx,if_neg hx,if_neg hx]
   refine ((yR hA h hN hF).1 x hx).mono ?_
   rintro e w' ⟨rfl,hg⟩
   exact ⟨rfl,hg.RT h.re.ow⟩
 an S Y w x h:=by
  obtain ⟨E,h⟩:=h
  rw [FR]
  unfold anT
  by_cases hx:NM L.n x
  ·rw [if_pos hx]
   obtain ⟨t,rfl,ht,e⟩:=GQ hx
   rw [e,←VF]
   exact (rV h).2 t ht
  ·rw [if_neg hx];exact (rV h).1 x hx
 dd S Y w x o K h hK VR:=by
  obtain ⟨E,h⟩:=h
  rw [FR,FT]
  unfold doT doZ
  by_cases hx:NM L.n x
  ·rw [if_pos hx,if_pos hx]
   obtain ⟨t,rfl,ht,e⟩:=GQ hx
   rw [e,←ZI]
   refine ((XH hA h D FR FT hK VR o).2 t ht).mono ?_
   rintro e w' ⟨rfl,hg⟩
   exact ⟨rfl,hg.RT h.re.ow⟩
  ·rw [if_neg hx,if_neg hx]
   refine ((XH hA h D FR FT hK VR o).1 x hx).mono ?_
   rintro e w' ⟨rfl,hg⟩
   exact ⟨rfl,hg.RT h.re.ow⟩
 or S Y w h hK:=by
  obtain ⟨E,h⟩:=h
  have:=h.yi.all h.re.ok.n64 (B:=1000000000) (fun t ht=>hK.1 t (by omega))
  exact BA h hK.2 (by omega)
 te S Y w h hK:=by
  obtain ⟨E,h⟩:=h
  rw [aAm]
  exact BB hT hA.z h hK.2 (Nat.le_trans (h.yi.all h.re.ok.n64 (B:=1000000000) (fun t ht=>hK.1 t (by omega))) (by omega))
 bo S Y w h:=by
  obtain ⟨E,h⟩:=h
  rw [FR,FT]
  exact BC h
theorem list.xok {σ:Type} {R:SR σ} {P:M.Plain σ} {L:Lt} {tell:σ→List Int} {fA:Nat} {rv:Value} (hA:bO R P L fA rv) {fT:Nat} {rt:Value} (hT:sY R L tell fT rt) (D:DL) (FR:D.n=L.n) (FT:D.cap=L.cap) :
  wH P tell D 187 L.bE (fun S Y w=>∃ E,Both R P L S E Y w) 250 255 249 252 253 254 251 where
 mBe _:=by kernel_rfl
 mSt _:=by kernel_rfl
 mAn _:=by kernel_rfl
 mDo _:=by kernel_rfl
 mOr _:=by kernel_rfl
 mTe _:=by kernel_rfl
 mBo _:=by kernel_rfl
 cBe _ _ _:=by kernel_rfl
 cSt _ _:=by kernel_rfl
 cAn _ _:=by kernel_rfl
 cDo _ _ _:=by kernel_rfl
 cOr _:=by kernel_rfl
 cTe _:=by kernel_rfl
 cBo _:=by kernel_rfl
 lt S Y w h:=by obtain ⟨E,h⟩:=h;exact h.re.lt
 stay S S' Y w w' h hk hS hlt:=by obtain ⟨E,h⟩:=h;exact ⟨E,h.stay hk hS hlt⟩
 be S Y w x o h:=by
  obtain ⟨E,h⟩:=h
  rw [FR]
  unfold beE VE
  by_cases hx:NM L.n x
  ·rw [if_pos hx,if_pos hx]
   obtain ⟨t,rfl,ht,e⟩:=GQ hx
   rw [e]
   refine ((qT h o).2 t ht).mono ?_
   rintro e w' ⟨rfl,hg⟩
   exact ⟨rfl,hg.RT h.re.ow⟩
  ·rw [if_neg hx,if_neg hx]
   refine ((qT h o).1 x hx).mono ?_
   rintro e w' ⟨rfl,hg⟩
   exact ⟨rfl,hg.RT h.re.ow⟩
 st S Y w x h hK:=by
  obtain ⟨E,h⟩:=h
  have hN:=hK.2
  have hF:Y.bs.flatten.length≤100000000000:=Nat.le_trans (h.yi.all h.re.ok.n64 (B:=1000000000) (fun t ht=>hK.1 t (by omega))) (by omega)
  rw [FR,FT]
  unfold stA stE RS
  by_cases hx:NM L.n x
  ·rw [if_pos hx,if_pos hx,if_pos hx]
   obtain ⟨t,rfl,ht,e⟩:=GQ hx
   rw [e]
   by_cases hp:(Y.th t).part=0
   ·rw [if_pos hp,if_pos hp,if_pos hp]
    refine ((yR hA h hN hF).2.1 t ht hp).mono ?_
    rintro e w' ⟨rfl,hg⟩
    exact ⟨rfl,hg.RT h.re.ow⟩
   ·rw [if_neg hp,if_neg hp,if_neg hp]
    refine ((yR hA h hN hF).2.2 t ht hp).mono ?_
    rintro e w' ⟨rfl,hg⟩
    exact ⟨rfl,hg.RT h.re.ow⟩
  ·rw [if_neg hx,if_neg hx,if_neg hx]
   refine ((yR hA h hN hF).1 x hx).mono ?_
   rintro e w' ⟨rfl,hg⟩
   exact ⟨rfl,hg.RT h.re.ow⟩
 an S Y w x h:=by
  obtain ⟨E,h⟩:=h
  rw [FR]
  unfold anT
  by_cases hx:NM L.n x
  ·rw [if_pos hx]
   obtain ⟨t,rfl,ht,e⟩:=GQ hx
   rw [e,←VF]
   exact (rV h).2 t ht
  ·rw [if_neg hx];exact (rV h).1 x hx
 dd S Y w x o K h hK VR:=by
  obtain ⟨E,h⟩:=h
  rw [FR,FT]
  unfold doT doZ
  by_cases hx:NM L.n x
  ·rw [if_pos hx,if_pos hx]
   obtain ⟨t,rfl,ht,e⟩:=GQ hx
   rw [e,←ZI]
   refine ((XH hA h D FR FT hK VR o).2 t ht).mono ?_
   rintro e w' ⟨rfl,hg⟩
   exact ⟨rfl,hg.RT h.re.ow⟩
  ·rw [if_neg hx,if_neg hx]
   refine ((XH hA h D FR FT hK VR o).1 x hx).mono ?_
   rintro e w' ⟨rfl,hg⟩
   exact ⟨rfl,hg.RT h.re.ow⟩
 or S Y w h hK:=by
  obtain ⟨E,h⟩:=h
  have:=h.yi.all h.re.ok.n64 (B:=1000000000) (fun t ht=>hK.1 t (by omega))
  exact BA h hK.2 (by omega)
 te S Y w h hK:=by
  obtain ⟨E,h⟩:=h
  rw [aAm]
  exact BB hT hA.z h hK.2 (Nat.le_trans (h.yi.all h.re.ok.n64 (B:=1000000000) (fun t ht=>hK.1 t (by omega))) (by omega))
 bo S Y w h:=by
  obtain ⟨E,h⟩:=h
  rw [FR,FT]
  exact BC h
theorem tree.xok {σ:Type} {R:SR σ} {P:M.Plain σ} {L:Lt} {tell:σ→List Int} {fA:Nat} {rv:Value} (hA:bO R P L fA rv) {fT:Nat} {rt:Value} (hT:sY R L tell fT rt) (D:DL) (FR:D.n=L.n) (FT:D.cap=L.cap) :
  wH P tell D 195 L.bE (fun S Y w=>∃ E,Both R P L S E Y w) 324 329 323 326 327 328 325 where
 mBe _:=by kernel_rfl
 mSt _:=by kernel_rfl
 mAn _:=by kernel_rfl
 mDo _:=by kernel_rfl
 mOr _:=by kernel_rfl
 mTe _:=by kernel_rfl
 mBo _:=by kernel_rfl
 cBe _ _ _:=by kernel_rfl
 cSt _ _:=by kernel_rfl
 cAn _ _:=by kernel_rfl
 cDo _ _ _:=by kernel_rfl
 cOr _:=by kernel_rfl
 cTe _:=by kernel_rfl
 cBo _:=by kernel_rfl
 lt S Y w h:=by obtain ⟨E,h⟩:=h;exact h.re.lt
 stay S S' Y w w' h hk hS hlt:=by obtain ⟨E,h⟩:=h;exact ⟨E,h.stay hk hS hlt⟩
 be S Y w x o h:=by
  obtain ⟨E,h⟩:=h
  rw [FR]
  unfold beE VE
  by_cases hx:NM L.n x
  ·rw [if_pos hx,if_pos hx]
   obtain ⟨t,rfl,ht,e⟩:=GQ hx
   rw [e]
   refine ((qT h o).2 t ht).mono ?_
   rintro e w' ⟨rfl,hg⟩
   exact ⟨rfl,hg.RT h.re.ow⟩
  ·rw [if_neg hx,if_neg hx]
   refine ((qT h o).1 x hx).mono ?_
   rintro e w' ⟨rfl,hg⟩
   exact ⟨rfl,hg.RT h.re.ow⟩
 st S Y w x h hK:=by
  obtain ⟨E,h⟩:=h
  have hN:=hK.2
  have hF:Y.bs.flatten.length≤100000000000:=Nat.le_trans (h.yi.all h.re.ok.n64 (B:=1000000000) (fun t ht=>hK.1 t (by omega))) (by omega)
  rw [FR,FT]
  unfold stA stE RS
  by_cases hx:NM L.n x
  ·rw [if_pos hx,if_pos hx,if_pos hx]
   obtain ⟨t,rfl,ht,e⟩:=GQ hx
   rw [e]
   by_cases hp:(Y.th t).part=0
   ·rw [if_pos hp,if_pos hp,if_pos hp]
    refine ((yR hA h hN hF).2.1 t ht hp).mono ?_
    rintro e w' ⟨rfl,hg⟩
    exact ⟨rfl,hg.RT h.re.ow⟩
   ·rw [if_neg hp,if_neg hp,if_neg hp]
    refine ((yR hA h hN hF).2.2 t ht hp).mono ?_
    rintro e w' ⟨rfl,hg⟩
    exact ⟨rfl,hg.RT h.re.ow⟩
  ·rw [if_neg hx,if_neg hx,if_neg hx]
   refine ((yR hA h hN hF).1 x hx).mono ?_
   rintro e w' ⟨rfl,hg⟩
   exact ⟨rfl,hg.RT h.re.ow⟩
 an S Y w x h:=by
  obtain ⟨E,h⟩:=h
  rw [FR]
  unfold anT
  by_cases hx:NM L.n x
  ·rw [if_pos hx]
   obtain ⟨t,rfl,ht,e⟩:=GQ hx
   rw [e,←VF]
   exact (rV h).2 t ht
  ·rw [if_neg hx];exact (rV h).1 x hx
 dd S Y w x o K h hK VR:=by
  obtain ⟨E,h⟩:=h
  rw [FR,FT]
  unfold doT doZ
  by_cases hx:NM L.n x
  ·rw [if_pos hx,if_pos hx]
   obtain ⟨t,rfl,ht,e⟩:=GQ hx
   rw [e,←ZI]
   refine ((XH hA h D FR FT hK VR o).2 t ht).mono ?_
   rintro e w' ⟨rfl,hg⟩
   exact ⟨rfl,hg.RT h.re.ow⟩
  ·rw [if_neg hx,if_neg hx]
   refine ((XH hA h D FR FT hK VR o).1 x hx).mono ?_
   rintro e w' ⟨rfl,hg⟩
   exact ⟨rfl,hg.RT h.re.ow⟩
 or S Y w h hK:=by
  obtain ⟨E,h⟩:=h
  have:=h.yi.all h.re.ok.n64 (B:=1000000000) (fun t ht=>hK.1 t (by omega))
  exact BA h hK.2 (by omega)
 te S Y w h hK:=by
  obtain ⟨E,h⟩:=h
  rw [aAm]
  exact BB hT hA.z h hK.2 (Nat.le_trans (h.yi.all h.re.ok.n64 (B:=1000000000) (fun t ht=>hK.1 t (by omega))) (by omega))
 bo S Y w h:=by
  obtain ⟨E,h⟩:=h
  rw [FR,FT]
  exact BC h
theorem row.xok {σ:Type} {R:SR σ} {P:M.Plain σ} {L:Lt} {tell:σ→List Int} {fA:Nat} {rv:Value} (hA:bO R P L fA rv) {fT:Nat} {rt:Value} (hT:sY R L tell fT rt) (D:DL) (FR:D.n=L.n) (FT:D.cap=L.cap) :
  wH P tell D 191 L.bE (fun S Y w=>∃ E,Both R P L S E Y w) 287 292 286 289 290 291 288 where
 mBe _:=by kernel_rfl
 mSt _:=by kernel_rfl
 mAn _:=by kernel_rfl
 mDo _:=by kernel_rfl
 mOr _:=by kernel_rfl
 mTe _:=by kernel_rfl
 mBo _:=by kernel_rfl
 cBe _ _ _:=by kernel_rfl
 cSt _ _:=by kernel_rfl
 cAn _ _:=by kernel_rfl
 cDo _ _ _:=by kernel_rfl
 cOr _:=by kernel_rfl
 cTe _:=by kernel_rfl
 cBo _:=by kernel_rfl
 lt S Y w h:=by obtain ⟨E,h⟩:=h;exact h.re.lt
 stay S S' Y w w' h hk hS hlt:=by obtain ⟨E,h⟩:=h;exact ⟨E,h.stay hk hS hlt⟩
 be S Y w x o h:=by
  obtain ⟨E,h⟩:=h
  rw [FR]
  unfold beE VE
  by_cases hx:NM L.n x
  ·rw [if_pos hx,if_pos hx]
   obtain ⟨t,rfl,ht,e⟩:=GQ hx
   rw [e]
   refine ((qT h o).2 t ht).mono ?_
   rintro e w' ⟨rfl,hg⟩
   exact ⟨rfl,hg.RT h.re.ow⟩
  ·rw [if_neg hx,if_neg hx]
   refine ((qT h o).1 x hx).mono ?_
   rintro e w' ⟨rfl,hg⟩
   exact ⟨rfl,hg.RT h.re.ow⟩
 st S Y w x h hK:=by
  obtain ⟨E,h⟩:=h
  have hN:=hK.2
  have hF:Y.bs.flatten.length≤100000000000:=Nat.le_trans (h.yi.all h.re.ok.n64 (B:=1000000000) (fun t ht=>hK.1 t (by omega))) (by omega)
  rw [FR,FT]
  unfold stA stE RS
  by_cases hx:NM L.n x
  ·rw [if_pos hx,if_pos hx,if_pos hx]
   obtain ⟨t,rfl,ht,e⟩:=GQ hx
   rw [e]
   by_cases hp:(Y.th t).part=0
   ·rw [if_pos hp,if_pos hp,if_pos hp]
    refine ((yR hA h hN hF).2.1 t ht hp).mono ?_
    rintro e w' ⟨rfl,hg⟩
    exact ⟨rfl,hg.RT h.re.ow⟩
   ·rw [if_neg hp,if_neg hp,if_neg hp]
    refine ((yR hA h hN hF).2.2 t ht hp).mono ?_
    rintro e w' ⟨rfl,hg⟩
    exact ⟨rfl,hg.RT h.re.ow⟩
  ·rw [if_neg hx,if_neg hx,if_neg hx]
   refine ((yR hA h hN hF).1 x hx).mono ?_
   rintro e w' ⟨rfl,hg⟩
   exact ⟨rfl,hg.RT h.re.ow⟩
 an S Y w x h:=by
  obtain ⟨E,h⟩:=h
  rw [FR]
  unfold anT
  by_cases hx:NM L.n x
  ·rw [if_pos hx]
   obtain ⟨t,rfl,ht,e⟩:=GQ hx
   rw [e,←VF]
   exact (rV h).2 t ht
  ·rw [if_neg hx];exact (rV h).1 x hx
 dd S Y w x o K h hK VR:=by
  obtain ⟨E,h⟩:=h
  rw [FR,FT]
  unfold doT doZ
  by_cases hx:NM L.n x
  ·rw [if_pos hx,if_pos hx]
   obtain ⟨t,rfl,ht,e⟩:=GQ hx
   rw [e,←ZI]
   refine ((XH hA h D FR FT hK VR o).2 t ht).mono ?_
   rintro e w' ⟨rfl,hg⟩
   exact ⟨rfl,hg.RT h.re.ow⟩
  ·rw [if_neg hx,if_neg hx]
   refine ((XH hA h D FR FT hK VR o).1 x hx).mono ?_
   rintro e w' ⟨rfl,hg⟩
   exact ⟨rfl,hg.RT h.re.ow⟩
 or S Y w h hK:=by
  obtain ⟨E,h⟩:=h
  have:=h.yi.all h.re.ok.n64 (B:=1000000000) (fun t ht=>hK.1 t (by omega))
  exact BA h hK.2 (by omega)
 te S Y w h hK:=by
  obtain ⟨E,h⟩:=h
  rw [aAm]
  exact BB hT hA.z h hK.2 (Nat.le_trans (h.yi.all h.re.ok.n64 (B:=1000000000) (fun t ht=>hK.1 t (by omega))) (by omega))
 bo S Y w h:=by
  obtain ⟨E,h⟩:=h
  rw [FR,FT]
  exact BC h
end Go.Proofs.YtefjhnhdagolhaaGreat
