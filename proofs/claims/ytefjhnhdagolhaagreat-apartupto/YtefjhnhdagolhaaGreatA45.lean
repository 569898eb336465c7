import Derived.Test.YtefjhnhdagolhaaGreatA42
import Derived.Test.YtefjhnhdagolhaaGreatA24
import Derived.Test.YtefjhnhdagolhaaGreatA44
import Derived.Test.YtefjhnhdagolhaaGreatA43
set_option maxHeartbeats 8000000
set_option maxRecDepth 20000
namespace Go.Proofs.YtefjhnhdagolhaaGreat
open Tryz
open int list tree
open Go.RowKit
open M (aM aC aD eX bU bD aR bJ bC aL aQ marks tagged num YI)
attribute [local go_sem ↓] Go.wp_at_zero Go.wp_at_succ
theorem int.Both.yi {σ:Type} {R:SR σ} {P:M.Plain σ} {L:Lt} {S:Nat→Prop} {E:bD σ} {Y:aR} {w:World} (h:Both R P L S E Y w):YI P L.n L.cap Y:=⟨E,h.inv⟩
theorem list.Both.yi {σ:Type} {R:SR σ} {P:M.Plain σ} {L:Lt} {S:Nat→Prop} {E:bD σ} {Y:aR} {w:World} (h:Both R P L S E Y w):YI P L.n L.cap Y:=⟨E,h.inv⟩
theorem tree.Both.yi {σ:Type} {R:SR σ} {P:M.Plain σ} {L:Lt} {S:Nat→Prop} {E:bD σ} {Y:aR} {w:World} (h:Both R P L S E Y w):YI P L.n L.cap Y:=⟨E,h.inv⟩
theorem row.Both.yi {σ:Type} {R:SR σ} {P:M.Plain σ} {L:Lt} {S:Nat→Prop} {E:bD σ} {Y:aR} {w:World} (h:Both R P L S E Y w):YI P L.n L.cap Y:=⟨E,h.inv⟩
theorem int.Both.stay {σ:Type} {R:SR σ} {P:M.Plain σ} {L:Lt} {S S':Nat→Prop} {E:bD σ} {Y:aR} {w w1:World} (h:Both R P L S E Y w) (hk:∀ k,S k→w1.heap[k]?=w.heap[k]?) (hS:∀ k,S k→S' k) (hlt:∀ k,S' k→k<w1.heap.size):Both R P L S' E Y w1:=⟨h.re.stay hk hS hlt,h.inv,h.LI,h.LA⟩
theorem list.Both.stay {σ:Type} {R:SR σ} {P:M.Plain σ} {L:Lt} {S S':Nat→Prop} {E:bD σ} {Y:aR} {w w1:World} (h:Both R P L S E Y w) (hk:∀ k,S k→w1.heap[k]?=w.heap[k]?) (hS:∀ k,S k→S' k) (hlt:∀ k,S' k→k<w1.heap.size):Both R P L S' E Y w1:=⟨h.re.stay hk hS hlt,h.inv,h.LI,h.LA⟩
theorem tree.Both.stay {σ:Type} {R:SR σ} {P:M.Plain σ} {L:Lt} {S S':Nat→Prop} {E:bD σ} {Y:aR} {w w1:World} (h:Both R P L S E Y w) (hk:∀ k,S k→w1.heap[k]?=w.heap[k]?) (hS:∀ k,S k→S' k) (hlt:∀ k,S' k→k<w1.heap.size):Both R P L S' E Y w1:=⟨h.re.stay hk hS hlt,h.inv,h.LI,h.LA⟩
theorem row.Both.stay {σ:Type} {R:SR σ} {P:M.Plain σ} {L:Lt} {S S':Nat→Prop} {E:bD σ} {Y:aR} {w w1:World} (h:Both R P L S E Y w) (hk:∀ k,S k→w1.heap[k]?=w.heap[k]?) (hS:∀ k,S k→S' k) (hlt:∀ k,S' k→k<w1.heap.size):Both R P L S' E Y w1:=⟨h.re.stay hk hS hlt,h.inv,h.LI,h.LA⟩
def vY (SR:Type→Type) (Goes:{σ:Type}→SR σ→M.Plain σ→Lt→(Nat→Prop)→World→M.aR→World→Prop):Prop:=∀ {σ:Type} {R:SR σ} {P:M.Plain σ} {L:Lt} {S:Nat→Prop} {Y' NF:aR} {w w1 w2:World} (_h:Goes R P L S w Y' w1) (_h':Goes R P L (grown S w w1) w1 NF w2),Goes R P L S w NF w2
open row in
theorem kJ:vY int.SR @int.Goes∧vY list.SR @list.Goes∧vY tree.SR @tree.Goes∧vY row.SR @row.Goes:=by
 refine ⟨?_,?_,?_,?_⟩<;>intro σ R P L S Y' NF w w1 w2 h h'
 all_goals
  obtain ⟨E1,b1⟩:=h.ex;obtain ⟨E2,b2⟩:=h'.ex;exact Goes.left (aE.next ⟨b1.re,h.fr⟩ ⟨b2.re,h'.fr⟩) b2.inv b2.LI b2.LA
theorem int.Goes.next:vY int.SR @int.Goes:=kJ.1
theorem list.Goes.next:vY list.SR @list.Goes:=kJ.2.1
theorem tree.Goes.next:vY tree.SR @tree.Goes:=kJ.2.2.1
theorem row.Goes.next:vY row.SR @row.Goes:=kJ.2.2.2
def tI (SR:Type→Type) (Both:{σ:Type}→SR σ→M.Plain σ→Lt→(Nat→Prop)→M.bD σ→M.aR→World→Prop) (Goes:{σ:Type}→SR σ→M.Plain σ→Lt→(Nat→Prop)→World→M.aR→World→Prop):Prop:=∀ {σ:Type} {R:SR σ} {P:M.Plain σ} {L:Lt} {S:Nat→Prop} {Y':aR} {w w1 w2:World} (_h:Goes R P L S w Y' w1) {B:Nat} (_hk:∀ k,k≠B→k<w1.heap.size→w2.heap[k]?=w1.heap[k]?) (_ho:w2.os=w1.os∧w2.tape=w1.tape∧w2.output=w1.output) (_hz:w1.heap.size≤w2.heap.size) (_hBS:¬S B) (_hB:B<w.heap.size),(∃ E',Both R P L (grown S w w2) E' Y' w2)∧w2.os=w.os∧w2.tape=w.tape∧w2.output=w.output∧w.heap.size≤w2.heap.size∧∀ k,k<w.heap.size→k≠B→¬L.own k→w2.heap[k]?=w.heap[k]?
open row in
theorem iN:tI int.SR @int.Both @int.Goes∧tI list.SR @list.Both @list.Goes∧tI tree.SR @tree.Both @tree.Goes∧tI row.SR @row.Both @row.Goes:=by
 refine ⟨?_,?_,?_,?_⟩<;>intro σ R P L S Y' w w1 w2 h B hk ho hz hBS hB
 all_goals
  obtain ⟨E1,b1⟩:=h.ex;refine ⟨⟨E1,b1.stay (fun k hS=>hk k (fun e=>?_) (b1.re.lt k hS)) (fun k hS=>?_) (fun k hS=>?_)⟩,ho.1.trans h.fr.os,ho.2.1.trans h.fr.tape,ho.2.2.trans h.fr.output,bK h.fr.size hz,fun k hkk hne ho'=>(hk k hne (cH hkk h.fr.size)).trans (h.fr.block k hkk ho')⟩
  ·subst e
   rcases hS with hS|hS
   ·exact hBS hS
   ·omega
  ·rcases hS with hS|hS
   ·exact .inl hS
   ·exact .inr ⟨hS.1,cH hS.2 hz⟩
  ·rcases hS with hS|hS
   ·exact cH (b1.re.lt k (.inl hS)) hz
   ·exact hS.2
theorem int.Goes.ZA:tI int.SR @int.Both @int.Goes:=iN.1
theorem list.Goes.ZA:tI list.SR @list.Both @list.Goes:=iN.2.1
theorem tree.Goes.ZA:tI tree.SR @tree.Both @tree.Goes:=iN.2.2.1
theorem row.Goes.ZA:tI row.SR @row.Both @row.Goes:=iN.2.2.2
def vX (SR:Type→Type) (Both:{σ:Type}→SR σ→M.Plain σ→Lt→(Nat→Prop)→M.bD σ→M.aR→World→Prop) (Goes:{σ:Type}→SR σ→M.Plain σ→Lt→(Nat→Prop)→World→M.aR→World→Prop):Prop:=∀ {σ:Type} {R:SR σ} {P:M.Plain σ} {L:Lt} {S:Nat→Prop} {Y':aR} {w w2:World} {W:World} {B:Nat} (_h:(∃ E',Both R P L (grown S W w2) E' Y' w2)∧w2.os=W.os∧w2.tape=W.tape∧w2.output=W.output∧W.heap.size≤w2.heap.size∧∀ k,k<W.heap.size→k≠B→¬L.own k→w2.heap[k]?=W.heap[k]?) (_hB:w.heap.size≤B) (_hS:∀ k,S k→k<w.heap.size) (_hb:Below w.heap.size w W),Goes R P L S w Y' w2
open row in
theorem kI:vX int.SR @int.Both @int.Goes∧vX list.SR @list.Both @list.Goes∧vX tree.SR @tree.Both @tree.Goes∧vX row.SR @row.Both @row.Goes:=by
 refine ⟨?_,?_,?_,?_⟩<;>intro σ R P L S Y' w w2 W B h hB hS hb
 all_goals
  obtain ⟨⟨E1,b1⟩,h1,h2,h3,h4,h5⟩:=h;have hz:=hb.size;refine ⟨⟨E1,b1.stay (fun _ _=>rfl) (fun k hk=>?_) (fun k hk=>?_)⟩,⟨h1.trans hb.os,h2.trans hb.tape,h3.trans hb.output,bK hb.size h4,fun k hk ho=>(h5 k (by omega) (by omega) ho).trans (hb.block k hk)⟩⟩
  ·rcases hk with hk|hk
   ·exact .inl hk
   ·exact .inr ⟨bK hb.size hk.1,hk.2⟩
  ·rcases hk with hk|hk
   ·have:=hS k hk;omega
   ·exact hk.2
theorem int.Goes.made:vX int.SR @int.Both @int.Goes:=kI.1
theorem list.Goes.made:vX list.SR @list.Both @list.Goes:=kI.2.1
theorem tree.Goes.made:vX tree.SR @tree.Both @tree.Goes:=kI.2.2.1
theorem row.Goes.made:vX row.SR @row.Both @row.Goes:=kI.2.2.2
def FD (SR:Type→Type) (Goes:{σ:Type}→SR σ→M.Plain σ→Lt→(Nat→Prop)→World→M.aR→World→Prop) (n0 n1:Nat):Prop:=∀ {σ:Type} {R:SR σ} {P:M.Plain σ} {L:Lt} {S:Nat→Prop} {Y:aR} {w:World} (x er:Int) (o:M.Op) (_her:er≠0) (_hS:∀ k,S k→k<w.heap.size) (_hc:∀ W,Below w.heap.size w W→Calls prog n0 #[.pointer (some ⟨L.bE,0,none⟩),.int .i64 x,.agg #[.int .i64 o.c,.int .i64 o.a,.int .i64 o.b]] W fun e w'=>e = .returned (.int .i64 er)∧Goes R P L S W Y w') (_aGL:∀ k,L.own k→S k),Calls prog n1 #[.pointer (some ⟨L.bE,0,none⟩),.int .i64 x,.agg #[.int .i64 o.c,.int .i64 o.a,.int .i64 o.b]] w fun e w'=>e = .returned (.tuple #[.agg #[.int .i64 0,.int .i64 0],.int .i64 er])∧Goes R P L S w Y w'
open row in
theorem qX:FD int.SR @int.Goes 190 192∧FD list.SR @list.Goes 250 252∧FD tree.SR @tree.Goes 324 326∧FD row.SR @row.Goes 287 289:=by
 refine ⟨@mkK _ 0 ?_,@mkK _ 1 ?_,@mkK _ 2 ?_,@mkK _ 3 ?_⟩<;>intro kk σ R P L S Y w x er o her hS hc hown
 all_goals
  have aLy:(er == 0)=false:=by simp [her]
  first|(have:=kA kk;go_enter func192,ntmps192)|(have:=kB kk;go_enter func252,ntmps252)|(have:=kC kk;go_enter func326,ntmps326)|(have:=kD kk;go_enter func289,ntmps289)
  go_upto_region 1 with fail;generalize hW:World.alloc (World.alloc w _) _=W;have hb:Below w.heap.size w W:=by rw [←hW];exact ((aT _ _).alloc (bQ _) _).alloc (by simp) _
  have r0:Row W w.heap.size 36 [.int .i64 o.c,.int .i64 o.a,.int .i64 o.b]:=by rw [←hW];exact (aV rfl).alloc _
  have r1:Row W (w.heap.size+1) 94 [.int .i64 0,.int .i64 0]:=by rw [←hW];exact aV (by simp)
  have x0:=r0.cell_of (i:=0) rfl;have x1:=r0.cell_of (i:=1) rfl;have x2:=r0.cell_of (i:=2) rfl;have hzW:w.heap.size+1<W.heap.size:=r1.lt;have pX:=aA r1;have HB:=aA hb;have HC:=aA (hc W hb);have hnS:¬S (w.heap.size+1):=fun c=>by have:=hS _ c;omega
  have hnO:¬L.own (w.heap.size+1):=fun c=>hnS (hown _ c)
  clear hW r0 r1 hb hc;go_wp2_with fail;refine HC.out.mono ?_;rintro e w3 ⟨rfl,hg3⟩;have r3:Row w3 (w.heap.size+1) 94 [.int .i64 0,.int .i64 0]:=pX.out.of_block (hg3.fr.block _ pX.out.lt hnO);have y0:=r3.cell_of (i:=0) rfl;have y1:=r3.cell_of (i:=1) rfl;have z0:=r3.frozen 0;have z1:=r3.frozen 1;have sB:=aA (r3.set 0 (.int .i64 0) |>.set 1 (.int .i64 0));have HG0:=aA hg3;clear hg3 r3;go_wp2_with fail;have q1:=sB.out.cell_of (i:=0) rfl;have q2:=sB.out.cell_of (i:=1) rfl;refine cR (v:=.tuple #[.agg #[.int .i64 0,.int .i64 0],.int .i64 er]) (by simp [results,results192,results252,results326,results289,go_sem,q1,q2]) rfl ⟨rfl,?_⟩;refine Goes.made (W:=W) (B:=w.heap.size+1) (Goes.ZA HG0.out (B:=w.heap.size+1) (fun k hk _=>?_) ⟨rfl,rfl,rfl⟩ (by simp [World.setCell]) hnS (by omega)) (by omega) hS HB.out;rw [cZ _ _ _ k hk,cZ _ _ _ k hk]
theorem int.NA:FD int.SR @int.Goes 190 192:=qX.1
theorem list.NA:FD list.SR @list.Goes 250 252:=qX.2.1
theorem tree.NA:FD tree.SR @tree.Goes 324 326:=qX.2.2.1
theorem row.NA:FD row.SR @row.Goes 287 289:=qX.2.2.2
def int.DoE {σ:Type} (R:SR σ) (P:M.Plain σ) (L:Lt) (S:Nat→Prop) (W:World) (D:DL) (t K:Nat) (Y':aR) (g:Nat) (w':World):Prop:=∃ Yc,vZ P D t K Y' g Yc∧Goes R P L S W Yc w'
def list.DoE {σ:Type} (R:SR σ) (P:M.Plain σ) (L:Lt) (S:Nat→Prop) (W:World) (D:DL) (t K:Nat) (Y':aR) (g:Nat) (w':World):Prop:=∃ Yc,vZ P D t K Y' g Yc∧Goes R P L S W Yc w'
def tree.DoE {σ:Type} (R:SR σ) (P:M.Plain σ) (L:Lt) (S:Nat→Prop) (W:World) (D:DL) (t K:Nat) (Y':aR) (g:Nat) (w':World):Prop:=∃ Yc,vZ P D t K Y' g Yc∧Goes R P L S W Yc w'
def row.DoE {σ:Type} (R:SR σ) (P:M.Plain σ) (L:Lt) (S:Nat→Prop) (W:World) (D:DL) (t K:Nat) (Y':aR) (g:Nat) (w':World):Prop:=∃ Yc,vZ P D t K Y' g Yc∧Goes R P L S W Yc w'
def BP (SR:Type→Type) (bG:RF SR) (Both:{σ:Type}→SR σ→M.Plain σ→Lt→(Nat→Prop)→M.bD σ→M.aR→World→Prop) (Goes:{σ:Type}→SR σ→M.Plain σ→Lt→(Nat→Prop)→World→M.aR→World→Prop) (n0:Nat):Prop:=∀ {σ:Type} {R:SR σ} {P:M.Plain σ} {L:Lt} {S:Nat→Prop} {E:bD σ} {Y:aR} {w:World} {t K:Nat} {fA:Nat} {rv:Value} (_hA:bG R P L fA rv) (_h:Both R P L S E Y w) (D:DL) (_hDn:D.n=L.n) (_hDc:D.cap=L.cap) (_hK:jM D K Y) (_hK9:K+6000≤1000000000) (_ht:t<L.n) (_hp:(Y.th t).part=0) (o:M.Op),Calls prog n0 #[.pointer (some ⟨L.bE,0,none⟩),.int .i64 (t:Int),.agg #[.int .i64 o.c,.int .i64 o.a,.int .i64 o.b]] w fun e w'=>e = .returned (.tuple #[.agg #[.int .i64 (pS P (M.fin L.n L.cap t (M.eE Y t o)) t).s,.int .i64 (pS P (M.fin L.n L.cap t (M.eE Y t o)) t).v],.int .i64 0])∧Goes R P L S w (M.fin L.n L.cap t (M.eE Y t o)) w'
open row in
theorem nX:BP int.SR @int.bG @int.Both @int.Goes 192∧BP list.SR @list.bG @list.Both @list.Goes 252∧BP tree.SR @tree.bG @tree.Both @tree.Goes 326∧BP row.SR @row.bG @row.Both @row.Goes 289:=by
 refine ⟨@mkK _ 0 ?_,@mkK _ 1 ?_,@mkK _ 2 ?_,@mkK _ 3 ?_⟩<;>intro kk σ R P L S E Y w t K fA rv hA h D uv hDc hK KN ht hp o
 all_goals
  have xV:=h.re.ok.n1;have LN:=h.re.ok.n64;have YB:=h.re.ok.RK;have hGo:=vZ.begin (L:=D) (by rw [uv,hDc];exact h.yi) (by omega) (by omega) (by omega) hp hK o;rw [uv,hDc] at hGo;have htD:t<D.n:=by omega
  generalize hY1:M.eE Y t o=Y1 at *;generalize hY':M.fin L.n L.cap t Y1=Y' at *
  first|(have:=kA kk;go_enter func192,ntmps192)|(have:=kB kk;go_enter func252,ntmps252)|(have:=kC kk;go_enter func326,ntmps326)|(have:=kD kk;go_enter func289,ntmps289)
  go_upto_region 1 with fail;generalize hW:World.alloc (World.alloc w _) _=W;have hb:Below w.heap.size w W:=by rw [←hW];exact ((aT _ _).alloc (bQ _) _).alloc (by simp) _
  have r0:Row W w.heap.size 36 [.int .i64 o.c,.int .i64 o.a,.int .i64 o.b]:=by rw [←hW];exact (aV rfl).alloc _
  have r1:Row W (w.heap.size+1) 94 [.int .i64 0,.int .i64 0]:=by rw [←hW];exact aV (by simp)
  have x0:=r0.cell_of (i:=0) rfl;have x1:=r0.cell_of (i:=1) rfl;have x2:=r0.cell_of (i:=2) rfl;have HB:=aA hb;have sZ:Both R P L S E Y W:=h.stay (fun k hS=>hb.block k (h.re.lt k hS)) (fun _ hS=>hS) (fun k hS=>cH (h.re.lt k hS) hb.size);have HBg:=aA ((vT sZ o).2 t ht);rw [aJ hp,aJ hp,hY1] at HBg;have hnS:¬S (w.heap.size+1):=fun c=>by have:=h.re.lt _ c;omega
  have hnO:¬L.own (w.heap.size+1):=fun c=>hnS (h.re.ow _ c)
  have HSL:=aA h.re.lt;have pX:=aA r1;have HGo:=aA hGo;have HAp:=aA hA;have ht':(t:Int)<(L.n:Int):=by omega
  have mP:(0:Int)≤(t:Int):=by omega
  have hzW:w.heap.size+1<W.heap.size:=r1.lt;clear hW r0 r1 hb h hGo hY1 hY' hK sZ hA hp;go_wp2_with fail;refine HBg.out.mono ?_;rintro e w3 ⟨rfl,hg3⟩;have WL:=aA hg3;clear hg3;go_wp2_with fail
  go_loopg [] 5000 (fun g w'=>DoE R P L S W D t (K+1) Y' g w')
  case atStart=>exact ⟨Y1,HGo.out,WL.out⟩
  case round =>
   obtain ⟨Yc,WT,hgo⟩:=hrel;obtain ⟨Ec,hB⟩:=hgo.ex;have hl:jM D 1000000000 Yc:=WT.lim.mono (by have:=WT.gl;omega);have hid:=hB.idle ht;have c1:wr.cell? ⟨L.bE,1,none⟩=some (.slice (some ⟨L.g,0,none⟩) L.n L.gc):=hB.re.qQ.cell_of rfl;have HBu:=aA (sG hB.re ht)
   by_cases RS:(Yc.th t).part=0
   ·have hYe:=WT.end RS
    subst hYe;have hen:(Yc.th t).ended≠0:=by
     rw [WT.yi.ok.ide t htD RS];exact fun c=>WT.ops (List.eq_nil_of_length_eq_zero c)
    have HAn:=aA ((xM hB).2 t ht);rw [aN (by simpa using RS),aN hen,show XD P Yc t=pS P Yc t from rfl] at HAn;have HPH:=aA (show decide ((Ec.th t).phase≠0)=false by simpa using hid.mpr RS);have hr:Row wr (w.heap.size+1) 94 [.int .i64 0,.int .i64 0]:=pX.out.of_block (hgo.fr.block _ pX.out.lt hnO);have HR:=aA hr;have aJV:=aA hgo;clear WT hgo hB hl hid RS hen hr WL HGo;go_wp2_with fail;refine HBu.out.mono ?_;rintro e w4 ⟨rfl,rfl⟩;rw [HPH.out];go_wp2_with fail;refine HAn.out.mono ?_;rintro e w5 ⟨rfl,xU⟩;have r5:=HR.out.old xU;have y0:=r5.cell_of (i:=0) rfl;have y1:=r5.cell_of (i:=1) rfl;have z0:=r5.frozen 0;have z1:=r5.frozen 1;have sB:=aA (r5.set 0 (.int .i64 (pS P Yc t).s) |>.set 1 (.int .i64 (pS P Yc t).v));have JE:=aA xU;clear xU r5;go_wp2_with fail;have q1:=sB.out.cell_of (i:=0) rfl;have q2:=sB.out.cell_of (i:=1) rfl;refine cR (v:=.tuple #[.agg #[.int .i64 (pS P Yc t).s,.int .i64 (pS P Yc t).v],.int .i64 0]) (by simp [results,results192,results252,results326,results289,go_sem,q1,q2]) rfl ⟨rfl,?_⟩;refine Goes.made (W:=W) (B:=w.heap.size+1) (Goes.ZA aJV.out (B:=w.heap.size+1) (fun k hk hkk=>?_) ⟨JE.out.os,JE.out.tape,JE.out.output⟩ (by simp [World.setCell];exact JE.out.size) hnS (by omega)) (by omega) HSL.out HB.out;rw [cZ _ _ _ k hk,cZ _ _ _ k hk];exact JE.out.block k hkk
   ·have eA:1≤(Ec.th t).phase:=by have:=mt hid.mp RS;omega
    have HPH:=aA (show decide ((Ec.th t).phase≠0)=true by simp;omega);have hN:Yc.bs.length≤1000000000:=hl.2;have aGX:=hB.can ht hN;have h13:=hB.phase ht;have HSt:=aA (PE HAp.out hB.re ht aGX (hB.sz8 ht hN (bK (hB.yi.all LN (fun t ht=>hl.1 t (by omega))) (by omega))) eA h13);obtain ⟨s1,-⟩:=M.IA (cH (by decide) xV) hB.inv ht RS;have hst:=WT.step (by omega) htD RS;rw [uv,hDc] at hst;have hgk:0<gk:=hst.1;have HPo:=aA (show ∀ w',aE R L (grown S W wr) wr (M.step P L.n L.cap Ec t) w'→DoE R P L S W D t (K+1) Y' (gk-1) w' from fun w' hd=>⟨_,hst.2,hgo.next (Goes.left hd s1 (hB.LI.step ht (hB.spare ht)) (hB.LA.step HAp.out.z hB.inv ht))⟩);clear WT hgo hB hl hid RS hN aGX h13 s1 hst eA;go_wp2_with fail;refine HBu.out.mono ?_;rintro e w4 ⟨rfl,rfl⟩;rw [HPH.out];go_wp2_with fail;refine HSt.out.mono ?_;rintro e w5 ⟨rfl,hd5⟩;have HP:=aA (HPo.out w5 hd5);clear hd5;go_wp2_with fail
    go_roundg (gk-1)
    case measure=>omega
    case rel=>exact HP.out
theorem int.LZ:BP int.SR @int.bG @int.Both @int.Goes 192:=nX.1
theorem list.LZ:BP list.SR @list.bG @list.Both @list.Goes 252:=nX.2.1
theorem tree.LZ:BP tree.SR @tree.bG @tree.Both @tree.Goes 326:=nX.2.2.1
theorem row.LZ:BP row.SR @row.bG @row.Both @row.Goes 289:=nX.2.2.2
def SZ (SR:Type→Type) (bG:RF SR) (Both:{σ:Type}→SR σ→M.Plain σ→Lt→(Nat→Prop)→M.bD σ→M.aR→World→Prop) (Goes:{σ:Type}→SR σ→M.Plain σ→Lt→(Nat→Prop)→World→M.aR→World→Prop) (n0:Nat):Prop:=∀ {σ:Type} {R:SR σ} {P:M.Plain σ} {L:Lt} {S:Nat→Prop} {E:bD σ} {Y:aR} {w:World} {K:Nat} {fA:Nat} {rv:Value} (_hA:bG R P L fA rv) (_h:Both R P L S E Y w) (D:DL) (_hDn:D.n=L.n) (_hDc:D.cap=L.cap) (_hK:jM D K Y) (_hK9:K+6000≤1000000000) (o:M.Op),(∀ x:Int,¬(0≤x∧x<L.n)→Calls prog n0 #[.pointer (some ⟨L.bE,0,none⟩),.int .i64 x,.agg #[.int .i64 o.c,.int .i64 o.a,.int .i64 o.b]] w fun e w'=>e = .returned (.tuple #[.agg #[.int .i64 0,.int .i64 0],.int .i64 3])∧Goes R P L S w Y w')
  ∧ ∀ t,t<L.n→Calls prog n0 #[.pointer (some ⟨L.bE,0,none⟩),.int .i64 (t:Int),.agg #[.int .i64 o.c,.int .i64 o.a,.int .i64 o.b]] w fun e w'=>e = .returned (doW P L.n L.cap Y t o)∧Goes R P L S w (doY L.n L.cap Y t o) w'
open row in
theorem AL:SZ int.SR @int.bG @int.Both @int.Goes 192∧SZ list.SR @list.bG @list.Both @list.Goes 252∧SZ tree.SR @tree.bG @tree.Both @tree.Goes 326∧SZ row.SR @row.bG @row.Both @row.Goes 289:=by
 refine ⟨?_,?_,?_,?_⟩<;>intro σ R P L S E Y w K fA rv hA h D uv hDc hK KN o
 all_goals
  have st:∀ W,Below w.heap.size w W→Both R P L S E Y W:=fun W hb=>h.stay (fun k hS=>hb.block k (h.re.lt k hS)) (fun _ hS=>hS) (fun k hS=>cH (h.re.lt k hS) hb.size)
  refine ⟨fun x hx=>NA x 3 o (by decide) h.re.lt (fun W hb=>(vT (st W hb) o).1 x hx) h.re.ow,fun t ht=>?_⟩;unfold doW doY
  by_cases hp:(Y.th t).part=0
  ·rw [aN (by simpa using hp),aN (by simpa using hp)]
   exact LZ hA h D uv hDc hK KN ht hp o
  ·rw [aJ hp,aJ hp]
   refine NA (t:Int) 4 o (by decide) h.re.lt (fun W hb=>?_) h.re.ow;have:=(vT (st W hb) o).2 t ht;rw [aN hp,aN hp] at this;exact this
theorem int.zh:SZ int.SR @int.bG @int.Both @int.Goes 192:=AL.1
theorem list.zh:SZ list.SR @list.bG @list.Both @list.Goes 252:=AL.2.1
theorem tree.zh:SZ tree.SR @tree.bG @tree.Both @tree.Goes 326:=AL.2.2.1
theorem row.zh:SZ row.SR @row.bG @row.Both @row.Goes 289:=AL.2.2.2
end Go.Proofs.YtefjhnhdagolhaaGreat
namespace Go.Proofs.YtefjhnhdagolhaaGreat
open Tryz
open int list tree
open Go.RowKit
open M (aM aC aD eX bU bD aR bJ bC aL aQ marks tagged num YI)
theorem int.Goes.WX {σ:Type} {R:SR σ} {P:M.Plain σ} {L:Lt} {S:Nat→Prop} {w w':World} {Y':aR} (hS:∀ k,L.own k→S k) (h:Goes R P L S w Y' w'):DJ (fun S Y w=>∃ E,Both R P L S E Y w) S w Y' w' :=
 ⟨h.ex,⟨h.fr.os,h.fr.tape,h.fr.output,h.fr.size,fun k hk hn=>h.fr.block k hk (fun c=>hn (hS k c))⟩⟩
theorem list.Goes.WX {σ:Type} {R:SR σ} {P:M.Plain σ} {L:Lt} {S:Nat→Prop} {w w':World} {Y':aR} (hS:∀ k,L.own k→S k) (h:Goes R P L S w Y' w'):DJ (fun S Y w=>∃ E,Both R P L S E Y w) S w Y' w' :=
 ⟨h.ex,⟨h.fr.os,h.fr.tape,h.fr.output,h.fr.size,fun k hk hn=>h.fr.block k hk (fun c=>hn (hS k c))⟩⟩
theorem tree.Goes.WX {σ:Type} {R:SR σ} {P:M.Plain σ} {L:Lt} {S:Nat→Prop} {w w':World} {Y':aR} (hS:∀ k,L.own k→S k) (h:Goes R P L S w Y' w'):DJ (fun S Y w=>∃ E,Both R P L S E Y w) S w Y' w' :=
 ⟨h.ex,⟨h.fr.os,h.fr.tape,h.fr.output,h.fr.size,fun k hk hn=>h.fr.block k hk (fun c=>hn (hS k c))⟩⟩
theorem row.Goes.WX {σ:Type} {R:SR σ} {P:M.Plain σ} {L:Lt} {S:Nat→Prop} {w w':World} {Y':aR} (hS:∀ k,L.own k→S k) (h:Goes R P L S w Y' w'):DJ (fun S Y w=>∃ E,Both R P L S E Y w) S w Y' w' :=
 ⟨h.ex,⟨h.fr.os,h.fr.tape,h.fr.output,h.fr.size,fun k hk hn=>h.fr.block k hk (fun c=>hn (hS k c))⟩⟩
theorem int.aDm {σ:Type} (P:M.Plain σ) (Y:aR):(gU P Y Y.order.length).st=BD P Y:=by rw [lD,GR];rfl
def qh (SR:Type→Type) (bG:RF SR) (Both:{σ:Type}→SR σ→M.Plain σ→Lt→(Nat→Prop)→M.bD σ→M.aR→World→Prop) (tR:{σ:Type}→SR σ→Lt→(σ→List Int)→Nat→Value→Prop) (n0 n1 n2 n3 n4 n5 n6 n7:Nat):Prop:=∀ {σ:Type} {R:SR σ} {P:M.Plain σ} {L:Lt} {tell:σ→List Int} {fA:Nat} {rv:Value} (_hA:bG R P L fA rv) {fT:Nat} {rt:Value} (_hT:tR R L tell fT rt) (D:DL) (_hDn:D.n=L.n) (_hDc:D.cap=L.cap),BZ P tell D n0 L.bE (fun S Y w=>∃ E,Both R P L S E Y w) n1 n2 n3 n4 n5 n6 n7
open row in
theorem LC:qh int.SR @int.bG @int.Both @int.tR 183 190 195 189 192 193 194 191∧qh list.SR @list.bG @list.Both @list.tR 187 250 255 249 252 253 254 251∧qh tree.SR @tree.bG @tree.Both @tree.tR 195 324 329 323 326 327 328 325∧qh row.SR @row.bG @row.Both @row.tR 191 287 292 286 289 290 291 288:=by
 refine ⟨?_,?_,?_,?_⟩<;>intro σ R P L tell fA rv hA fT rt hT D uv hDc
 all_goals
  refine ⟨fun _=>by kernel_rfl,fun _=>by kernel_rfl,fun _=>by kernel_rfl,fun _=>by kernel_rfl,fun _=>by kernel_rfl,fun _=>by kernel_rfl,fun _=>by kernel_rfl,fun _ _ _=>by kernel_rfl,fun _ _=>by kernel_rfl,fun _ _=>by kernel_rfl,fun _ _ _=>by kernel_rfl,fun _=>by kernel_rfl,fun _=>by kernel_rfl,fun _=>by kernel_rfl,fun S Y w h=>?_,fun S S' Y w w' h hk hS hlt=>?_,fun S Y w x o h=>?_,fun S Y w x h hK=>?_,fun S Y w x h=>?_,fun S Y w x o K h hK KN=>?_,fun S Y w h hK=>?_,fun S Y w h hK=>?_,fun S Y w h=>?_⟩
  ·obtain ⟨E,h⟩:=h
   exact h.re.lt
  ·obtain ⟨E,h⟩:=h
   exact ⟨E,h.stay hk hS hlt⟩
  ·obtain ⟨E,h⟩:=h
   rw [uv];unfold beE su
   by_cases hx:YK L.n x
   ·rw [aJ hx,aJ hx]
    obtain ⟨t,rfl,ht,e⟩:=zO hx;rw [e];refine ((vT h o).2 t ht).mono ?_;rintro e w' ⟨rfl,hg⟩;exact ⟨rfl,hg.WX h.re.ow⟩
   ·rw [aN hx,aN hx]
    refine ((vT h o).1 x hx).mono ?_;rintro e w' ⟨rfl,hg⟩;exact ⟨rfl,hg.WX h.re.ow⟩
  ·obtain ⟨E,h⟩:=h
   have hN:=hK.2;have hF:Y.bs.flatten.length≤100000000000:=bK (h.yi.all h.re.ok.n64 (B:=1000000000) (fun t ht=>hK.1 t (by omega))) (by omega);rw [uv,hDc];unfold stA stE yc
   by_cases hx:YK L.n x
   ·rw [aJ hx,aJ hx,aJ hx]
    obtain ⟨t,rfl,ht,e⟩:=zO hx;rw [e]
    by_cases hp:(Y.th t).part=0
    ·rw [aJ hp,aJ hp,aJ hp]
     refine ((JJ hA h hN hF).2.1 t ht hp).mono ?_;rintro e w' ⟨rfl,hg⟩;exact ⟨rfl,hg.WX h.re.ow⟩
    ·rw [aN hp,aN hp,aN hp]
     refine ((JJ hA h hN hF).2.2 t ht hp).mono ?_;rintro e w' ⟨rfl,hg⟩;exact ⟨rfl,hg.WX h.re.ow⟩
   ·rw [aN hx,aN hx,aN hx]
    refine ((JJ hA h hN hF).1 x hx).mono ?_;rintro e w' ⟨rfl,hg⟩;exact ⟨rfl,hg.WX h.re.ow⟩
  ·obtain ⟨E,h⟩:=h
   rw [uv];unfold anT
   by_cases hx:YK L.n x
   ·rw [aJ hx]
    obtain ⟨t,rfl,ht,e⟩:=zO hx;rw [e,←XE];exact (xM h).2 t ht
   ·rw [aN hx];exact (xM h).1 x hx
  ·obtain ⟨E,h⟩:=h
   rw [uv,hDc];unfold doT doZ
   by_cases hx:YK L.n x
   ·rw [aJ hx,aJ hx]
    obtain ⟨t,rfl,ht,e⟩:=zO hx;rw [e,←ni];refine ((zh hA h D uv hDc hK KN o).2 t ht).mono ?_;rintro e w' ⟨rfl,hg⟩;exact ⟨rfl,hg.WX h.re.ow⟩
   ·rw [aN hx,aN hx]
    refine ((zh hA h D uv hDc hK KN o).1 x hx).mono ?_;rintro e w' ⟨rfl,hg⟩;exact ⟨rfl,hg.WX h.re.ow⟩
  ·obtain ⟨E,h⟩:=h
   have:=h.yi.all h.re.ok.n64 (B:=1000000000) (fun t ht=>hK.1 t (by omega));exact MB h hK.2 (by omega)
  ·obtain ⟨E,h⟩:=h
   rw [aDm];exact MD hT hA.z h hK.2 (bK (h.yi.all h.re.ok.n64 (B:=1000000000) (fun t ht=>hK.1 t (by omega))) (by omega))
  ·obtain ⟨E,h⟩:=h
   rw [uv,hDc];exact LY h
theorem int.xok:qh int.SR @int.bG @int.Both @int.tR 183 190 195 189 192 193 194 191:=LC.1
theorem list.xok:qh list.SR @list.bG @list.Both @list.tR 187 250 255 249 252 253 254 251:=LC.2.1
theorem tree.xok:qh tree.SR @tree.bG @tree.Both @tree.tR 195 324 329 323 326 327 328 325:=LC.2.2.1
theorem row.xok:qh row.SR @row.bG @row.Both @row.tR 191 287 292 286 289 290 291 288:=LC.2.2.2
def int.fN:Prop:=∀ {σ:Type} {P:M.Plain σ} {tell:σ→List Int} {sz:σ→Nat} {HM:World→Value→σ→Prop} {kind:Int} {n cap:Nat} {st co:Int} {nx ou:List Int} {vn vo:Value} {Mk:World→Nat→World→Prop} {oT:TypeId} {fA fT:Nat} (_hMk:∀ w b w',Mk w b w'→∃ (w1:World) (G:Nat→Prop) (R:SR σ) (ov rv rt:Value),Below w.heap.size w w1∧dL w1 n (cap:Int) oT ov b w'∧(∀ k,G k→w.heap.size≤k∧k<w1.heap.size)∧(∀ I:Nat→Prop,(∀ k,G k→I k)→R.rep I w' P.first [.int .i64 0])∧(∀ L:Lt,L.oT=oT→L.ov=ov→bG R P L fA rv)∧∀ L:Lt,L.oT=oT→L.ov=ov→tR R L tell fT rt) (_hD:∀ D:DL,D.kind=kind→D.st=st→D.co=co→D.nx=nx→D.ou=ou→((kind≠5∧D.vn=vn∧D.vo=vo)∨(kind=5∧∃ g1 g2,D.vn = .slice (some ⟨g1,0,none⟩) nx.length nx.length∧D.vo = .slice (some ⟨g2,0,none⟩) ou.length ou.length))→DS P tell sz HM oR D) (_hF:∀ D:DL,D.n≤64→pE P tell D) (_hn:1≤n) (_cu:n≤64) (_hc:cap≤64),kW kind n (cap:Int) st co nx ou vn vo Mk
def list.fN:Prop:=∀ {σ:Type} {P:M.Plain σ} {tell:σ→List Int} {sz:σ→Nat} {HM:World→Value→σ→Prop} {kind:Int} {n cap:Nat} {st co:Int} {nx ou:List Int} {vn vo:Value} {Mk:World→Nat→World→Prop} {oT:TypeId} {fA fT:Nat} (_hMk:∀ w b w',Mk w b w'→∃ (w1:World) (G:Nat→Prop) (R:SR σ) (ov rv rt:Value),Below w.heap.size w w1∧dL w1 n (cap:Int) oT ov b w'∧(∀ k,G k→w.heap.size≤k∧k<w1.heap.size)∧(∀ I:Nat→Prop,(∀ k,G k→I k)→R.rep I w' P.first [.pointer none])∧(∀ L:Lt,L.oT=oT→L.ov=ov→bG R P L fA rv)∧∀ L:Lt,L.oT=oT→L.ov=ov→tR R L tell fT rt) (_hD:∀ D:DL,D.kind=kind→D.st=st→D.co=co→D.nx=nx→D.ou=ou→((kind≠5∧D.vn=vn∧D.vo=vo)∨(kind=5∧∃ g1 g2,D.vn = .slice (some ⟨g1,0,none⟩) nx.length nx.length∧D.vo = .slice (some ⟨g2,0,none⟩) ou.length ou.length))→DS P tell sz HM oR D) (_hF:∀ D:DL,D.n≤64→pE P tell D) (_hn:1≤n) (_cu:n≤64) (_hc:cap≤64),kW kind n (cap:Int) st co nx ou vn vo Mk
def tree.fN:Prop:=∀ {σ:Type} {P:M.Plain σ} {tell:σ→List Int} {sz:σ→Nat} {HM:World→Value→σ→Prop} {kind:Int} {n cap:Nat} {st co:Int} {nx ou:List Int} {vn vo:Value} {Mk:World→Nat→World→Prop} {oT:TypeId} {fA fT:Nat} (_hMk:∀ w b w',Mk w b w'→∃ (w1:World) (G:Nat→Prop) (R:SR σ) (ov rv rt:Value),Below w.heap.size w w1∧dL w1 n (cap:Int) oT ov b w'∧(∀ k,G k→w.heap.size≤k∧k<w1.heap.size)∧(∀ I:Nat→Prop,(∀ k,G k→I k)→R.rep I w' P.first [.pointer none])∧(∀ L:Lt,L.oT=oT→L.ov=ov→bG R P L fA rv)∧∀ L:Lt,L.oT=oT→L.ov=ov→tR R L tell fT rt) (_hD:∀ D:DL,D.kind=kind→D.st=st→D.co=co→D.nx=nx→D.ou=ou→((kind≠5∧D.vn=vn∧D.vo=vo)∨(kind=5∧∃ g1 g2,D.vn = .slice (some ⟨g1,0,none⟩) nx.length nx.length∧D.vo = .slice (some ⟨g2,0,none⟩) ou.length ou.length))→DS P tell sz HM oR D) (_hF:∀ D:DL,D.n≤64→pE P tell D) (_hn:1≤n) (_cu:n≤64) (_hc:cap≤64),kW kind n (cap:Int) st co nx ou vn vo Mk
def row.fN:Prop:=∀ {σ:Type} {P:M.Plain σ} {tell:σ→List Int} {sz:σ→Nat} {HM:World→Value→σ→Prop} {kind:Int} {n cap:Nat} {st co:Int} {nx ou:List Int} {vn vo:Value} {Mk:World→Nat→World→Prop} {oT:TypeId} {fA fT:Nat} (_hMk:∀ w b w',Mk w b w'→∃ (w1:World) (G:Nat→Prop) (R:SR σ) (ov rv rt:Value),Below w.heap.size w w1∧dL w1 n (cap:Int) oT ov b w'∧(∀ k,G k→w.heap.size≤k∧k<w1.heap.size)∧(∀ I:Nat→Prop,(∀ k,G k→I k)→R.rep I w' P.first [.pointer none,.pointer none])∧(∀ L:Lt,L.oT=oT→L.ov=ov→bG R P L fA rv)∧∀ L:Lt,L.oT=oT→L.ov=ov→tR R L tell fT rt) (_hD:∀ D:DL,D.kind=kind→D.st=st→D.co=co→D.nx=nx→D.ou=ou→((kind≠5∧D.vn=vn∧D.vo=vo)∨(kind=5∧∃ g1 g2,D.vn = .slice (some ⟨g1,0,none⟩) nx.length nx.length∧D.vo = .slice (some ⟨g2,0,none⟩) ou.length ou.length))→DS P tell sz HM oR D) (_hF:∀ D:DL,D.n≤64→pE P tell D) (_hn:1≤n) (_cu:n≤64) (_hc:cap≤64),kW kind n (cap:Int) st co nx ou vn vo Mk
open row in
theorem wR:int.fN∧list.fN∧tree.fN∧row.fN:=by
 refine ⟨@mkK _ 0 ?_,@mkK _ 1 ?_,@mkK _ 2 ?_,@mkK _ 3 ?_⟩<;>intro kk σ P tell sz HM kind n cap st co nx ou vn vo Mk oT fA fT hMk hD hF hn vO hc
 all_goals
  intro w e w' hM;obtain ⟨base,bX,bY,tE,bN,w01,w1,w03,w4,wr,rfl,uy,aLp,hMd,hz1,hbase,-,hK,hz4,eN,hrL,hb',hbw⟩:=hM;obtain ⟨wg,G,R,ov,rv,rt,hbg,⟨bN',hr',hE,hge⟩,hG,hz,hA,hT⟩:=hMk _ _ _ hMd;obtain ⟨L,e1,e2,e3,e4,rfl,hB⟩:=Both.new2 (P:=P) hr' hE hn vO hc (fun k hk=>(hG k hk).2) hz;obtain ⟨-,-,-,-,-,-,bI⟩:=uy.reads hn;obtain ⟨D,SD,rfl,d2,d3,d4,d5,d6,d7,d8,dv,hSD,hDW⟩:=DW.new P uy hn vO hc;have xo:=xok (hA L e3 e4) (hT L e3 e4) D (d2.trans e1.symm) (d3.trans e2.symm);have ds:DS P tell sz HM oR D:=hD D d4 d5 d6 d7 d8 dv;have z1:=aLp.size;have z2:=bI.size;have z3:=hbg.size;have z5:=hE.below.1.size;have hS:∀ k,((wg.heap.size≤k∧k<w4.heap.size)∧k≠bX)∨G k→w03.heap.size≤k∧k<w4.heap.size∧k≠bX:=by
   rintro k (c|c)
   ·exact ⟨by omega,c.1.2,c.2⟩
   ·have:=hG k c
    exact ⟨by omega,by omega,by omega⟩
  have hX:=hB.stay (w1:=wr) (S':=fun k=>((wg.heap.size≤k∧k<w4.heap.size)∧k≠bX)∨G k) (fun k hk=>hK k (by have:=hS k hk;omega) (hS k hk).2.1) (fun _ q=>q) (fun k hk=>by have:=hS k hk;omega);have LM:base≤bX:=by omega
  first|(have:=kA kk;have law:=AD.new (A:=⟨wr.heap.size,bX,183,L.bE⟩) (B:=w.heap.size) xo hDW (fun k hk=>by have:=hSD k hk;omega) ⟨_,hX⟩ (fun k hk=>by have:=hS k hk;exact ⟨by omega,by omega,this.2.2⟩) (by show _≤bX;omega) (by omega) eN hb' (hK.row hr' LM) rfl hrL)|(have:=kB kk;have law:=AD.new (A:=⟨wr.heap.size,bX,187,L.bE⟩) (B:=w.heap.size) xo hDW (fun k hk=>by have:=hSD k hk;omega) ⟨_,hX⟩ (fun k hk=>by have:=hS k hk;exact ⟨by omega,by omega,this.2.2⟩) (by show _≤bX;omega) (by omega) eN hb' (hK.row hr' LM) rfl hrL)|(have:=kC kk;have law:=AD.new (A:=⟨wr.heap.size,bX,195,L.bE⟩) (B:=w.heap.size) xo hDW (fun k hk=>by have:=hSD k hk;omega) ⟨_,hX⟩ (fun k hk=>by have:=hS k hk;exact ⟨by omega,by omega,this.2.2⟩) (by show _≤bX;omega) (by omega) eN hb' (hK.row hr' LM) rfl hrL)|(have:=kD kk;have law:=AD.new (A:=⟨wr.heap.size,bX,191,L.bE⟩) (B:=w.heap.size) xo hDW (fun k hk=>by have:=hSD k hk;omega) ⟨_,hX⟩ (fun k hk=>by have:=hS k hk;exact ⟨by omega,by omega,this.2.2⟩) (by show _≤bX;omega) (by omega) eN hb' (hK.row hr' LM) rfl hrL)
  first|(have:=kA kk;exact ⟨_,_,_,rfl,ny (A:=⟨wr.heap.size,bX,183,L.bE⟩) xo ds (hF D (by omega)),⟨_,law,jM.new D⟩,fun q hq=>hq.1,aS hbw hb' hbw.size⟩)|(have:=kB kk;exact ⟨_,_,_,rfl,ny (A:=⟨wr.heap.size,bX,187,L.bE⟩) xo ds (hF D (by omega)),⟨_,law,jM.new D⟩,fun q hq=>hq.1,aS hbw hb' hbw.size⟩)|(have:=kC kk;exact ⟨_,_,_,rfl,ny (A:=⟨wr.heap.size,bX,195,L.bE⟩) xo ds (hF D (by omega)),⟨_,law,jM.new D⟩,fun q hq=>hq.1,aS hbw hb' hbw.size⟩)|(have:=kD kk;exact ⟨_,_,_,rfl,ny (A:=⟨wr.heap.size,bX,191,L.bE⟩) xo ds (hF D (by omega)),⟨_,law,jM.new D⟩,fun q hq=>hq.1,aS hbw hb' hbw.size⟩)
theorem int.oI:fN:=wR.1
theorem list.oI:fN:=wR.2.1
theorem tree.oI:fN:=wR.2.2.1
theorem row.oI:fN:=wR.2.2.2
end Go.Proofs.YtefjhnhdagolhaaGreat
