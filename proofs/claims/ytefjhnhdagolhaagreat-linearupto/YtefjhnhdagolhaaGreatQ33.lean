import Derived.Test.YtefjhnhdagolhaaGreatQ32
import Derived.Test.YtefjhnhdagolhaaGreatQ09
set_option maxHeartbeats 4000000
set_option maxRecDepth 20000
namespace Go.Proofs.YtefjhnhdagolhaaGreat
open int list tree
open Go.RowKit
open M (aI aC aD Op cY aS aK aP bA aQ aL aN)
def int.cC.DK:Prop:=∀ {σ:Type} {L:Lt} {E:aK σ} {Y:aP} {t:Nat} {P:M.Plain σ} (_hn:L.n≤64) (_hc:L.cap≤64) (_h:M.Inv P L.n L.cap E Y) (_hB:M.ED L.n E) (_hN:E.cZ≤1000000000) (_ht:t<L.n),cC L E t
def list.cC.DK:Prop:=∀ {σ:Type} {L:Lt} {E:aK σ} {Y:aP} {t:Nat} {P:M.Plain σ} (_hn:L.n≤64) (_hc:L.cap≤64) (_h:M.Inv P L.n L.cap E Y) (_hB:M.ED L.n E) (_hN:E.cZ≤1000000000) (_ht:t<L.n),cC L E t
def tree.cC.DK:Prop:=∀ {σ:Type} {L:Lt} {E:aK σ} {Y:aP} {t:Nat} {P:M.Plain σ} (_hn:L.n≤64) (_hc:L.cap≤64) (_h:M.Inv P L.n L.cap E Y) (_hB:M.ED L.n E) (_hN:E.cZ≤1000000000) (_ht:t<L.n),cC L E t
def row.cC.DK:Prop:=∀ {σ:Type} {L:Lt} {E:aK σ} {Y:aP} {t:Nat} {P:M.Plain σ} (_hn:L.n≤64) (_hc:L.cap≤64) (_h:M.Inv P L.n L.cap E Y) (_hB:M.ED L.n E) (_hN:E.cZ≤1000000000) (_ht:t<L.n),cC L E t
open row in
theorem vA:int.cC.DK∧list.cC.DK∧tree.cC.DK∧row.cC.DK:=by
 refine ⟨?_,?_,?_,?_⟩<;>intro σ L E Y t P hn hc h hB hN ht
 all_goals
  obtain ⟨pb,nf,hp,G,T⟩:=h
  have X:=T t ht
  obtain ⟨b1,b2,b3⟩:=hB.th t ht
  have part:∀ p,1≤p→p≤10→(E.th t).phase=p→(Y.th t).part=p:=by
   intro p h1 MD hq
   by_cases q:(Y.th t).part=11
   ·have:=X.p4 q;omega
   ·have:=X.p2 (by have:=X.p1;omega);omega
  have len:∀ p,1≤p→p≤10→(E.th t).phase=p→(E.th t).past<(Y.th t).len L.n p:=by
   intro p h1 MD hq
   have a:=part p h1 MD hq
   have:=X.p3 (by omega) (by omega)
   rw [a] at this
   omega
  have hsp:(E.th t).spare<2*L.n+1:=by rcases X.sp with q|q<;>omega
  refine {N:=hN,st:=Nat.le_trans b3 hN,pr:=hB.pr,sr:=by omega,sp:=hsp,b:=by rw [X.bk];exact X.bc,p1:=?_,p2:=?_,p3:=?_,p5:=?_,p6:=?_,p7:=?_,p8:=?_,p9:=?_,p12:=fun _=>b2}
  ·intro q;have:=len 1 (by omega) (by omega) q;simpa [bA.len] using this
  ·intro q
   have e:E.bC (t / 16)=M.bits L.n (fun k=>(Y.th k).aM) (t / 16):=G.bC (t / 16) (by unfold M.tw;omega)
   rw [e]
   exact ⟨M.tI _ _ _,M.FY _ _ _⟩
  ·intro q
   have:=len 3 (by omega) (by omega) q
   have e:(Y.th t).len L.n 3=(Y.th t).aG:=by simp [bA.len]
   have:=X.bc
   omega
  ·intro q
   have:=len 5 (by omega) (by omega) q
   have e:(Y.th t).len L.n 5=aQ L.n+1:=by simp [bA.len]
   have a:=part 5 (by omega) (by omega) q
   exact ⟨b1,by omega,(X.s1 (by omega) (by omega)).2.2.2.2.2.2.2⟩
  ·intro q
   have:=len 6 (by omega) (by omega) q
   have e:(Y.th t).len L.n 6=M.tw L.n:=by simp [bA.len]
   omega
  ·intro q hs k hk
   have a:=part 7 (by omega) (by omega) q
   have hs':(E.th t).stamp=(M.view E Y pb nf).N:=by rw [←hs,hp];rfl
   have t7:=(X.t7 (by omega) (by omega)).1 k hk
   have d7:=(X.d7 (.inr a) hs').1 k (by unfold aQ;omega)
   have c7:=G.RD k hk
   rw [t7,d7,c7]
   exact ⟨⟨M.tI _ _ _,M.FY _ _ _⟩,M.tI _ _ _,M.FY _ _ _⟩
  ·intro q
   have a:=part 8 (by omega) (by omega) q
   have l:=len 8 (by omega) (by omega) q
   have e:(Y.th t).len L.n 8=3*(Y.th t).aJ.length:=by simp [bA.len]
   obtain ⟨-,d1,d2⟩:=X.d6 (by omega) (by omega)
   obtain ⟨h1,h2,-⟩:=X.h8 (by omega) (by omega)
   have hl:(E.th t).past<3*(E.th t).aJ.length:=by rw [h1];omega
   have hm:∀ k∈(E.th t).aJ,k<L.n:=by
    intro k hk
    rw [h2] at hk
    exact List.mem_range.mp (List.mem_filter.mp hk).1
   refine ⟨?_,hl,?_,?_⟩
   ·obtain ⟨v,hv⟩:=Option.isSome_iff_exists.mp d1
    obtain ⟨f,hf⟩:=Option.isSome_iff_exists.mp d2
    exact ⟨v,f,hv,hf⟩
   ·rw [h2]
    refine Nat.le_trans (List.length_filter_le _ _) ?_
    rw [List.length_range]
    exact hn
   ·have hi:(E.th t).past / 3<(E.th t).aJ.length:=by omega
    rw [List.getD_eq_getElem?_getD,List.getElem?_eq_getElem hi]
    exact hm _ (List.getElem_mem hi)
  ·intro q
   have:=len 9 (by omega) (by omega) q
   have e:(Y.th t).len L.n 9=aQ L.n+1:=by simp [bA.len]
   have a:=part 9 (by omega) (by omega) q
   obtain ⟨-,d1,d2⟩:=X.d6 (by omega) (by omega)
   exact ⟨hsp,by omega,d1,d2⟩
theorem int.cC.of:DK:=vA.1
theorem list.cC.of:DK:=vA.2.1
theorem tree.cC.of:DK:=vA.2.2.1
theorem row.cC.of:DK:=vA.2.2.2
attribute [local go_sem ↓] Go.wp_at_zero Go.wp_at_succ
theorem int.mD {σ:Type} {R:SR σ} {L:Lt} {S:Nat→Prop} {E:aK σ} {w:World} {t:Nat} (h:RE R L S E w) (ht:t<L.n) :
  Calls Tryz.prog 197 #[.pointer (some ⟨L.g,t*28,none⟩)] w fun e w'=>e = .returned (.bool (decide ((E.th t).phase≠0)))∧w'=w:=by
 obtain ⟨cv,cf,pv,hc,-,-,-,hf⟩:=h.cells ht rfl
 have c3:=hc 3 _ (by decide) rfl
 clear h hc hf
 go_enter Tryz.func197,Tryz.ntmps197
 go_wp2
 go_ret
 refine ⟨kZ ?_,rfl⟩
 rw [Bool.eq_iff_iff]
 simp
theorem list.mD {σ:Type} {R:SR σ} {L:Lt} {S:Nat→Prop} {E:aK σ} {w:World} {t:Nat} (h:RE R L S E w) (ht:t<L.n) :
  Calls Tryz.prog 257 #[.pointer (some ⟨L.g,t*28,none⟩)] w fun e w'=>e = .returned (.bool (decide ((E.th t).phase≠0)))∧w'=w:=by
 obtain ⟨cv,cf,pv,hc,-,-,-,hf⟩:=h.cells ht rfl
 have c3:=hc 3 _ (by decide) rfl
 clear h hc hf
 go_enter Tryz.func257,Tryz.ntmps257
 go_wp2
 go_ret
 refine ⟨kZ ?_,rfl⟩
 rw [Bool.eq_iff_iff]
 simp
theorem tree.mD {σ:Type} {R:SR σ} {L:Lt} {S:Nat→Prop} {E:aK σ} {w:World} {t:Nat} (h:RE R L S E w) (ht:t<L.n) :
  Calls Tryz.prog 331 #[.pointer (some ⟨L.g,t*28,none⟩)] w fun e w'=>e = .returned (.bool (decide ((E.th t).phase≠0)))∧w'=w:=by
 obtain ⟨cv,cf,pv,hc,-,-,-,hf⟩:=h.cells ht rfl
 have c3:=hc 3 _ (by decide) rfl
 clear h hc hf
 go_enter Tryz.func331,Tryz.ntmps331
 go_wp2
 go_ret
 refine ⟨kZ ?_,rfl⟩
 rw [Bool.eq_iff_iff]
 simp
theorem row.mD {σ:Type} {R:SR σ} {L:Lt} {S:Nat→Prop} {E:aK σ} {w:World} {t:Nat} (h:RE R L S E w) (ht:t<L.n) :
  Calls Tryz.prog 294 #[.pointer (some ⟨L.g,t*30,none⟩)] w fun e w'=>e = .returned (.bool (decide ((E.th t).phase≠0)))∧w'=w:=by
 obtain ⟨cv,cf,pv,hc,-,-,-,hf⟩:=h.cells ht rfl
 have c3:=hc 3 _ (by decide) rfl
 clear h hc hf
 go_enter Tryz.func294,Tryz.ntmps294
 go_wp2
 go_ret
 refine ⟨kZ ?_,rfl⟩
 rw [Bool.eq_iff_iff]
 simp
def int.lU:Prop:=∀ {σ:Type} {R:SR σ} {L:Lt} {S:Nat→Prop} {E:aK σ} {w:World} (_h:RE R L S E w) (x:Int),Calls Tryz.prog 196 #[.pointer (some ⟨L.bE,0,none⟩),.int .i64 x] w fun e w'=>e = .returned (.bool (decide (0≤x∧x<L.n)))∧w'=w
def list.lU:Prop:=∀ {σ:Type} {R:SR σ} {L:Lt} {S:Nat→Prop} {E:aK σ} {w:World} (_h:RE R L S E w) (x:Int),Calls Tryz.prog 256 #[.pointer (some ⟨L.bE,0,none⟩),.int .i64 x] w fun e w'=>e = .returned (.bool (decide (0≤x∧x<L.n)))∧w'=w
def tree.lU:Prop:=∀ {σ:Type} {R:SR σ} {L:Lt} {S:Nat→Prop} {E:aK σ} {w:World} (_h:RE R L S E w) (x:Int),Calls Tryz.prog 330 #[.pointer (some ⟨L.bE,0,none⟩),.int .i64 x] w fun e w'=>e = .returned (.bool (decide (0≤x∧x<L.n)))∧w'=w
def row.lU:Prop:=∀ {σ:Type} {R:SR σ} {L:Lt} {S:Nat→Prop} {E:aK σ} {w:World} (_h:RE R L S E w) (x:Int),Calls Tryz.prog 293 #[.pointer (some ⟨L.bE,0,none⟩),.int .i64 x] w fun e w'=>e = .returned (.bool (decide (0≤x∧x<L.n)))∧w'=w
open row in
theorem AW:int.lU∧list.lU∧tree.lU∧row.lU:=by
 refine ⟨@mkK _ 0 ?_,@mkK _ 1 ?_,@mkK _ 2 ?_,@mkK _ 3 ?_⟩<;>intro kk σ R L S E w h x
 all_goals
  have c1:w.cell? ⟨L.bE,1,none⟩=some (.slice (some ⟨L.g,0,none⟩) L.n L.gc):=h.oQ.cell_of rfl
  clear h
  by_cases q:0≤x
  ·have hg:decide (x≥0)=true:=by simp [q]
   first|(have _:Kn 0:=kk;go_enter Tryz.func196,Tryz.ntmps196)|(have _:Kn 1:=kk;go_enter Tryz.func256,Tryz.ntmps256)|(have _:Kn 2:=kk;go_enter Tryz.func330,Tryz.ntmps330)|(have _:Kn 3:=kk;go_enter Tryz.func293,Tryz.ntmps293)
   go_wp2
   go_ret
   refine ⟨kZ ?_,rfl⟩
   simp [q]
  ·first|(have _:Kn 0:=kk;go_enter Tryz.func196,Tryz.ntmps196)|(have _:Kn 1:=kk;go_enter Tryz.func256,Tryz.ntmps256)|(have _:Kn 2:=kk;go_enter Tryz.func330,Tryz.ntmps330)|(have _:Kn 3:=kk;go_enter Tryz.func293,Tryz.ntmps293)
   go_wp2
   go_ret
   refine ⟨kZ ?_,rfl⟩
   simp
   omega
theorem int.qL:lU:=AW.1
theorem list.qL:lU:=AW.2.1
theorem tree.qL:lU:=AW.2.2.1
theorem row.qL:lU:=AW.2.2.2
def int.iF:Prop:=∀ {σ:Type} {R:SR σ} {L:Lt} {S:Nat→Prop} {E:aK σ} {w:World} {t:Nat} (_h:RE R L S E w) (_ht:t<L.n) (o:M.Op),Calls Tryz.prog 198 #[.pointer (some ⟨L.g,t*28,none⟩),.agg #[.int .i64 o.c,.int .i64 o.a,.int .i64 o.b]] w fun e w'=>e = .returned (.tuple #[])∧aF R L S w (M.begin E t o) w'
def list.iF:Prop:=∀ {σ:Type} {R:SR σ} {L:Lt} {S:Nat→Prop} {E:aK σ} {w:World} {t:Nat} (_h:RE R L S E w) (_ht:t<L.n) (o:M.Op),Calls Tryz.prog 258 #[.pointer (some ⟨L.g,t*28,none⟩),.agg #[.int .i64 o.c,.int .i64 o.a,.int .i64 o.b]] w fun e w'=>e = .returned (.tuple #[])∧aF R L S w (M.begin E t o) w'
def tree.iF:Prop:=∀ {σ:Type} {R:SR σ} {L:Lt} {S:Nat→Prop} {E:aK σ} {w:World} {t:Nat} (_h:RE R L S E w) (_ht:t<L.n) (o:M.Op),Calls Tryz.prog 332 #[.pointer (some ⟨L.g,t*28,none⟩),.agg #[.int .i64 o.c,.int .i64 o.a,.int .i64 o.b]] w fun e w'=>e = .returned (.tuple #[])∧aF R L S w (M.begin E t o) w'
def row.iF:Prop:=∀ {σ:Type} {R:SR σ} {L:Lt} {S:Nat→Prop} {E:aK σ} {w:World} {t:Nat} (_h:RE R L S E w) (_ht:t<L.n) (o:M.Op),Calls Tryz.prog 295 #[.pointer (some ⟨L.g,t*30,none⟩),.agg #[.int .i64 o.c,.int .i64 o.a,.int .i64 o.b]] w fun e w'=>e = .returned (.tuple #[])∧aF R L S w (M.begin E t o) w'
open row in
theorem vB:int.iF∧list.iF∧tree.iF∧row.iF:=by
 refine ⟨@mkK _ 0 ?_,@mkK _ 1 ?_,@mkK _ 2 ?_,@mkK _ 3 ?_⟩<;>intro kk σ R L S E w t h ht o
 all_goals
  have HH:=aA h
  clear h
  first|(have _:Kn 0:=kk;go_enter Tryz.func198,Tryz.ntmps198)|(have _:Kn 1:=kk;go_enter Tryz.func258,Tryz.ntmps258)|(have _:Kn 2:=kk;go_enter Tryz.func332,Tryz.ntmps332)|(have _:Kn 3:=kk;go_enter Tryz.func295,Tryz.ntmps295)
  go_upto_region 1 with fail
  generalize tX:World.alloc w _=W1
  have kS:Below w.heap.size w W1:=by rw [←tX];exact aB w _
  have hro:Row W1 w.heap.size 36 [.int .i64 o.c,.int .i64 o.a,.int .i64 o.b]:=by rw [←tX];exact Row.new w [_,_,_] _
  have o0:W1.cell? ⟨w.heap.size,0,none⟩=some (.int .i64 o.c):=hro.cell_of rfl
  have o1:W1.cell? ⟨w.heap.size,1,none⟩=some (.int .i64 o.a):=hro.cell_of rfl
  have o2:W1.cell? ⟨w.heap.size,2,none⟩=some (.int .i64 o.b):=hro.cell_of rfl
  have HL:=aA (aF.below HH.out kS)
  obtain ⟨cv,cf,pv,hc,-,-,-,hf⟩:=HL.out.re.cells ht rfl
  have c5:=hc 5 _ (by decide) rfl
  first|(have _:Kn 0:=kk;have c6:W1.cell? ⟨L.g,t*28+5+1,none⟩=some (.int .i64 (E.th t).op.a):=hc 6 _ (by decide) rfl)|(have _:Kn 1:=kk;have c6:W1.cell? ⟨L.g,t*28+5+1,none⟩=some (.int .i64 (E.th t).op.a):=hc 6 _ (by decide) rfl)|(have _:Kn 2:=kk;have c6:W1.cell? ⟨L.g,t*28+5+1,none⟩=some (.int .i64 (E.th t).op.a):=hc 6 _ (by decide) rfl)|(have _:Kn 3:=kk;have c6:W1.cell? ⟨L.g,t*30+5+1,none⟩=some (.int .i64 (E.th t).op.a):=hc 6 _ (by decide) rfl)
  first|(have _:Kn 0:=kk;have c7:W1.cell? ⟨L.g,t*28+5+2,none⟩=some (.int .i64 (E.th t).op.b):=hc 7 _ (by decide) rfl)|(have _:Kn 1:=kk;have c7:W1.cell? ⟨L.g,t*28+5+2,none⟩=some (.int .i64 (E.th t).op.b):=hc 7 _ (by decide) rfl)|(have _:Kn 2:=kk;have c7:W1.cell? ⟨L.g,t*28+5+2,none⟩=some (.int .i64 (E.th t).op.b):=hc 7 _ (by decide) rfl)|(have _:Kn 3:=kk;have c7:W1.cell? ⟨L.g,t*30+5+2,none⟩=some (.int .i64 (E.th t).op.b):=hc 7 _ (by decide) rfl)
  have c10:=hc 10 _ (by decide) rfl
  first|(have _:Kn 0:=kk;have f5:=hf (t*28+5))|(have _:Kn 1:=kk;have f5:=hf (t*28+5))|(have _:Kn 2:=kk;have f5:=hf (t*28+5))|(have _:Kn 3:=kk;have f5:=hf (t*30+5))
  first|(have _:Kn 0:=kk;have f6:=hf (t*28+5+1))|(have _:Kn 1:=kk;have f6:=hf (t*28+5+1))|(have _:Kn 2:=kk;have f6:=hf (t*28+5+1))|(have _:Kn 3:=kk;have f6:=hf (t*30+5+1))
  first|(have _:Kn 0:=kk;have f7:=hf (t*28+5+2))|(have _:Kn 1:=kk;have f7:=hf (t*28+5+2))|(have _:Kn 2:=kk;have f7:=hf (t*28+5+2))|(have _:Kn 3:=kk;have f7:=hf (t*30+5+2))
  first|(have _:Kn 0:=kk;have f10:=hf (t*28+10))|(have _:Kn 1:=kk;have f10:=hf (t*28+10))|(have _:Kn 2:=kk;have f10:=hf (t*28+10))|(have _:Kn 3:=kk;have f10:=hf (t*30+10))
  obtain ⟨h1,k1⟩:=HL.out.re.fN ht 5 (by decide) (.int .i64 o.c) {E.th t with op:=⟨o.c,(E.th t).op.a,(E.th t).op.b⟩} rfl rfl rfl rfl rfl (by intros;rfl)
  obtain ⟨h2,k2⟩:=h1.fN ht 6 (by decide) (.int .i64 o.a) {E.th t with op:=⟨o.c,o.a,(E.th t).op.b⟩} (by simp [aC]) (by simp [aC]) (by simp [aC]) (by simp [aC]) (by simp [aC]) (by intros;simp only [aC];rfl)
  obtain ⟨h3,k3⟩:=h2.fN ht 7 (by decide) (.int .i64 o.b) {E.th t with op:=⟨o.c,o.a,o.b⟩} (by simp [aC]) (by simp [aC]) (by simp [aC]) (by simp [aC]) (by simp [aC]) (by intros;simp only [aC];rfl)
  obtain ⟨h4,k4⟩:=h3.fN ht 10 (by decide) (.bool false) {E.th t with op:=⟨o.c,o.a,o.b⟩,again:=false} (by simp [aC]) (by simp [aC]) (by simp [aC]) (by simp [aC]) (by simp [aC]) (by intros;simp only [aC];rfl)
  have H4:=aA h4
  have K4:=aA (((k1.trans k2).trans k3).trans k4)
  clear tX kS hro hc hf h1 h2 h3 h4 k1 k2 k3 k4
  go_wp2_with fail
  refine (gH H4.out ht 1).mono ?_
  rintro e w5 ⟨rfl,r5,k5⟩
  have HR:=aA (HL.out.next (aF.of r5 (K4.out.trans k5) rfl))
  clear r5 k5
  go_wp2
  refine bodyPost_end (v:=.tuple #[]) (by simp [results,Tryz.results198,Tryz.results258,Tryz.results332,Tryz.results295,go_sem]) rfl ⟨rfl,HR.out.cast ?_⟩
  unfold M.begin
  simp only [bM,aC]
theorem int.AX:iF:=vB.1
theorem list.AX:iF:=vB.2.1
theorem tree.AX:iF:=vB.2.2.1
theorem row.AX:iF:=vB.2.2.2
end Go.Proofs.YtefjhnhdagolhaaGreat
namespace Go.Proofs.YtefjhnhdagolhaaGreat
open int list tree
open Go.RowKit
open M (aI aC aD cY aS aK aP bA aQ aL aN)
attribute [local go_sem ↓] Go.wp_at_zero Go.wp_at_succ
def int.eP:Prop:=∀ {σ:Type} {R:SR σ} {L:Lt} {S:Nat→Prop} {E:aK σ} {w:World} (_h:RE R L S E w) (x:Int) (_hx:¬(0≤x∧x<L.n)) (o:M.Op),Calls Tryz.prog 190 #[.pointer (some ⟨L.bE,0,none⟩),.int .i64 x,.agg #[.int .i64 o.c,.int .i64 o.a,.int .i64 o.b]] w fun e w'=>e = .returned (.int .i64 3)∧aF R L S w E w'
def list.eP:Prop:=∀ {σ:Type} {R:SR σ} {L:Lt} {S:Nat→Prop} {E:aK σ} {w:World} (_h:RE R L S E w) (x:Int) (_hx:¬(0≤x∧x<L.n)) (o:M.Op),Calls Tryz.prog 250 #[.pointer (some ⟨L.bE,0,none⟩),.int .i64 x,.agg #[.int .i64 o.c,.int .i64 o.a,.int .i64 o.b]] w fun e w'=>e = .returned (.int .i64 3)∧aF R L S w E w'
def tree.eP:Prop:=∀ {σ:Type} {R:SR σ} {L:Lt} {S:Nat→Prop} {E:aK σ} {w:World} (_h:RE R L S E w) (x:Int) (_hx:¬(0≤x∧x<L.n)) (o:M.Op),Calls Tryz.prog 324 #[.pointer (some ⟨L.bE,0,none⟩),.int .i64 x,.agg #[.int .i64 o.c,.int .i64 o.a,.int .i64 o.b]] w fun e w'=>e = .returned (.int .i64 3)∧aF R L S w E w'
def row.eP:Prop:=∀ {σ:Type} {R:SR σ} {L:Lt} {S:Nat→Prop} {E:aK σ} {w:World} (_h:RE R L S E w) (x:Int) (_hx:¬(0≤x∧x<L.n)) (o:M.Op),Calls Tryz.prog 287 #[.pointer (some ⟨L.bE,0,none⟩),.int .i64 x,.agg #[.int .i64 o.c,.int .i64 o.a,.int .i64 o.b]] w fun e w'=>e = .returned (.int .i64 3)∧aF R L S w E w'
open row in
theorem qM:int.eP∧list.eP∧tree.eP∧row.eP:=by
 refine ⟨@mkK _ 0 ?_,@mkK _ 1 ?_,@mkK _ 2 ?_,@mkK _ 3 ?_⟩<;>intro kk σ R L S E w h x hx o
 all_goals
  have HH:=aA h
  have HX:=aA (show decide (0≤x∧x<(L.n:Int))=false by simpa using hx)
  clear h hx
  first|(have _:Kn 0:=kk;go_enter Tryz.func190,Tryz.ntmps190)|(have _:Kn 1:=kk;go_enter Tryz.func250,Tryz.ntmps250)|(have _:Kn 2:=kk;go_enter Tryz.func324,Tryz.ntmps324)|(have _:Kn 3:=kk;go_enter Tryz.func287,Tryz.ntmps287)
  go_upto_region 1 with fail
  generalize tX:World.alloc w _=W1
  have kS:Below w.heap.size w W1:=by rw [←tX];exact aB w _
  have HL:=aA (aF.below HH.out kS)
  clear tX kS
  go_wp2_with fail
  refine (qL HL.out.re x).mono ?_
  rintro e w2 ⟨rfl,rfl⟩
  rw [HX.out]
  go_wp2
  go_ret
  exact ⟨rfl,HL.out⟩
theorem int.vC:eP:=qM.1
theorem list.vC:eP:=qM.2.1
theorem tree.vC:eP:=qM.2.2.1
theorem row.vC:eP:=qM.2.2.2
def int.dX:Prop:=∀ {σ:Type} {R:SR σ} {L:Lt} {S:Nat→Prop} {E:aK σ} {w:World} {t:Nat} (_h:RE R L S E w) (_ht:t<L.n) (_hp:(E.th t).phase≠0) (o:M.Op),Calls Tryz.prog 190 #[.pointer (some ⟨L.bE,0,none⟩),.int .i64 (t:Int),.agg #[.int .i64 o.c,.int .i64 o.a,.int .i64 o.b]] w fun e w'=>e = .returned (.int .i64 4)∧aF R L S w E w'
def list.dX:Prop:=∀ {σ:Type} {R:SR σ} {L:Lt} {S:Nat→Prop} {E:aK σ} {w:World} {t:Nat} (_h:RE R L S E w) (_ht:t<L.n) (_hp:(E.th t).phase≠0) (o:M.Op),Calls Tryz.prog 250 #[.pointer (some ⟨L.bE,0,none⟩),.int .i64 (t:Int),.agg #[.int .i64 o.c,.int .i64 o.a,.int .i64 o.b]] w fun e w'=>e = .returned (.int .i64 4)∧aF R L S w E w'
def tree.dX:Prop:=∀ {σ:Type} {R:SR σ} {L:Lt} {S:Nat→Prop} {E:aK σ} {w:World} {t:Nat} (_h:RE R L S E w) (_ht:t<L.n) (_hp:(E.th t).phase≠0) (o:M.Op),Calls Tryz.prog 324 #[.pointer (some ⟨L.bE,0,none⟩),.int .i64 (t:Int),.agg #[.int .i64 o.c,.int .i64 o.a,.int .i64 o.b]] w fun e w'=>e = .returned (.int .i64 4)∧aF R L S w E w'
def row.dX:Prop:=∀ {σ:Type} {R:SR σ} {L:Lt} {S:Nat→Prop} {E:aK σ} {w:World} {t:Nat} (_h:RE R L S E w) (_ht:t<L.n) (_hp:(E.th t).phase≠0) (o:M.Op),Calls Tryz.prog 287 #[.pointer (some ⟨L.bE,0,none⟩),.int .i64 (t:Int),.agg #[.int .i64 o.c,.int .i64 o.a,.int .i64 o.b]] w fun e w'=>e = .returned (.int .i64 4)∧aF R L S w E w'
open row in
theorem oJ:int.dX∧list.dX∧tree.dX∧row.dX:=by
 refine ⟨@mkK _ 0 ?_,@mkK _ 1 ?_,@mkK _ 2 ?_,@mkK _ 3 ?_⟩<;>intro kk σ R L S E w t h ht hp o
 all_goals
  have HH:=aA h
  have HX:=aA (show decide (0≤(t:Int)∧(t:Int)<(L.n:Int))=true by simp;omega)
  have HP:=aA (show decide ((E.th t).phase≠0)=true by simpa using hp)
  have ht':(t:Int)<(L.n:Int):=by omega
  clear h hp
  first|(have _:Kn 0:=kk;go_enter Tryz.func190,Tryz.ntmps190)|(have _:Kn 1:=kk;go_enter Tryz.func250,Tryz.ntmps250)|(have _:Kn 2:=kk;go_enter Tryz.func324,Tryz.ntmps324)|(have _:Kn 3:=kk;go_enter Tryz.func287,Tryz.ntmps287)
  go_upto_region 1 with fail
  generalize tX:World.alloc w _=W1
  have kS:Below w.heap.size w W1:=by rw [←tX];exact aB w _
  have HL:=aA (aF.below HH.out kS)
  have c1:W1.cell? ⟨L.bE,1,none⟩=some (.slice (some ⟨L.g,0,none⟩) L.n L.gc):=HL.out.re.oQ.cell_of rfl
  clear tX kS
  go_wp2_with fail
  refine (qL HL.out.re (t:Int)).mono ?_
  rintro e w2 ⟨rfl,rfl⟩
  rw [HX.out]
  go_wp2_with fail
  refine (mD HL.out.re ht).mono ?_
  rintro e w3 ⟨rfl,rfl⟩
  rw [HP.out]
  go_wp2
  go_ret
  exact ⟨rfl,HL.out⟩
theorem int.sR:dX:=oJ.1
theorem list.sR:dX:=oJ.2.1
theorem tree.sR:dX:=oJ.2.2.1
theorem row.sR:dX:=oJ.2.2.2
def int.dY:Prop:=∀ {σ:Type} {R:SR σ} {L:Lt} {S:Nat→Prop} {E:aK σ} {w:World} {t:Nat} (_h:RE R L S E w) (_ht:t<L.n) (_hp:(E.th t).phase=0) (o:M.Op),Calls Tryz.prog 190 #[.pointer (some ⟨L.bE,0,none⟩),.int .i64 (t:Int),.agg #[.int .i64 o.c,.int .i64 o.a,.int .i64 o.b]] w fun e w'=>e = .returned (.int .i64 0)∧aF R L S w (M.begin E t o) w'
def list.dY:Prop:=∀ {σ:Type} {R:SR σ} {L:Lt} {S:Nat→Prop} {E:aK σ} {w:World} {t:Nat} (_h:RE R L S E w) (_ht:t<L.n) (_hp:(E.th t).phase=0) (o:M.Op),Calls Tryz.prog 250 #[.pointer (some ⟨L.bE,0,none⟩),.int .i64 (t:Int),.agg #[.int .i64 o.c,.int .i64 o.a,.int .i64 o.b]] w fun e w'=>e = .returned (.int .i64 0)∧aF R L S w (M.begin E t o) w'
def tree.dY:Prop:=∀ {σ:Type} {R:SR σ} {L:Lt} {S:Nat→Prop} {E:aK σ} {w:World} {t:Nat} (_h:RE R L S E w) (_ht:t<L.n) (_hp:(E.th t).phase=0) (o:M.Op),Calls Tryz.prog 324 #[.pointer (some ⟨L.bE,0,none⟩),.int .i64 (t:Int),.agg #[.int .i64 o.c,.int .i64 o.a,.int .i64 o.b]] w fun e w'=>e = .returned (.int .i64 0)∧aF R L S w (M.begin E t o) w'
def row.dY:Prop:=∀ {σ:Type} {R:SR σ} {L:Lt} {S:Nat→Prop} {E:aK σ} {w:World} {t:Nat} (_h:RE R L S E w) (_ht:t<L.n) (_hp:(E.th t).phase=0) (o:M.Op),Calls Tryz.prog 287 #[.pointer (some ⟨L.bE,0,none⟩),.int .i64 (t:Int),.agg #[.int .i64 o.c,.int .i64 o.a,.int .i64 o.b]] w fun e w'=>e = .returned (.int .i64 0)∧aF R L S w (M.begin E t o) w'
open row in
theorem oK:int.dY∧list.dY∧tree.dY∧row.dY:=by
 refine ⟨@mkK _ 0 ?_,@mkK _ 1 ?_,@mkK _ 2 ?_,@mkK _ 3 ?_⟩<;>intro kk σ R L S E w t h ht hp o
 all_goals
  have HH:=aA h
  have HX:=aA (show decide (0≤(t:Int)∧(t:Int)<(L.n:Int))=true by simp;omega)
  have HP:=aA (show decide ((E.th t).phase≠0)=false by simpa using hp)
  have ht':(t:Int)<(L.n:Int):=by omega
  clear h hp
  first|(have _:Kn 0:=kk;go_enter Tryz.func190,Tryz.ntmps190)|(have _:Kn 1:=kk;go_enter Tryz.func250,Tryz.ntmps250)|(have _:Kn 2:=kk;go_enter Tryz.func324,Tryz.ntmps324)|(have _:Kn 3:=kk;go_enter Tryz.func287,Tryz.ntmps287)
  go_upto_region 1 with fail
  generalize tX:World.alloc w _=W1
  have kS:Below w.heap.size w W1:=by rw [←tX];exact aB w _
  have hro:Row W1 w.heap.size 36 [.int .i64 o.c,.int .i64 o.a,.int .i64 o.b]:=by rw [←tX];exact Row.new w [_,_,_] _
  have o0:W1.cell? ⟨w.heap.size,0,none⟩=some (.int .i64 o.c):=hro.cell_of rfl
  have o1:W1.cell? ⟨w.heap.size,1,none⟩=some (.int .i64 o.a):=hro.cell_of rfl
  have o2:W1.cell? ⟨w.heap.size,2,none⟩=some (.int .i64 o.b):=hro.cell_of rfl
  have HL:=aA (aF.below HH.out kS)
  have c1:W1.cell? ⟨L.bE,1,none⟩=some (.slice (some ⟨L.g,0,none⟩) L.n L.gc):=HL.out.re.oQ.cell_of rfl
  clear tX kS hro
  go_wp2_with fail
  refine (qL HL.out.re (t:Int)).mono ?_
  rintro e w2 ⟨rfl,rfl⟩
  rw [HX.out]
  go_wp2_with fail
  refine (mD HL.out.re ht).mono ?_
  rintro e w3 ⟨rfl,rfl⟩
  rw [HP.out]
  go_upto_region 5 with fail
  have HB:=aA (AX (HL.out.re.drew) ht o)
  first|(have _:Kn 0:=kk;go_region_with (go_at_call 198;refine HB.out.mono ?_;rintro e w4 ⟨rfl,hr⟩;have HR:=aA hr;clear hr))|(have _:Kn 1:=kk;go_region_with (go_at_call 258;refine HB.out.mono ?_;rintro e w4 ⟨rfl,hr⟩;have HR:=aA hr;clear hr))|(have _:Kn 2:=kk;go_region_with (go_at_call 332;refine HB.out.mono ?_;rintro e w4 ⟨rfl,hr⟩;have HR:=aA hr;clear hr))|(have _:Kn 3:=kk;go_region_with (go_at_call 295;refine HB.out.mono ?_;rintro e w4 ⟨rfl,hr⟩;have HR:=aA hr;clear hr))
  all_goals go_wp2
  all_goals go_ret
  all_goals exact ⟨rfl,HL.out.next ⟨HR.out.re,(Fr.refl _ _).drew.trans HR.out.fr⟩⟩
theorem int.sS:dY:=oK.1
theorem list.sS:dY:=oK.2.1
theorem tree.sS:dY:=oK.2.2.1
theorem row.sS:dY:=oK.2.2.2
def int.fP:Prop:=∀ {σ:Type} {R:SR σ} {L:Lt} {S:Nat→Prop} {E:aK σ} {w:World} (_h:RE R L S E w) (x:Int) (_hx:¬(0≤x∧x<L.n)),Calls Tryz.prog 195 #[.pointer (some ⟨L.bE,0,none⟩),.int .i64 x] w fun e w'=>e = .returned (.tuple #[.int .i64 0,.int .i64 3])∧w'=w
def list.fP:Prop:=∀ {σ:Type} {R:SR σ} {L:Lt} {S:Nat→Prop} {E:aK σ} {w:World} (_h:RE R L S E w) (x:Int) (_hx:¬(0≤x∧x<L.n)),Calls Tryz.prog 255 #[.pointer (some ⟨L.bE,0,none⟩),.int .i64 x] w fun e w'=>e = .returned (.tuple #[.int .i64 0,.int .i64 3])∧w'=w
def tree.fP:Prop:=∀ {σ:Type} {R:SR σ} {L:Lt} {S:Nat→Prop} {E:aK σ} {w:World} (_h:RE R L S E w) (x:Int) (_hx:¬(0≤x∧x<L.n)),Calls Tryz.prog 329 #[.pointer (some ⟨L.bE,0,none⟩),.int .i64 x] w fun e w'=>e = .returned (.tuple #[.int .i64 0,.int .i64 3])∧w'=w
def row.fP:Prop:=∀ {σ:Type} {R:SR σ} {L:Lt} {S:Nat→Prop} {E:aK σ} {w:World} (_h:RE R L S E w) (x:Int) (_hx:¬(0≤x∧x<L.n)),Calls Tryz.prog 292 #[.pointer (some ⟨L.bE,0,none⟩),.int .i64 x] w fun e w'=>e = .returned (.tuple #[.int .i64 0,.int .i64 3])∧w'=w
open row in
theorem sU:int.fP∧list.fP∧tree.fP∧row.fP:=by
 refine ⟨@mkK _ 0 ?_,@mkK _ 1 ?_,@mkK _ 2 ?_,@mkK _ 3 ?_⟩<;>intro kk σ R L S E w h x hx
 all_goals
  have HH:=aA h
  have HX:=aA (show decide (0≤x∧x<(L.n:Int))=false by simpa using hx)
  clear h hx
  first|(have _:Kn 0:=kk;go_enter Tryz.func195,Tryz.ntmps195)|(have _:Kn 1:=kk;go_enter Tryz.func255,Tryz.ntmps255)|(have _:Kn 2:=kk;go_enter Tryz.func329,Tryz.ntmps329)|(have _:Kn 3:=kk;go_enter Tryz.func292,Tryz.ntmps292)
  go_wp2_with fail
  refine (qL HH.out x).mono ?_
  rintro e w2 ⟨rfl,rfl⟩
  rw [HX.out]
  go_wp2
  refine bodyPost_ret (v:=.tuple #[.int .i64 0,.int .i64 3]) (by simp [results,Tryz.results195,Tryz.results255,Tryz.results329,Tryz.results292,go_sem]) rfl ⟨rfl,rfl⟩
theorem int.xS:fP:=sU.1
theorem list.xS:fP:=sU.2.1
theorem tree.xS:fP:=sU.2.2.1
theorem row.xS:fP:=sU.2.2.2
def int.eR:Prop:=∀ {σ:Type} {R:SR σ} {L:Lt} {S:Nat→Prop} {E:aK σ} {w:World} {t:Nat} (_h:RE R L S E w) (_ht:t<L.n) (_hp:(E.th t).phase=0),Calls Tryz.prog 195 #[.pointer (some ⟨L.bE,0,none⟩),.int .i64 (t:Int)] w fun e w'=>e = .returned (.tuple #[.int .i64 0,.int .i64 5])∧w'=w
def list.eR:Prop:=∀ {σ:Type} {R:SR σ} {L:Lt} {S:Nat→Prop} {E:aK σ} {w:World} {t:Nat} (_h:RE R L S E w) (_ht:t<L.n) (_hp:(E.th t).phase=0),Calls Tryz.prog 255 #[.pointer (some ⟨L.bE,0,none⟩),.int .i64 (t:Int)] w fun e w'=>e = .returned (.tuple #[.int .i64 0,.int .i64 5])∧w'=w
def tree.eR:Prop:=∀ {σ:Type} {R:SR σ} {L:Lt} {S:Nat→Prop} {E:aK σ} {w:World} {t:Nat} (_h:RE R L S E w) (_ht:t<L.n) (_hp:(E.th t).phase=0),Calls Tryz.prog 329 #[.pointer (some ⟨L.bE,0,none⟩),.int .i64 (t:Int)] w fun e w'=>e = .returned (.tuple #[.int .i64 0,.int .i64 5])∧w'=w
def row.eR:Prop:=∀ {σ:Type} {R:SR σ} {L:Lt} {S:Nat→Prop} {E:aK σ} {w:World} {t:Nat} (_h:RE R L S E w) (_ht:t<L.n) (_hp:(E.th t).phase=0),Calls Tryz.prog 292 #[.pointer (some ⟨L.bE,0,none⟩),.int .i64 (t:Int)] w fun e w'=>e = .returned (.tuple #[.int .i64 0,.int .i64 5])∧w'=w
open row in
theorem qN:int.eR∧list.eR∧tree.eR∧row.eR:=by
 refine ⟨@mkK _ 0 ?_,@mkK _ 1 ?_,@mkK _ 2 ?_,@mkK _ 3 ?_⟩<;>intro kk σ R L S E w t h ht hp
 all_goals
  have HH:=aA h
  have HX:=aA (show decide (0≤(t:Int)∧(t:Int)<(L.n:Int))=true by simp;omega)
  have HP:=aA (show decide ((E.th t).phase≠0)=false by simpa using hp)
  have ht':(t:Int)<(L.n:Int):=by omega
  have c1:w.cell? ⟨L.bE,1,none⟩=some (.slice (some ⟨L.g,0,none⟩) L.n L.gc):=h.oQ.cell_of rfl
  clear h hp
  first|(have _:Kn 0:=kk;go_enter Tryz.func195,Tryz.ntmps195)|(have _:Kn 1:=kk;go_enter Tryz.func255,Tryz.ntmps255)|(have _:Kn 2:=kk;go_enter Tryz.func329,Tryz.ntmps329)|(have _:Kn 3:=kk;go_enter Tryz.func292,Tryz.ntmps292)
  go_wp2_with fail
  refine (qL HH.out (t:Int)).mono ?_
  rintro e w2 ⟨rfl,rfl⟩
  rw [HX.out]
  go_wp2_with fail
  refine (mD HH.out ht).mono ?_
  rintro e w3 ⟨rfl,rfl⟩
  rw [HP.out]
  go_wp2
  refine bodyPost_ret (v:=.tuple #[.int .i64 0,.int .i64 5]) (by simp [results,Tryz.results195,Tryz.results255,Tryz.results329,Tryz.results292,go_sem]) rfl ⟨rfl,rfl⟩
theorem int.vD:eR:=qN.1
theorem list.vD:eR:=qN.2.1
theorem tree.vD:eR:=qN.2.2.1
theorem row.vD:eR:=qN.2.2.2
def int.eS:Prop:=∀ {σ:Type} {R:SR σ} {L:Lt} {S:Nat→Prop} {E:aK σ} {w:World} {t:Nat} {P:M.Plain σ} {fA:Nat} {rv:Value} (_hA:bO R P L fA rv) (_h:RE R L S E w) (_ht:t<L.n) (_hC:cC L E t) (_hZ:(E.th t).phase=8→∀ v,(E.th t).now=some v→R.sz v.st≤1000000000000) (_h1:1≤(E.th t).phase) (_OE:(E.th t).phase≤13),Calls Tryz.prog 195 #[.pointer (some ⟨L.bE,0,none⟩),.int .i64 (t:Int)] w fun e w'=>e = .returned (.tuple #[.int .i64 (if ((M.step P L.n L.cap E t).th t).phase=0 then 2 else 1),.int .i64 0])∧aF R L S w (M.step P L.n L.cap E t) w'
def list.eS:Prop:=∀ {σ:Type} {R:SR σ} {L:Lt} {S:Nat→Prop} {E:aK σ} {w:World} {t:Nat} {P:M.Plain σ} {fA:Nat} {rv:Value} (_hA:bO R P L fA rv) (_h:RE R L S E w) (_ht:t<L.n) (_hC:cC L E t) (_hZ:(E.th t).phase=8→∀ v,(E.th t).now=some v→R.sz v.st≤1000000000000) (_h1:1≤(E.th t).phase) (_OE:(E.th t).phase≤13),Calls Tryz.prog 255 #[.pointer (some ⟨L.bE,0,none⟩),.int .i64 (t:Int)] w fun e w'=>e = .returned (.tuple #[.int .i64 (if ((M.step P L.n L.cap E t).th t).phase=0 then 2 else 1),.int .i64 0])∧aF R L S w (M.step P L.n L.cap E t) w'
def tree.eS:Prop:=∀ {σ:Type} {R:SR σ} {L:Lt} {S:Nat→Prop} {E:aK σ} {w:World} {t:Nat} {P:M.Plain σ} {fA:Nat} {rv:Value} (_hA:bO R P L fA rv) (_h:RE R L S E w) (_ht:t<L.n) (_hC:cC L E t) (_hZ:(E.th t).phase=8→∀ v,(E.th t).now=some v→R.sz v.st≤1000000000000) (_h1:1≤(E.th t).phase) (_OE:(E.th t).phase≤13),Calls Tryz.prog 329 #[.pointer (some ⟨L.bE,0,none⟩),.int .i64 (t:Int)] w fun e w'=>e = .returned (.tuple #[.int .i64 (if ((M.step P L.n L.cap E t).th t).phase=0 then 2 else 1),.int .i64 0])∧aF R L S w (M.step P L.n L.cap E t) w'
def row.eS:Prop:=∀ {σ:Type} {R:SR σ} {L:Lt} {S:Nat→Prop} {E:aK σ} {w:World} {t:Nat} {P:M.Plain σ} {fA:Nat} {rv:Value} (_hA:bO R P L fA rv) (_h:RE R L S E w) (_ht:t<L.n) (_hC:cC L E t) (_hZ:(E.th t).phase=8→∀ v,(E.th t).now=some v→R.sz v.st≤1000000000000) (_h1:1≤(E.th t).phase) (_OE:(E.th t).phase≤13),Calls Tryz.prog 292 #[.pointer (some ⟨L.bE,0,none⟩),.int .i64 (t:Int)] w fun e w'=>e = .returned (.tuple #[.int .i64 (if ((M.step P L.n L.cap E t).th t).phase=0 then 2 else 1),.int .i64 0])∧aF R L S w (M.step P L.n L.cap E t) w'
open row in
theorem qO:int.eS∧list.eS∧tree.eS∧row.eS:=by
 refine ⟨@mkK _ 0 ?_,@mkK _ 1 ?_,@mkK _ 2 ?_,@mkK _ 3 ?_⟩<;>intro kk σ R L S E w t P fA rv hA h ht hC hZ h1 h13
 all_goals
  have HH:=aA h
  have HX:=aA (show decide (0≤(t:Int)∧(t:Int)<(L.n:Int))=true by simp;omega)
  have HP:=aA (show decide ((E.th t).phase≠0)=true by simp;omega)
  have HS:=aA (DJ hA h ht hC hZ h1 h13)
  have ht':(t:Int)<(L.n:Int):=by omega
  have c1:w.cell? ⟨L.bE,1,none⟩=some (.slice (some ⟨L.g,0,none⟩) L.n L.gc):=h.oQ.cell_of rfl
  clear h hA hC hZ h1 h13
  first|(have _:Kn 0:=kk;go_enter Tryz.func195,Tryz.ntmps195)|(have _:Kn 1:=kk;go_enter Tryz.func255,Tryz.ntmps255)|(have _:Kn 2:=kk;go_enter Tryz.func329,Tryz.ntmps329)|(have _:Kn 3:=kk;go_enter Tryz.func292,Tryz.ntmps292)
  go_wp2_with fail
  refine (qL HH.out (t:Int)).mono ?_
  rintro e w2 ⟨rfl,rfl⟩
  rw [HX.out]
  go_wp2_with fail
  refine (mD HH.out ht).mono ?_
  rintro e w3 ⟨rfl,rfl⟩
  rw [HP.out]
  go_wp2_with fail
  refine HS.out.mono ?_
  rintro e w4 ⟨rfl,hr⟩
  have HR:=aA hr
  have d1:w4.cell? ⟨L.bE,1,none⟩=some (.slice (some ⟨L.g,0,none⟩) L.n L.gc):=hr.re.oQ.cell_of rfl
  clear hr
  go_wp2_with fail
  refine (mD HR.out.re ht).mono ?_
  rintro e w5 ⟨rfl,rfl⟩
  by_cases q:((M.step P L.n L.cap E t).th t).phase=0
  ·have HQ:=aA (show decide (((M.step P L.n L.cap E t).th t).phase≠0)=false by simpa using q)
   rw [HQ.out]
   have HI:=aA q
   clear q
   go_wp2
   refine bodyPost_ret (v:=.tuple #[.int .i64 2,.int .i64 0]) (by simp [results,Tryz.results195,Tryz.results255,Tryz.results329,Tryz.results292,go_sem]) rfl ⟨rfl,HR.out⟩
  ·have HQ:=aA (show decide (((M.step P L.n L.cap E t).th t).phase≠0)=true by simpa using q)
   rw [HQ.out]
   have HI:=aA q
   clear q
   go_wp2
   refine bodyPost_ret (v:=.tuple #[.int .i64 1,.int .i64 0]) (by simp [results,Tryz.results195,Tryz.results255,Tryz.results329,Tryz.results292,go_sem]) rfl ⟨rfl,HR.out⟩
theorem int.vE:eS:=qO.1
theorem list.vE:eS:=qO.2.1
theorem tree.vE:eS:=qO.2.2.1
theorem row.vE:eS:=qO.2.2.2
end Go.Proofs.YtefjhnhdagolhaaGreat
