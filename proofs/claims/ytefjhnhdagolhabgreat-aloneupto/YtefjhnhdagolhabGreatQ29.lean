import Derived.Test.YtefjhnhdagolhabGreatQ28
import Derived.Test.YtefjhnhdagolhabGreatQ09
import Derived.Test.YtefjhnhdagolhabGreatQ07
set_option maxHeartbeats 4000000
set_option maxRecDepth 20000
namespace Go.Proofs.YtefjhnhdagolhabGreat
open int list tree
open Go.RowKit
open M (aH aC aE Op cY aS aK aT bJ aR aL aM)
def int.cF.CS:Prop:=∀ {σ:Type} {L:Lt} {E:aK σ} {Y:aT} {t:Nat} {P:M.Plain σ} (_hn:L.n≤64) (_hc:L.cap≤64) (_h:M.Inv P L.n L.cap E Y) (_hB:M.DS L.n E) (_hN:E.cZ≤1000000000) (_ht:t<L.n),cF L E t
def list.cF.CS:Prop:=∀ {σ:Type} {L:Lt} {E:aK σ} {Y:aT} {t:Nat} {P:M.Plain σ} (_hn:L.n≤64) (_hc:L.cap≤64) (_h:M.Inv P L.n L.cap E Y) (_hB:M.DS L.n E) (_hN:E.cZ≤1000000000) (_ht:t<L.n),cF L E t
def tree.cF.CS:Prop:=∀ {σ:Type} {L:Lt} {E:aK σ} {Y:aT} {t:Nat} {P:M.Plain σ} (_hn:L.n≤64) (_hc:L.cap≤64) (_h:M.Inv P L.n L.cap E Y) (_hB:M.DS L.n E) (_hN:E.cZ≤1000000000) (_ht:t<L.n),cF L E t
def row.cF.CS:Prop:=∀ {σ:Type} {L:Lt} {E:aK σ} {Y:aT} {t:Nat} {P:M.Plain σ} (_hn:L.n≤64) (_hc:L.cap≤64) (_h:M.Inv P L.n L.cap E Y) (_hB:M.DS L.n E) (_hN:E.cZ≤1000000000) (_ht:t<L.n),cF L E t
open row in
theorem uJ:int.cF.CS∧list.cF.CS∧tree.cF.CS∧row.cF.CS:=by
 refine ⟨?_,?_,?_,?_⟩<;>intro σ L E Y t P hn hc h hB hN ht
 all_goals
  obtain ⟨pb,nf,hp,G,T⟩:=h
  have X:=T t ht
  obtain ⟨b1,b2,b3⟩:=hB.th t ht
  have part:∀ p,1≤p→p≤10→(E.th t).phase=p→(Y.th t).part=p:=by
   intro p h1 SG hq
   by_cases q:(Y.th t).part=11
   ·have:=X.p4 q;omega
   ·have:=X.p2 (by have:=X.p1;omega);omega
  have len:∀ p,1≤p→p≤10→(E.th t).phase=p→(E.th t).past<(Y.th t).len L.n p:=by
   intro p h1 SG hq
   have a:=part p h1 SG hq
   have:=X.p3 (by omega) (by omega)
   rw [a] at this
   omega
  have hsp:(E.th t).spare<2*L.n+1:=by rcases X.sp with q|q<;>omega
  refine {N:=hN,st:=Nat.le_trans b3 hN,pr:=hB.pr,sr:=by omega,sp:=hsp,b:=by rw [X.bk];exact X.bc,p1:=?_,p2:=?_,p3:=?_,p5:=?_,p6:=?_,p7:=?_,p8:=?_,p9:=?_,ZO:=fun _=>b2}
  ·intro q;have:=len 1 (by omega) (by omega) q;simpa [bJ.len] using this
  ·intro q
   have e:E.bD (t / 16)=M.bits L.n (fun k=>(Y.th k).aN) (t / 16):=G.bD (t / 16) (by unfold M.tw;omega)
   rw [e]
   exact ⟨M.sX _ _ _,M.FE _ _ _⟩
  ·intro q
   have:=len 3 (by omega) (by omega) q
   have e:(Y.th t).len L.n 3=(Y.th t).aG:=by simp [bJ.len]
   have:=X.bc
   omega
  ·intro q
   have:=len 5 (by omega) (by omega) q
   have e:(Y.th t).len L.n 5=aR L.n+1:=by simp [bJ.len]
   have a:=part 5 (by omega) (by omega) q
   exact ⟨b1,by omega,(X.s1 (by omega) (by omega)).2.2.2.2.2.2.2⟩
  ·intro q
   have:=len 6 (by omega) (by omega) q
   have e:(Y.th t).len L.n 6=M.tw L.n:=by simp [bJ.len]
   omega
  ·intro q hs k hk
   have a:=part 7 (by omega) (by omega) q
   have hs':(E.th t).stamp=(M.view E Y pb nf).N:=by rw [←hs,hp];rfl
   have t7:=(X.t7 (by omega) (by omega)).1 k hk
   have d7:=(X.d7 (.inr a) hs').1 k (by unfold aR;omega)
   have c7:=G.QB k hk
   rw [t7,d7,c7]
   exact ⟨⟨M.sX _ _ _,M.FE _ _ _⟩,M.sX _ _ _,M.FE _ _ _⟩
  ·intro q
   have a:=part 8 (by omega) (by omega) q
   have l:=len 8 (by omega) (by omega) q
   have e:(Y.th t).len L.n 8=3*(Y.th t).aI.length:=by simp [bJ.len]
   obtain ⟨-,d1,d2⟩:=X.d6 (by omega) (by omega)
   obtain ⟨h1,h2,-⟩:=X.h8 (by omega) (by omega)
   have hl:(E.th t).past<3*(E.th t).aI.length:=by rw [h1];omega
   have hm:∀ k∈(E.th t).aI,k<L.n:=by
    intro k hk
    rw [h2] at hk
    exact List.mem_range.mp (List.mem_filter.mp hk).1
   refine ⟨?_,hl,?_,?_⟩
   ·obtain ⟨v,hv⟩:=Option.isSome_iff_exists.mp d1
    obtain ⟨f,hf⟩:=Option.isSome_iff_exists.mp d2
    exact ⟨v,f,hv,hf⟩
   ·rw [h2]
    refine Nat.le_trans (List.length_filter_le _ _) ?_
    rw [List.length_range]
    exact hn
   ·have hi:(E.th t).past / 3<(E.th t).aI.length:=by omega
    rw [List.getD_eq_getElem?_getD,List.getElem?_eq_getElem hi]
    exact hm _ (List.getElem_mem hi)
  ·intro q
   have:=len 9 (by omega) (by omega) q
   have e:(Y.th t).len L.n 9=aR L.n+1:=by simp [bJ.len]
   have a:=part 9 (by omega) (by omega) q
   obtain ⟨-,d1,d2⟩:=X.d6 (by omega) (by omega)
   exact ⟨hsp,by omega,d1,d2⟩
theorem int.cF.of:CS:=uJ.1
theorem list.cF.of:CS:=uJ.2.1
theorem tree.cF.of:CS:=uJ.2.2.1
theorem row.cF.of:CS:=uJ.2.2.2
attribute [local go_sem ↓] Go.wp_at_zero Go.wp_at_succ
theorem int.qV {σ:Type} {R:SR σ} {L:Lt} {S:Nat→Prop} {E:aK σ} {w:World} {t:Nat} (h:RE R L S E w) (ht:t<L.n) :
  Calls Tryz.prog 108 #[.pointer (some ⟨L.g,t*28,none⟩)] w fun e w'=>e = .returned (.bool (decide ((E.th t).phase≠0)))∧w'=w:=by
 obtain ⟨cv,cf,pv,hc,-,-,-,hf⟩:=h.cells ht rfl
 have c3:=hc 3 _ (by decide) rfl
 clear h hc hf
 go_enter Tryz.func108,Tryz.ntmps108
 go_wp2
 go_ret
 refine ⟨kX ?_,rfl⟩
 rw [Bool.eq_iff_iff]
 simp
theorem list.qV {σ:Type} {R:SR σ} {L:Lt} {S:Nat→Prop} {E:aK σ} {w:World} {t:Nat} (h:RE R L S E w) (ht:t<L.n) :
  Calls Tryz.prog 169 #[.pointer (some ⟨L.g,t*28,none⟩)] w fun e w'=>e = .returned (.bool (decide ((E.th t).phase≠0)))∧w'=w:=by
 obtain ⟨cv,cf,pv,hc,-,-,-,hf⟩:=h.cells ht rfl
 have c3:=hc 3 _ (by decide) rfl
 clear h hc hf
 go_enter Tryz.func169,Tryz.ntmps169
 go_wp2
 go_ret
 refine ⟨kX ?_,rfl⟩
 rw [Bool.eq_iff_iff]
 simp
theorem tree.qV {σ:Type} {R:SR σ} {L:Lt} {S:Nat→Prop} {E:aK σ} {w:World} {t:Nat} (h:RE R L S E w) (ht:t<L.n) :
  Calls Tryz.prog 243 #[.pointer (some ⟨L.g,t*28,none⟩)] w fun e w'=>e = .returned (.bool (decide ((E.th t).phase≠0)))∧w'=w:=by
 obtain ⟨cv,cf,pv,hc,-,-,-,hf⟩:=h.cells ht rfl
 have c3:=hc 3 _ (by decide) rfl
 clear h hc hf
 go_enter Tryz.func243,Tryz.ntmps243
 go_wp2
 go_ret
 refine ⟨kX ?_,rfl⟩
 rw [Bool.eq_iff_iff]
 simp
theorem row.qV {σ:Type} {R:SR σ} {L:Lt} {S:Nat→Prop} {E:aK σ} {w:World} {t:Nat} (h:RE R L S E w) (ht:t<L.n) :
  Calls Tryz.prog 206 #[.pointer (some ⟨L.g,t*30,none⟩)] w fun e w'=>e = .returned (.bool (decide ((E.th t).phase≠0)))∧w'=w:=by
 obtain ⟨cv,cf,pv,hc,-,-,-,hf⟩:=h.cells ht rfl
 have c3:=hc 3 _ (by decide) rfl
 clear h hc hf
 go_enter Tryz.func206,Tryz.ntmps206
 go_wp2
 go_ret
 refine ⟨kX ?_,rfl⟩
 rw [Bool.eq_iff_iff]
 simp
def int.lQ:Prop:=∀ {σ:Type} {R:SR σ} {L:Lt} {S:Nat→Prop} {E:aK σ} {w:World} (_h:RE R L S E w) (x:Int),Calls Tryz.prog 110 #[.pointer (some ⟨L.bE,0,none⟩),.int .i64 x] w fun e w'=>e = .returned (.bool (decide (0≤x∧x<L.n)))∧w'=w
def list.lQ:Prop:=∀ {σ:Type} {R:SR σ} {L:Lt} {S:Nat→Prop} {E:aK σ} {w:World} (_h:RE R L S E w) (x:Int),Calls Tryz.prog 168 #[.pointer (some ⟨L.bE,0,none⟩),.int .i64 x] w fun e w'=>e = .returned (.bool (decide (0≤x∧x<L.n)))∧w'=w
def tree.lQ:Prop:=∀ {σ:Type} {R:SR σ} {L:Lt} {S:Nat→Prop} {E:aK σ} {w:World} (_h:RE R L S E w) (x:Int),Calls Tryz.prog 242 #[.pointer (some ⟨L.bE,0,none⟩),.int .i64 x] w fun e w'=>e = .returned (.bool (decide (0≤x∧x<L.n)))∧w'=w
def row.lQ:Prop:=∀ {σ:Type} {R:SR σ} {L:Lt} {S:Nat→Prop} {E:aK σ} {w:World} (_h:RE R L S E w) (x:Int),Calls Tryz.prog 205 #[.pointer (some ⟨L.bE,0,none⟩),.int .i64 x] w fun e w'=>e = .returned (.bool (decide (0≤x∧x<L.n)))∧w'=w
open row in
theorem AO:int.lQ∧list.lQ∧tree.lQ∧row.lQ:=by
 refine ⟨@mkK _ 0 ?_,@mkK _ 1 ?_,@mkK _ 2 ?_,@mkK _ 3 ?_⟩<;>intro kk σ R L S E w h x
 all_goals
  have c1:w.cell? ⟨L.bE,1,none⟩=some (.slice (some ⟨L.g,0,none⟩) L.n L.gc):=h.qM.cell_of rfl
  clear h
  by_cases q:0≤x
  ·have hg:decide (x≥0)=true:=by simp [q]
   first|(have _:Kn 0:=kk;go_enter Tryz.func110,Tryz.ntmps110)|(have _:Kn 1:=kk;go_enter Tryz.func168,Tryz.ntmps168)|(have _:Kn 2:=kk;go_enter Tryz.func242,Tryz.ntmps242)|(have _:Kn 3:=kk;go_enter Tryz.func205,Tryz.ntmps205)
   go_wp2
   go_ret
   refine ⟨kX ?_,rfl⟩
   simp [q]
  ·first|(have _:Kn 0:=kk;go_enter Tryz.func110,Tryz.ntmps110)|(have _:Kn 1:=kk;go_enter Tryz.func168,Tryz.ntmps168)|(have _:Kn 2:=kk;go_enter Tryz.func242,Tryz.ntmps242)|(have _:Kn 3:=kk;go_enter Tryz.func205,Tryz.ntmps205)
   go_wp2
   go_ret
   refine ⟨kX ?_,rfl⟩
   simp
   omega
theorem int.tM:lQ:=AO.1
theorem list.tM:lQ:=AO.2.1
theorem tree.tM:lQ:=AO.2.2.1
theorem row.tM:lQ:=AO.2.2.2
def int.gX:Prop:=∀ {σ:Type} {R:SR σ} {L:Lt} {S:Nat→Prop} {E:aK σ} {w:World} {t:Nat} (_h:RE R L S E w) (_ht:t<L.n) (o:M.Op),Calls Tryz.prog 111 #[.pointer (some ⟨L.g,t*28,none⟩),.agg #[.int .i64 o.c,.int .i64 o.a,.int .i64 o.b]] w fun e w'=>e = .returned (.tuple #[])∧aF R L S w (M.begin E t o) w'
def list.gX:Prop:=∀ {σ:Type} {R:SR σ} {L:Lt} {S:Nat→Prop} {E:aK σ} {w:World} {t:Nat} (_h:RE R L S E w) (_ht:t<L.n) (o:M.Op),Calls Tryz.prog 171 #[.pointer (some ⟨L.g,t*28,none⟩),.agg #[.int .i64 o.c,.int .i64 o.a,.int .i64 o.b]] w fun e w'=>e = .returned (.tuple #[])∧aF R L S w (M.begin E t o) w'
def tree.gX:Prop:=∀ {σ:Type} {R:SR σ} {L:Lt} {S:Nat→Prop} {E:aK σ} {w:World} {t:Nat} (_h:RE R L S E w) (_ht:t<L.n) (o:M.Op),Calls Tryz.prog 245 #[.pointer (some ⟨L.g,t*28,none⟩),.agg #[.int .i64 o.c,.int .i64 o.a,.int .i64 o.b]] w fun e w'=>e = .returned (.tuple #[])∧aF R L S w (M.begin E t o) w'
def row.gX:Prop:=∀ {σ:Type} {R:SR σ} {L:Lt} {S:Nat→Prop} {E:aK σ} {w:World} {t:Nat} (_h:RE R L S E w) (_ht:t<L.n) (o:M.Op),Calls Tryz.prog 208 #[.pointer (some ⟨L.g,t*30,none⟩),.agg #[.int .i64 o.c,.int .i64 o.a,.int .i64 o.b]] w fun e w'=>e = .returned (.tuple #[])∧aF R L S w (M.begin E t o) w'
open row in
theorem uK:int.gX∧list.gX∧tree.gX∧row.gX:=by
 refine ⟨@mkK _ 0 ?_,@mkK _ 1 ?_,@mkK _ 2 ?_,@mkK _ 3 ?_⟩<;>intro kk σ R L S E w t h ht o
 all_goals
  have HH:=aA h
  clear h
  first|(have _:Kn 0:=kk;go_enter Tryz.func111,Tryz.ntmps111)|(have _:Kn 1:=kk;go_enter Tryz.func171,Tryz.ntmps171)|(have _:Kn 2:=kk;go_enter Tryz.func245,Tryz.ntmps245)|(have _:Kn 3:=kk;go_enter Tryz.func208,Tryz.ntmps208)
  go_upto_region 1 with fail
  generalize tG:World.alloc w _=W1
  have lW:Below w.heap.size w W1:=by rw [←tG];exact aB w _
  have hro:Row W1 w.heap.size 46 [.int .i64 o.c,.int .i64 o.a,.int .i64 o.b]:=by rw [←tG];exact Row.new w [_,_,_] _
  have o0:W1.cell? ⟨w.heap.size,0,none⟩=some (.int .i64 o.c):=hro.cell_of rfl
  have o1:W1.cell? ⟨w.heap.size,1,none⟩=some (.int .i64 o.a):=hro.cell_of rfl
  have o2:W1.cell? ⟨w.heap.size,2,none⟩=some (.int .i64 o.b):=hro.cell_of rfl
  have HL:=aA (aF.below HH.out lW)
  obtain ⟨cv,cf,pv,hc,-,-,-,hf⟩:=HL.out.re.cells ht rfl
  have c5:=hc 5 _ (by decide) rfl
  first|(have _:Kn 0:=kk;have c6:W1.cell? ⟨L.g,t*28+5+1,none⟩=some (.int .i64 (E.th t).op.a):=hc 6 _ (by decide) rfl)|(have _:Kn 1:=kk;have c6:W1.cell? ⟨L.g,t*28+5+1,none⟩=some (.int .i64 (E.th t).op.a):=hc 6 _ (by decide) rfl)|(have _:Kn 2:=kk;have c6:W1.cell? ⟨L.g,t*28+5+1,none⟩=some (.int .i64 (E.th t).op.a):=hc 6 _ (by decide) rfl)|(have _:Kn 3:=kk;have c6:W1.cell? ⟨L.g,t*30+5+1,none⟩=some (.int .i64 (E.th t).op.a):=hc 6 _ (by decide) rfl)
  first|(have _:Kn 0:=kk;have c7:W1.cell? ⟨L.g,t*28+5+2,none⟩=some (.int .i64 (E.th t).op.b):=hc 7 _ (by decide) rfl)|(have _:Kn 1:=kk;have c7:W1.cell? ⟨L.g,t*28+5+2,none⟩=some (.int .i64 (E.th t).op.b):=hc 7 _ (by decide) rfl)|(have _:Kn 2:=kk;have c7:W1.cell? ⟨L.g,t*28+5+2,none⟩=some (.int .i64 (E.th t).op.b):=hc 7 _ (by decide) rfl)|(have _:Kn 3:=kk;have c7:W1.cell? ⟨L.g,t*30+5+2,none⟩=some (.int .i64 (E.th t).op.b):=hc 7 _ (by decide) rfl)
  have c10:=hc 10 _ (by decide) rfl
  first|(have _:Kn 0:=kk;have f5:=hf (t*28+5))|(have _:Kn 1:=kk;have f5:=hf (t*28+5))|(have _:Kn 2:=kk;have f5:=hf (t*28+5))|(have _:Kn 3:=kk;have f5:=hf (t*30+5))
  first|(have _:Kn 0:=kk;have f6:=hf (t*28+5+1))|(have _:Kn 1:=kk;have f6:=hf (t*28+5+1))|(have _:Kn 2:=kk;have f6:=hf (t*28+5+1))|(have _:Kn 3:=kk;have f6:=hf (t*30+5+1))
  first|(have _:Kn 0:=kk;have f7:=hf (t*28+5+2))|(have _:Kn 1:=kk;have f7:=hf (t*28+5+2))|(have _:Kn 2:=kk;have f7:=hf (t*28+5+2))|(have _:Kn 3:=kk;have f7:=hf (t*30+5+2))
  first|(have _:Kn 0:=kk;have f10:=hf (t*28+10))|(have _:Kn 1:=kk;have f10:=hf (t*28+10))|(have _:Kn 2:=kk;have f10:=hf (t*28+10))|(have _:Kn 3:=kk;have f10:=hf (t*30+10))
  obtain ⟨h1,k1⟩:=HL.out.re.fM ht 5 (by decide) (.int .i64 o.c) {E.th t with op:=⟨o.c,(E.th t).op.a,(E.th t).op.b⟩} rfl rfl rfl rfl rfl (by intros;rfl)
  obtain ⟨h2,k2⟩:=h1.fM ht 6 (by decide) (.int .i64 o.a) {E.th t with op:=⟨o.c,o.a,(E.th t).op.b⟩} (by simp [aC]) (by simp [aC]) (by simp [aC]) (by simp [aC]) (by simp [aC]) (by intros;simp only [aC];rfl)
  obtain ⟨h3,k3⟩:=h2.fM ht 7 (by decide) (.int .i64 o.b) {E.th t with op:=⟨o.c,o.a,o.b⟩} (by simp [aC]) (by simp [aC]) (by simp [aC]) (by simp [aC]) (by simp [aC]) (by intros;simp only [aC];rfl)
  obtain ⟨h4,k4⟩:=h3.fM ht 10 (by decide) (.bool false) {E.th t with op:=⟨o.c,o.a,o.b⟩,again:=false} (by simp [aC]) (by simp [aC]) (by simp [aC]) (by simp [aC]) (by simp [aC]) (by intros;simp only [aC];rfl)
  have H4:=aA h4
  have K4:=aA (((k1.trans k2).trans k3).trans k4)
  clear tG lW hro hc hf h1 h2 h3 h4 k1 k2 k3 k4
  go_wp2_with fail
  refine (fZ H4.out ht 1).mono ?_
  rintro e w5 ⟨rfl,r5,k5⟩
  have HR:=aA (HL.out.next (aF.of r5 (K4.out.trans k5) rfl))
  clear r5 k5
  go_wp2
  refine bodyPost_end (v:=.tuple #[]) (by simp [results,Tryz.results111,Tryz.results171,Tryz.results245,Tryz.results208,go_sem]) rfl ⟨rfl,HR.out.cast ?_⟩
  unfold M.begin
  simp only [bR,aC]
theorem int.AP:gX:=uK.1
theorem list.AP:gX:=uK.2.1
theorem tree.AP:gX:=uK.2.2.1
theorem row.AP:gX:=uK.2.2.2
end Go.Proofs.YtefjhnhdagolhabGreat
namespace Go.Proofs.YtefjhnhdagolhabGreat
open int list tree
open Go.RowKit
open M (aH aC aE cY aS aK aT bJ aR aL aM)
attribute [local go_sem ↓] Go.wp_at_zero Go.wp_at_succ
def int.eR:Prop:=∀ {σ:Type} {R:SR σ} {L:Lt} {S:Nat→Prop} {E:aK σ} {w:World} (_h:RE R L S E w) (x:Int) (_hx:¬(0≤x∧x<L.n)) (o:M.Op),Calls Tryz.prog 102 #[.pointer (some ⟨L.bE,0,none⟩),.int .i64 x,.agg #[.int .i64 o.c,.int .i64 o.a,.int .i64 o.b]] w fun e w'=>e = .returned (.int .i64 3)∧aF R L S w E w'
def list.eR:Prop:=∀ {σ:Type} {R:SR σ} {L:Lt} {S:Nat→Prop} {E:aK σ} {w:World} (_h:RE R L S E w) (x:Int) (_hx:¬(0≤x∧x<L.n)) (o:M.Op),Calls Tryz.prog 162 #[.pointer (some ⟨L.bE,0,none⟩),.int .i64 x,.agg #[.int .i64 o.c,.int .i64 o.a,.int .i64 o.b]] w fun e w'=>e = .returned (.int .i64 3)∧aF R L S w E w'
def tree.eR:Prop:=∀ {σ:Type} {R:SR σ} {L:Lt} {S:Nat→Prop} {E:aK σ} {w:World} (_h:RE R L S E w) (x:Int) (_hx:¬(0≤x∧x<L.n)) (o:M.Op),Calls Tryz.prog 236 #[.pointer (some ⟨L.bE,0,none⟩),.int .i64 x,.agg #[.int .i64 o.c,.int .i64 o.a,.int .i64 o.b]] w fun e w'=>e = .returned (.int .i64 3)∧aF R L S w E w'
def row.eR:Prop:=∀ {σ:Type} {R:SR σ} {L:Lt} {S:Nat→Prop} {E:aK σ} {w:World} (_h:RE R L S E w) (x:Int) (_hx:¬(0≤x∧x<L.n)) (o:M.Op),Calls Tryz.prog 199 #[.pointer (some ⟨L.bE,0,none⟩),.int .i64 x,.agg #[.int .i64 o.c,.int .i64 o.a,.int .i64 o.b]] w fun e w'=>e = .returned (.int .i64 3)∧aF R L S w E w'
open row in
theorem qA:int.eR∧list.eR∧tree.eR∧row.eR:=by
 refine ⟨@mkK _ 0 ?_,@mkK _ 1 ?_,@mkK _ 2 ?_,@mkK _ 3 ?_⟩<;>intro kk σ R L S E w h x hx o
 all_goals
  have HH:=aA h
  have HX:=aA (show decide (0≤x∧x<(L.n:Int))=false by simpa using hx)
  clear h hx
  first|(have _:Kn 0:=kk;go_enter Tryz.func102,Tryz.ntmps102)|(have _:Kn 1:=kk;go_enter Tryz.func162,Tryz.ntmps162)|(have _:Kn 2:=kk;go_enter Tryz.func236,Tryz.ntmps236)|(have _:Kn 3:=kk;go_enter Tryz.func199,Tryz.ntmps199)
  go_upto_region 1 with fail
  generalize tG:World.alloc w _=W1
  have lW:Below w.heap.size w W1:=by rw [←tG];exact aB w _
  have HL:=aA (aF.below HH.out lW)
  clear tG lW
  go_wp2_with fail
  refine (tM HL.out.re x).mono ?_
  rintro e w2 ⟨rfl,rfl⟩
  rw [HX.out]
  go_wp2
  go_ret
  exact ⟨rfl,HL.out⟩
theorem int.uL:eR:=qA.1
theorem list.uL:eR:=qA.2.1
theorem tree.uL:eR:=qA.2.2.1
theorem row.uL:eR:=qA.2.2.2
def int.dZ:Prop:=∀ {σ:Type} {R:SR σ} {L:Lt} {S:Nat→Prop} {E:aK σ} {w:World} {t:Nat} (_h:RE R L S E w) (_ht:t<L.n) (_hp:(E.th t).phase≠0) (o:M.Op),Calls Tryz.prog 102 #[.pointer (some ⟨L.bE,0,none⟩),.int .i64 (t:Int),.agg #[.int .i64 o.c,.int .i64 o.a,.int .i64 o.b]] w fun e w'=>e = .returned (.int .i64 4)∧aF R L S w E w'
def list.dZ:Prop:=∀ {σ:Type} {R:SR σ} {L:Lt} {S:Nat→Prop} {E:aK σ} {w:World} {t:Nat} (_h:RE R L S E w) (_ht:t<L.n) (_hp:(E.th t).phase≠0) (o:M.Op),Calls Tryz.prog 162 #[.pointer (some ⟨L.bE,0,none⟩),.int .i64 (t:Int),.agg #[.int .i64 o.c,.int .i64 o.a,.int .i64 o.b]] w fun e w'=>e = .returned (.int .i64 4)∧aF R L S w E w'
def tree.dZ:Prop:=∀ {σ:Type} {R:SR σ} {L:Lt} {S:Nat→Prop} {E:aK σ} {w:World} {t:Nat} (_h:RE R L S E w) (_ht:t<L.n) (_hp:(E.th t).phase≠0) (o:M.Op),Calls Tryz.prog 236 #[.pointer (some ⟨L.bE,0,none⟩),.int .i64 (t:Int),.agg #[.int .i64 o.c,.int .i64 o.a,.int .i64 o.b]] w fun e w'=>e = .returned (.int .i64 4)∧aF R L S w E w'
def row.dZ:Prop:=∀ {σ:Type} {R:SR σ} {L:Lt} {S:Nat→Prop} {E:aK σ} {w:World} {t:Nat} (_h:RE R L S E w) (_ht:t<L.n) (_hp:(E.th t).phase≠0) (o:M.Op),Calls Tryz.prog 199 #[.pointer (some ⟨L.bE,0,none⟩),.int .i64 (t:Int),.agg #[.int .i64 o.c,.int .i64 o.a,.int .i64 o.b]] w fun e w'=>e = .returned (.int .i64 4)∧aF R L S w E w'
open row in
theorem nW:int.dZ∧list.dZ∧tree.dZ∧row.dZ:=by
 refine ⟨@mkK _ 0 ?_,@mkK _ 1 ?_,@mkK _ 2 ?_,@mkK _ 3 ?_⟩<;>intro kk σ R L S E w t h ht hp o
 all_goals
  have HH:=aA h
  have HX:=aA (show decide (0≤(t:Int)∧(t:Int)<(L.n:Int))=true by simp;omega)
  have HP:=aA (show decide ((E.th t).phase≠0)=true by simpa using hp)
  have ht':(t:Int)<(L.n:Int):=by omega
  clear h hp
  first|(have _:Kn 0:=kk;go_enter Tryz.func102,Tryz.ntmps102)|(have _:Kn 1:=kk;go_enter Tryz.func162,Tryz.ntmps162)|(have _:Kn 2:=kk;go_enter Tryz.func236,Tryz.ntmps236)|(have _:Kn 3:=kk;go_enter Tryz.func199,Tryz.ntmps199)
  go_upto_region 1 with fail
  generalize tG:World.alloc w _=W1
  have lW:Below w.heap.size w W1:=by rw [←tG];exact aB w _
  have HL:=aA (aF.below HH.out lW)
  have c1:W1.cell? ⟨L.bE,1,none⟩=some (.slice (some ⟨L.g,0,none⟩) L.n L.gc):=HL.out.re.qM.cell_of rfl
  clear tG lW
  go_wp2_with fail
  refine (tM HL.out.re (t:Int)).mono ?_
  rintro e w2 ⟨rfl,rfl⟩
  rw [HX.out]
  go_wp2_with fail
  refine (qV HL.out.re ht).mono ?_
  rintro e w3 ⟨rfl,rfl⟩
  rw [HP.out]
  go_wp2
  go_ret
  exact ⟨rfl,HL.out⟩
theorem int.sF:dZ:=nW.1
theorem list.sF:dZ:=nW.2.1
theorem tree.sF:dZ:=nW.2.2.1
theorem row.sF:dZ:=nW.2.2.2
def int.eA:Prop:=∀ {σ:Type} {R:SR σ} {L:Lt} {S:Nat→Prop} {E:aK σ} {w:World} {t:Nat} (_h:RE R L S E w) (_ht:t<L.n) (_hp:(E.th t).phase=0) (o:M.Op),Calls Tryz.prog 102 #[.pointer (some ⟨L.bE,0,none⟩),.int .i64 (t:Int),.agg #[.int .i64 o.c,.int .i64 o.a,.int .i64 o.b]] w fun e w'=>e = .returned (.int .i64 0)∧aF R L S w (M.begin E t o) w'
def list.eA:Prop:=∀ {σ:Type} {R:SR σ} {L:Lt} {S:Nat→Prop} {E:aK σ} {w:World} {t:Nat} (_h:RE R L S E w) (_ht:t<L.n) (_hp:(E.th t).phase=0) (o:M.Op),Calls Tryz.prog 162 #[.pointer (some ⟨L.bE,0,none⟩),.int .i64 (t:Int),.agg #[.int .i64 o.c,.int .i64 o.a,.int .i64 o.b]] w fun e w'=>e = .returned (.int .i64 0)∧aF R L S w (M.begin E t o) w'
def tree.eA:Prop:=∀ {σ:Type} {R:SR σ} {L:Lt} {S:Nat→Prop} {E:aK σ} {w:World} {t:Nat} (_h:RE R L S E w) (_ht:t<L.n) (_hp:(E.th t).phase=0) (o:M.Op),Calls Tryz.prog 236 #[.pointer (some ⟨L.bE,0,none⟩),.int .i64 (t:Int),.agg #[.int .i64 o.c,.int .i64 o.a,.int .i64 o.b]] w fun e w'=>e = .returned (.int .i64 0)∧aF R L S w (M.begin E t o) w'
def row.eA:Prop:=∀ {σ:Type} {R:SR σ} {L:Lt} {S:Nat→Prop} {E:aK σ} {w:World} {t:Nat} (_h:RE R L S E w) (_ht:t<L.n) (_hp:(E.th t).phase=0) (o:M.Op),Calls Tryz.prog 199 #[.pointer (some ⟨L.bE,0,none⟩),.int .i64 (t:Int),.agg #[.int .i64 o.c,.int .i64 o.a,.int .i64 o.b]] w fun e w'=>e = .returned (.int .i64 0)∧aF R L S w (M.begin E t o) w'
open row in
theorem nY:int.eA∧list.eA∧tree.eA∧row.eA:=by
 refine ⟨@mkK _ 0 ?_,@mkK _ 1 ?_,@mkK _ 2 ?_,@mkK _ 3 ?_⟩<;>intro kk σ R L S E w t h ht hp o
 all_goals
  have HH:=aA h
  have HX:=aA (show decide (0≤(t:Int)∧(t:Int)<(L.n:Int))=true by simp;omega)
  have HP:=aA (show decide ((E.th t).phase≠0)=false by simpa using hp)
  have ht':(t:Int)<(L.n:Int):=by omega
  clear h hp
  first|(have _:Kn 0:=kk;go_enter Tryz.func102,Tryz.ntmps102)|(have _:Kn 1:=kk;go_enter Tryz.func162,Tryz.ntmps162)|(have _:Kn 2:=kk;go_enter Tryz.func236,Tryz.ntmps236)|(have _:Kn 3:=kk;go_enter Tryz.func199,Tryz.ntmps199)
  go_upto_region 1 with fail
  generalize tG:World.alloc w _=W1
  have lW:Below w.heap.size w W1:=by rw [←tG];exact aB w _
  have hro:Row W1 w.heap.size 46 [.int .i64 o.c,.int .i64 o.a,.int .i64 o.b]:=by rw [←tG];exact Row.new w [_,_,_] _
  have o0:W1.cell? ⟨w.heap.size,0,none⟩=some (.int .i64 o.c):=hro.cell_of rfl
  have o1:W1.cell? ⟨w.heap.size,1,none⟩=some (.int .i64 o.a):=hro.cell_of rfl
  have o2:W1.cell? ⟨w.heap.size,2,none⟩=some (.int .i64 o.b):=hro.cell_of rfl
  have HL:=aA (aF.below HH.out lW)
  have c1:W1.cell? ⟨L.bE,1,none⟩=some (.slice (some ⟨L.g,0,none⟩) L.n L.gc):=HL.out.re.qM.cell_of rfl
  clear tG lW hro
  go_wp2_with fail
  refine (tM HL.out.re (t:Int)).mono ?_
  rintro e w2 ⟨rfl,rfl⟩
  rw [HX.out]
  go_wp2_with fail
  refine (qV HL.out.re ht).mono ?_
  rintro e w3 ⟨rfl,rfl⟩
  rw [HP.out]
  go_upto_region 5 with fail
  have HB:=aA (AP (HL.out.re.drew) ht o)
  first|(have _:Kn 0:=kk;go_region_with (go_at_call 111;refine HB.out.mono ?_;rintro e w4 ⟨rfl,hr⟩;have HR:=aA hr;clear hr))|(have _:Kn 1:=kk;go_region_with (go_at_call 171;refine HB.out.mono ?_;rintro e w4 ⟨rfl,hr⟩;have HR:=aA hr;clear hr))|(have _:Kn 2:=kk;go_region_with (go_at_call 245;refine HB.out.mono ?_;rintro e w4 ⟨rfl,hr⟩;have HR:=aA hr;clear hr))|(have _:Kn 3:=kk;go_region_with (go_at_call 208;refine HB.out.mono ?_;rintro e w4 ⟨rfl,hr⟩;have HR:=aA hr;clear hr))
  all_goals go_wp2
  all_goals go_ret
  all_goals exact ⟨rfl,HL.out.next ⟨HR.out.re,(Fr.refl _ _).drew.trans HR.out.fr⟩⟩
theorem int.sG:eA:=nY.1
theorem list.sG:eA:=nY.2.1
theorem tree.sG:eA:=nY.2.2.1
theorem row.sG:eA:=nY.2.2.2
def int.eB:Prop:=∀ {σ:Type} {R:SR σ} {L:Lt} {S:Nat→Prop} {E:aK σ} {w:World} (_h:RE R L S E w) (x:Int) (_hx:¬(0≤x∧x<L.n)),Calls Tryz.prog 101 #[.pointer (some ⟨L.bE,0,none⟩),.int .i64 x] w fun e w'=>e = .returned (.tuple #[.agg #[.int .i64 0,.int .i64 0],.int .i64 3])∧Below w.heap.size w w'
def list.eB:Prop:=∀ {σ:Type} {R:SR σ} {L:Lt} {S:Nat→Prop} {E:aK σ} {w:World} (_h:RE R L S E w) (x:Int) (_hx:¬(0≤x∧x<L.n)),Calls Tryz.prog 161 #[.pointer (some ⟨L.bE,0,none⟩),.int .i64 x] w fun e w'=>e = .returned (.tuple #[.agg #[.int .i64 0,.int .i64 0],.int .i64 3])∧Below w.heap.size w w'
def tree.eB:Prop:=∀ {σ:Type} {R:SR σ} {L:Lt} {S:Nat→Prop} {E:aK σ} {w:World} (_h:RE R L S E w) (x:Int) (_hx:¬(0≤x∧x<L.n)),Calls Tryz.prog 235 #[.pointer (some ⟨L.bE,0,none⟩),.int .i64 x] w fun e w'=>e = .returned (.tuple #[.agg #[.int .i64 0,.int .i64 0],.int .i64 3])∧Below w.heap.size w w'
def row.eB:Prop:=∀ {σ:Type} {R:SR σ} {L:Lt} {S:Nat→Prop} {E:aK σ} {w:World} (_h:RE R L S E w) (x:Int) (_hx:¬(0≤x∧x<L.n)),Calls Tryz.prog 198 #[.pointer (some ⟨L.bE,0,none⟩),.int .i64 x] w fun e w'=>e = .returned (.tuple #[.agg #[.int .i64 0,.int .i64 0],.int .i64 3])∧Below w.heap.size w w'
open row in
theorem nZ:int.eB∧list.eB∧tree.eB∧row.eB:=by
 refine ⟨@mkK _ 0 ?_,@mkK _ 1 ?_,@mkK _ 2 ?_,@mkK _ 3 ?_⟩<;>intro kk σ R L S E w h x hx
 all_goals
  have HH:=aA (fun ob=>tM (h.below (aB w ob)) x)
  have HX:=aA (show decide (0≤x∧x<(L.n:Int))=false by simpa using hx)
  clear h hx
  first|(have _:Kn 0:=kk;go_enter Tryz.func101,Tryz.ntmps101)|(have _:Kn 1:=kk;go_enter Tryz.func161,Tryz.ntmps161)|(have _:Kn 2:=kk;go_enter Tryz.func235,Tryz.ntmps235)|(have _:Kn 3:=kk;go_enter Tryz.func198,Tryz.ntmps198)
  go_wp2_with fail
  refine (HH.out _).mono ?_
  rintro e w1 ⟨rfl,rfl⟩
  rw [HX.out]
  go_wp2_with fail
  exact bodyPost_ret (v:=.tuple #[.agg #[.int .i64 0,.int .i64 0],.int .i64 3]) (by simp [results,Tryz.results101,Tryz.results161,Tryz.results235,Tryz.results198,go_sem]) rfl ⟨rfl,(by repeat (first|exact Below.refl _ _|assumption|refine Below.drewN ?_ _|refine Below.alloc ?_ (by simp) _))⟩
theorem int.sH:eB:=nZ.1
theorem list.sH:eB:=nZ.2.1
theorem tree.sH:eB:=nZ.2.2.1
theorem row.sH:eB:=nZ.2.2.2
def int.dJ:Prop:=∀ {σ:Type} {R:SR σ} {L:Lt} {S:Nat→Prop} {E:aK σ} {w:World} {t:Nat} (_h:RE R L S E w) (_ht:t<L.n) (_hp:(E.th t).phase≠0),Calls Tryz.prog 101 #[.pointer (some ⟨L.bE,0,none⟩),.int .i64 (t:Int)] w fun e w'=>e = .returned (.tuple #[.agg #[.int .i64 0,.int .i64 0],.int .i64 4])∧Below w.heap.size w w'
def list.dJ:Prop:=∀ {σ:Type} {R:SR σ} {L:Lt} {S:Nat→Prop} {E:aK σ} {w:World} {t:Nat} (_h:RE R L S E w) (_ht:t<L.n) (_hp:(E.th t).phase≠0),Calls Tryz.prog 161 #[.pointer (some ⟨L.bE,0,none⟩),.int .i64 (t:Int)] w fun e w'=>e = .returned (.tuple #[.agg #[.int .i64 0,.int .i64 0],.int .i64 4])∧Below w.heap.size w w'
def tree.dJ:Prop:=∀ {σ:Type} {R:SR σ} {L:Lt} {S:Nat→Prop} {E:aK σ} {w:World} {t:Nat} (_h:RE R L S E w) (_ht:t<L.n) (_hp:(E.th t).phase≠0),Calls Tryz.prog 235 #[.pointer (some ⟨L.bE,0,none⟩),.int .i64 (t:Int)] w fun e w'=>e = .returned (.tuple #[.agg #[.int .i64 0,.int .i64 0],.int .i64 4])∧Below w.heap.size w w'
def row.dJ:Prop:=∀ {σ:Type} {R:SR σ} {L:Lt} {S:Nat→Prop} {E:aK σ} {w:World} {t:Nat} (_h:RE R L S E w) (_ht:t<L.n) (_hp:(E.th t).phase≠0),Calls Tryz.prog 198 #[.pointer (some ⟨L.bE,0,none⟩),.int .i64 (t:Int)] w fun e w'=>e = .returned (.tuple #[.agg #[.int .i64 0,.int .i64 0],.int .i64 4])∧Below w.heap.size w w'
open row in
theorem mJ:int.dJ∧list.dJ∧tree.dJ∧row.dJ:=by
 refine ⟨@mkK _ 0 ?_,@mkK _ 1 ?_,@mkK _ 2 ?_,@mkK _ 3 ?_⟩<;>intro kk σ R L S E w t h ht hp
 all_goals
  have HH:=aA (fun ob=>tM (h.below (aB w ob)) (t:Int))
  have HB:=aA (fun ob=>qV (h.below (aB w ob)) ht)
  have HX:=aA (show decide (0≤(t:Int)∧(t:Int)<(L.n:Int))=true by simp;omega)
  have HP:=aA (show decide ((E.th t).phase≠0)=true by simpa using hp)
  have hc:w.cell? ⟨L.bE,1,none⟩=some (.slice (some ⟨L.g,0,none⟩) L.n L.gc):=h.qM.cell_of rfl
  have LQ:=fun ob=>dM hc ob
  have ht':(t:Int)<(L.n:Int):=by omega
  clear h hp
  first|(have _:Kn 0:=kk;go_enter Tryz.func101,Tryz.ntmps101)|(have _:Kn 1:=kk;go_enter Tryz.func161,Tryz.ntmps161)|(have _:Kn 2:=kk;go_enter Tryz.func235,Tryz.ntmps235)|(have _:Kn 3:=kk;go_enter Tryz.func198,Tryz.ntmps198)
  go_wp2_with fail
  refine (HH.out _).mono ?_
  rintro e w1 ⟨rfl,rfl⟩
  rw [HX.out]
  go_wp2_with fail
  refine (HB.out _).mono ?_
  rintro e w1 ⟨rfl,rfl⟩
  rw [HP.out]
  go_wp2_with fail
  exact bodyPost_ret (v:=.tuple #[.agg #[.int .i64 0,.int .i64 0],.int .i64 4]) (by simp [results,Tryz.results101,Tryz.results161,Tryz.results235,Tryz.results198,go_sem]) rfl ⟨rfl,(by repeat (first|exact Below.refl _ _|assumption|refine Below.drewN ?_ _|refine Below.alloc ?_ (by simp) _))⟩
theorem int.qB:dJ:=mJ.1
theorem list.qB:dJ:=mJ.2.1
theorem tree.qB:dJ:=mJ.2.2.1
theorem row.qB:dJ:=mJ.2.2.2
def int.dK:Prop:=∀ {σ:Type} {R:SR σ} {L:Lt} {S:Nat→Prop} {E:aK σ} {w:World} {t:Nat} (_h:RE R L S E w) (_ht:t<L.n) (_hp:(E.th t).phase=0) (_he:(E.th t).ended=false),Calls Tryz.prog 101 #[.pointer (some ⟨L.bE,0,none⟩),.int .i64 (t:Int)] w fun e w'=>e = .returned (.tuple #[.agg #[.int .i64 0,.int .i64 0],.int .i64 5])∧Below w.heap.size w w'
def list.dK:Prop:=∀ {σ:Type} {R:SR σ} {L:Lt} {S:Nat→Prop} {E:aK σ} {w:World} {t:Nat} (_h:RE R L S E w) (_ht:t<L.n) (_hp:(E.th t).phase=0) (_he:(E.th t).ended=false),Calls Tryz.prog 161 #[.pointer (some ⟨L.bE,0,none⟩),.int .i64 (t:Int)] w fun e w'=>e = .returned (.tuple #[.agg #[.int .i64 0,.int .i64 0],.int .i64 5])∧Below w.heap.size w w'
def tree.dK:Prop:=∀ {σ:Type} {R:SR σ} {L:Lt} {S:Nat→Prop} {E:aK σ} {w:World} {t:Nat} (_h:RE R L S E w) (_ht:t<L.n) (_hp:(E.th t).phase=0) (_he:(E.th t).ended=false),Calls Tryz.prog 235 #[.pointer (some ⟨L.bE,0,none⟩),.int .i64 (t:Int)] w fun e w'=>e = .returned (.tuple #[.agg #[.int .i64 0,.int .i64 0],.int .i64 5])∧Below w.heap.size w w'
def row.dK:Prop:=∀ {σ:Type} {R:SR σ} {L:Lt} {S:Nat→Prop} {E:aK σ} {w:World} {t:Nat} (_h:RE R L S E w) (_ht:t<L.n) (_hp:(E.th t).phase=0) (_he:(E.th t).ended=false),Calls Tryz.prog 198 #[.pointer (some ⟨L.bE,0,none⟩),.int .i64 (t:Int)] w fun e w'=>e = .returned (.tuple #[.agg #[.int .i64 0,.int .i64 0],.int .i64 5])∧Below w.heap.size w w'
open row in
theorem mK:int.dK∧list.dK∧tree.dK∧row.dK:=by
 refine ⟨@mkK _ 0 ?_,@mkK _ 1 ?_,@mkK _ 2 ?_,@mkK _ 3 ?_⟩<;>intro kk σ R L S E w t h ht hp he
 all_goals
  have HH:=aA (fun ob=>tM (h.below (aB w ob)) (t:Int))
  have HB:=aA (fun ob=>qV (h.below (aB w ob)) ht)
  have HX:=aA (show decide (0≤(t:Int)∧(t:Int)<(L.n:Int))=true by simp;omega)
  have HP:=aA (show decide ((E.th t).phase≠0)=false by simpa using hp)
  have hc:w.cell? ⟨L.bE,1,none⟩=some (.slice (some ⟨L.g,0,none⟩) L.n L.gc):=h.qM.cell_of rfl
  have LQ:=fun ob=>dM hc ob
  have ht':(t:Int)<(L.n:Int):=by omega
  obtain ⟨cv,cf,pv,hce,hcv,eE,-,-⟩:=h.cells ht rfl
  first|(have _:Kn 0:=kk;obtain ⟨c0,c1,rfl⟩:=int.aD hcv.1)|(have _:Kn 1:=kk;obtain ⟨c0,c1,rfl⟩:=int.aD hcv.1)|(have _:Kn 2:=kk;obtain ⟨c0,c1,rfl⟩:=int.aD hcv.1)|(have _:Kn 3:=kk;obtain ⟨c0,c1,c2,rfl⟩:=row.aD hcv.1)
  first|(have _:Kn 0:=kk;obtain ⟨d0,d1,rfl⟩:=int.aD eE.1)|(have _:Kn 1:=kk;obtain ⟨d0,d1,rfl⟩:=int.aD eE.1)|(have _:Kn 2:=kk;obtain ⟨d0,d1,rfl⟩:=int.aD eE.1)|(have _:Kn 3:=kk;obtain ⟨d0,d1,d2,rfl⟩:=row.aD eE.1)
  first|(have _:Kn 0:=kk;have e1:w.cell? ⟨L.g,t*28+27,none⟩=some (.bool false):=by have:=hce 27 _ (by decide) rfl;rw [he] at this;exact this)|(have _:Kn 1:=kk;have e1:w.cell? ⟨L.g,t*28+27,none⟩=some (.bool false):=by have:=hce 27 _ (by decide) rfl;rw [he] at this;exact this)|(have _:Kn 2:=kk;have e1:w.cell? ⟨L.g,t*28+27,none⟩=some (.bool false):=by have:=hce 27 _ (by decide) rfl;rw [he] at this;exact this)|(have _:Kn 3:=kk;have e1:w.cell? ⟨L.g,t*30+29,none⟩=some (.bool false):=by have:=hce 29 _ (by decide) rfl;rw [he] at this;exact this)
  have e1':=fun ob=>dM e1 ob
  clear h hp hce hcv eE he
  first|(have _:Kn 0:=kk;go_enter Tryz.func101,Tryz.ntmps101)|(have _:Kn 1:=kk;go_enter Tryz.func161,Tryz.ntmps161)|(have _:Kn 2:=kk;go_enter Tryz.func235,Tryz.ntmps235)|(have _:Kn 3:=kk;go_enter Tryz.func198,Tryz.ntmps198)
  go_wp2_with fail
  refine (HH.out _).mono ?_
  rintro e w1 ⟨rfl,rfl⟩
  rw [HX.out]
  go_wp2_with fail
  refine (HB.out _).mono ?_
  rintro e w1 ⟨rfl,rfl⟩
  rw [HP.out]
  go_wp2_with fail
  exact bodyPost_ret (v:=.tuple #[.agg #[.int .i64 0,.int .i64 0],.int .i64 5]) (by simp [results,Tryz.results101,Tryz.results161,Tryz.results235,Tryz.results198,go_sem]) rfl ⟨rfl,(by repeat (first|exact Below.refl _ _|assumption|refine Below.drewN ?_ _|refine Below.alloc ?_ (by simp) _))⟩
theorem int.qC:dK:=mK.1
theorem list.qC:dK:=mK.2.1
theorem tree.qC:dK:=mK.2.2.1
theorem row.qC:dK:=mK.2.2.2
def int.fD:Prop:=∀ {σ:Type} {R:SR σ} {L:Lt} {S:Nat→Prop} {E:aK σ} {w:World} {t:Nat} (_h:RE R L S E w) (_ht:t<L.n) (_hp:(E.th t).phase=0) (_he:(E.th t).ended=true),Calls Tryz.prog 101 #[.pointer (some ⟨L.bE,0,none⟩),.int .i64 (t:Int)] w fun e w'=>e = .returned (.tuple #[.agg #[.int .i64 (E.th t).xG,.int .i64 (E.th t).val],.int .i64 0])∧Below w.heap.size w w'
def list.fD:Prop:=∀ {σ:Type} {R:SR σ} {L:Lt} {S:Nat→Prop} {E:aK σ} {w:World} {t:Nat} (_h:RE R L S E w) (_ht:t<L.n) (_hp:(E.th t).phase=0) (_he:(E.th t).ended=true),Calls Tryz.prog 161 #[.pointer (some ⟨L.bE,0,none⟩),.int .i64 (t:Int)] w fun e w'=>e = .returned (.tuple #[.agg #[.int .i64 (E.th t).xG,.int .i64 (E.th t).val],.int .i64 0])∧Below w.heap.size w w'
def tree.fD:Prop:=∀ {σ:Type} {R:SR σ} {L:Lt} {S:Nat→Prop} {E:aK σ} {w:World} {t:Nat} (_h:RE R L S E w) (_ht:t<L.n) (_hp:(E.th t).phase=0) (_he:(E.th t).ended=true),Calls Tryz.prog 235 #[.pointer (some ⟨L.bE,0,none⟩),.int .i64 (t:Int)] w fun e w'=>e = .returned (.tuple #[.agg #[.int .i64 (E.th t).xG,.int .i64 (E.th t).val],.int .i64 0])∧Below w.heap.size w w'
theorem qW:int.fD∧list.fD∧tree.fD:=by
 refine ⟨@mkK _ 0 ?_,@mkK _ 1 ?_,@mkK _ 2 ?_⟩<;>intro kk σ R L S E w t h ht hp he
 all_goals
  have HH:=aA (fun ob=>tM (h.below (aB w ob)) (t:Int))
  have HB:=aA (fun ob=>qV (h.below (aB w ob)) ht)
  have HX:=aA (show decide (0≤(t:Int)∧(t:Int)<(L.n:Int))=true by simp;omega)
  have HP:=aA (show decide ((E.th t).phase≠0)=false by simpa using hp)
  have hc:w.cell? ⟨L.bE,1,none⟩=some (.slice (some ⟨L.g,0,none⟩) L.n L.gc):=h.qM.cell_of rfl
  have LQ:=fun ob=>dM hc ob
  have ht':(t:Int)<(L.n:Int):=by omega
  obtain ⟨cv,cf,pv,hce,hcv,eE,-,-⟩:=h.cells ht rfl
  obtain ⟨c0,c1,rfl⟩:=aD hcv.1
  obtain ⟨d0,d1,rfl⟩:=aD eE.1
  have e1:w.cell? ⟨L.g,t*28+27,none⟩=some (.bool true):=by have:=hce 27 _ (by decide) rfl;rw [he] at this;exact this
  have e1':=fun ob=>dM e1 ob
  have e2:w.cell? ⟨L.g,t*28+25,none⟩=some (.int .i64 (E.th t).xG):=hce 25 _ (by decide) rfl
  have e2':=fun ob=>dM e2 ob
  have e3:w.cell? ⟨L.g,t*28+25+1,none⟩=some (.int .i64 (E.th t).val):=hce 26 _ (by decide) rfl
  have e3':=fun ob=>dM e3 ob
  clear h hp hce hcv eE he
  first|(have _:Kn 0:=kk;go_enter Tryz.func101,Tryz.ntmps101)|(have _:Kn 1:=kk;go_enter Tryz.func161,Tryz.ntmps161)|(have _:Kn 2:=kk;go_enter Tryz.func235,Tryz.ntmps235)
  go_wp2_with fail
  refine (HH.out _).mono ?_
  rintro e w1 ⟨rfl,rfl⟩
  rw [HX.out]
  go_wp2_with fail
  refine (HB.out _).mono ?_
  rintro e w1 ⟨rfl,rfl⟩
  rw [HP.out]
  go_wp2_with fail
  exact bodyPost_ret (v:=.tuple #[.agg #[.int .i64 (E.th t).xG,.int .i64 (E.th t).val],.int .i64 0]) (by simp [results,Tryz.results101,Tryz.results161,Tryz.results235,go_sem]) rfl ⟨rfl,(by repeat (first|exact Below.refl _ _|assumption|refine Below.drewN ?_ _|refine Below.alloc ?_ (by simp) _))⟩
theorem int.qD:fD:=qW.1
theorem list.qD:fD:=qW.2.1
theorem tree.qD:fD:=qW.2.2
theorem row.qD {σ:Type} {R:SR σ} {L:Lt} {S:Nat→Prop} {E:aK σ} {w:World} {t:Nat} (h:RE R L S E w) (ht:t<L.n) (hp:(E.th t).phase=0) (he:(E.th t).ended=true) :
  Calls Tryz.prog 198 #[.pointer (some ⟨L.bE,0,none⟩),.int .i64 (t:Int)] w fun e w'=>e = .returned (.tuple #[.agg #[.int .i64 (E.th t).xG,.int .i64 (E.th t).val],.int .i64 0])∧Below w.heap.size w w':=by
 have HH:=aA (fun ob=>tM (h.below (aB w ob)) (t:Int))
 have HB:=aA (fun ob=>qV (h.below (aB w ob)) ht)
 have HX:=aA (show decide (0≤(t:Int)∧(t:Int)<(L.n:Int))=true by simp;omega)
 have HP:=aA (show decide ((E.th t).phase≠0)=false by simpa using hp)
 have hc:w.cell? ⟨L.bE,1,none⟩=some (.slice (some ⟨L.g,0,none⟩) L.n L.gc):=h.qM.cell_of rfl
 have LQ:=fun ob=>dM hc ob
 have ht':(t:Int)<(L.n:Int):=by omega
 obtain ⟨cv,cf,pv,hce,hcv,eE,-,-⟩:=h.cells ht rfl
 obtain ⟨c0,c1,c2,rfl⟩:=aD hcv.1
 obtain ⟨d0,d1,d2,rfl⟩:=aD eE.1
 have e1:w.cell? ⟨L.g,t*30+29,none⟩=some (.bool true):=by have:=hce 29 _ (by decide) rfl;rw [he] at this;exact this
 have e1':=fun ob=>dM e1 ob
 have e2:w.cell? ⟨L.g,t*30+27,none⟩=some (.int .i64 (E.th t).xG):=hce 27 _ (by decide) rfl
 have e2':=fun ob=>dM e2 ob
 have e3:w.cell? ⟨L.g,t*30+27+1,none⟩=some (.int .i64 (E.th t).val):=hce 28 _ (by decide) rfl
 have e3':=fun ob=>dM e3 ob
 clear h hp hce hcv eE he
 go_enter Tryz.func198,Tryz.ntmps198
 go_wp2_with fail
 refine (HH.out _).mono ?_
 rintro e w1 ⟨rfl,rfl⟩
 rw [HX.out]
 go_wp2_with fail
 refine (HB.out _).mono ?_
 rintro e w1 ⟨rfl,rfl⟩
 rw [HP.out]
 go_wp2_with fail
 exact bodyPost_ret (v:=.tuple #[.agg #[.int .i64 (E.th t).xG,.int .i64 (E.th t).val],.int .i64 0]) (by simp [results,Tryz.results198,go_sem]) rfl ⟨rfl,(by repeat (first|exact Below.refl _ _|assumption|refine Below.drewN ?_ _|refine Below.alloc ?_ (by simp) _))⟩
end Go.Proofs.YtefjhnhdagolhabGreat
