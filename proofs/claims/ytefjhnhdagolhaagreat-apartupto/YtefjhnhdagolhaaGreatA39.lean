import Derived.Test.YtefjhnhdagolhaaGreatA38
import Derived.Test.YtefjhnhdagolhaaGreatA12
set_option maxHeartbeats 4000000
set_option maxRecDepth 20000
namespace Go.Proofs.YtefjhnhdagolhaaGreat
open Tryz
open int list tree
open Go.RowKit
open M (aM aC aD Op eX bU bD aR bJ bC aL aQ)
attribute [local go_sem ↓] Go.wp_at_zero Go.wp_at_succ
def FJ (SR:Type→Type) (RE:lA SR) (n0 n1:Nat):Prop:=∀ {σ:Type} {R:SR σ} {L:Lt} {S:Nat→Prop} {E:bD σ} {w:World} {t:Nat} (_h:RE R L S E w) (_ht:t<L.n),Calls prog n0 #[.pointer (some ⟨L.g,t*n1,none⟩)] w fun e w'=>e = .returned (.bool (decide ((E.th t).phase≠0)))∧w'=w
open row in
theorem rD:FJ int.SR @int.RE 197 28∧FJ list.SR @list.RE 257 28∧FJ tree.SR @tree.RE 331 28∧FJ row.SR @row.RE 294 30:=by
 refine ⟨@mkK _ 0 ?_,@mkK _ 1 ?_,@mkK _ 2 ?_,@mkK _ 3 ?_⟩<;>intro kk σ R L S E w t h ht
 all_goals
  obtain ⟨cv,cf,pv,hc,-,-,-,hf⟩:=h.cells ht rfl;have c3:=hc 3 _ (by decide) rfl;clear h hc hf
  first|(have:=kA kk;go_enter func197,ntmps197)|(have:=kB kk;go_enter func257,ntmps257)|(have:=kC kk;go_enter func331,ntmps331)|(have:=kD kk;go_enter func294,ntmps294)
  go_wp2;go_ret;refine ⟨gT ?_,rfl⟩;rw [Bool.eq_iff_iff];simp
theorem int.sG:FJ int.SR @int.RE 197 28:=rD.1
theorem list.sG:FJ list.SR @list.RE 257 28:=rD.2.1
theorem tree.sG:FJ tree.SR @tree.RE 331 28:=rD.2.2.1
theorem row.sG:FJ row.SR @row.RE 294 30:=rD.2.2.2
def MK (SR:Type→Type) (RE:lA SR) (n0:Nat):Prop:=∀ {σ:Type} {R:SR σ} {L:Lt} {S:Nat→Prop} {E:bD σ} {w:World} (_h:RE R L S E w) (x:Int),Calls prog n0 #[.pointer (some ⟨L.bE,0,none⟩),.int .i64 x] w fun e w'=>e = .returned (.bool (decide (0≤x∧x<L.n)))∧w'=w
open row in
theorem wM:MK int.SR @int.RE 196∧MK list.SR @list.RE 256∧MK tree.SR @tree.RE 330∧MK row.SR @row.RE 293:=by
 refine ⟨@mkK _ 0 ?_,@mkK _ 1 ?_,@mkK _ 2 ?_,@mkK _ 3 ?_⟩<;>intro kk σ R L S E w h x
 all_goals
  have c1:w.cell? ⟨L.bE,1,none⟩=some (.slice (some ⟨L.g,0,none⟩) L.n L.gc):=h.qQ.cell_of rfl;clear h
  by_cases q:0≤x
  ·have hg:decide (x≥0)=true:=by simp [q]
   first|(have:=kA kk;go_enter func196,ntmps196)|(have:=kB kk;go_enter func256,ntmps256)|(have:=kC kk;go_enter func330,ntmps330)|(have:=kD kk;go_enter func293,ntmps293)
   go_wp2;go_ret;refine ⟨gT ?_,rfl⟩;simp [q]
  ·first|(have:=kA kk;go_enter func196,ntmps196)|(have:=kB kk;go_enter func256,ntmps256)|(have:=kC kk;go_enter func330,ntmps330)|(have:=kD kk;go_enter func293,ntmps293)
   go_wp2;go_ret;refine ⟨gT ?_,rfl⟩;simp;omega
theorem int.xT:MK int.SR @int.RE 196:=wM.1
theorem list.xT:MK list.SR @list.RE 256:=wM.2.1
theorem tree.xT:MK tree.SR @tree.RE 330:=wM.2.2.1
theorem row.xT:MK row.SR @row.RE 293:=wM.2.2.2
def CB (SR:Type→Type) (RE:lA SR) (aE:BX SR) (n0 n1:Nat):Prop:=∀ {σ:Type} {R:SR σ} {L:Lt} {S:Nat→Prop} {E:bD σ} {w:World} {t:Nat} (_h:RE R L S E w) (_ht:t<L.n) (o:M.Op),Calls prog n0 #[.pointer (some ⟨L.g,t*n1,none⟩),.agg #[.int .i64 o.c,.int .i64 o.a,.int .i64 o.b]] w fun e w'=>e = .returned (.tuple #[])∧aE R L S w (M.begin E t o) w'
open row in
theorem oB:CB int.SR @int.RE @int.aE 198 28∧CB list.SR @list.RE @list.aE 258 28∧CB tree.SR @tree.RE @tree.aE 332 28∧CB row.SR @row.RE @row.aE 295 30:=by
 refine ⟨@mkK _ 0 ?_,@mkK _ 1 ?_,@mkK _ 2 ?_,@mkK _ 3 ?_⟩<;>intro kk σ R L S E w t h ht o
 all_goals
  have HH:=aA h;clear h
  first|(have:=kA kk;go_enter func198,ntmps198)|(have:=kB kk;go_enter func258,ntmps258)|(have:=kC kk;go_enter func332,ntmps332)|(have:=kD kk;go_enter func295,ntmps295)
  go_upto_region 1 with fail;generalize sZ:World.alloc w _=W1;have eN:Below w.heap.size w W1:=by rw [←sZ];exact aB w _
  have hro:Row W1 w.heap.size 36 [.int .i64 o.c,.int .i64 o.a,.int .i64 o.b]:=by rw [←sZ];exact dH w [_,_,_] _
  have o0:W1.cell? ⟨w.heap.size,0,none⟩=some (.int .i64 o.c):=hro.cell_of rfl;have o1:W1.cell? ⟨w.heap.size,1,none⟩=some (.int .i64 o.a):=hro.cell_of rfl;have o2:W1.cell? ⟨w.heap.size,2,none⟩=some (.int .i64 o.b):=hro.cell_of rfl;have HL:=aA (aE.below HH.out eN);obtain ⟨cv,cf,pv,hc,-,-,-,hf⟩:=HL.out.re.cells ht rfl;have c5:=hc 5 _ (by decide) rfl
  first|(have:=kA kk;have c6:W1.cell? ⟨L.g,t*28+5+1,none⟩=some (.int .i64 (E.th t).op.a):=hc 6 _ (by decide) rfl)|(have:=kB kk;have c6:W1.cell? ⟨L.g,t*28+5+1,none⟩=some (.int .i64 (E.th t).op.a):=hc 6 _ (by decide) rfl)|(have:=kC kk;have c6:W1.cell? ⟨L.g,t*28+5+1,none⟩=some (.int .i64 (E.th t).op.a):=hc 6 _ (by decide) rfl)|(have:=kD kk;have c6:W1.cell? ⟨L.g,t*30+5+1,none⟩=some (.int .i64 (E.th t).op.a):=hc 6 _ (by decide) rfl)
  first|(have:=kA kk;have c7:W1.cell? ⟨L.g,t*28+5+2,none⟩=some (.int .i64 (E.th t).op.b):=hc 7 _ (by decide) rfl)|(have:=kB kk;have c7:W1.cell? ⟨L.g,t*28+5+2,none⟩=some (.int .i64 (E.th t).op.b):=hc 7 _ (by decide) rfl)|(have:=kC kk;have c7:W1.cell? ⟨L.g,t*28+5+2,none⟩=some (.int .i64 (E.th t).op.b):=hc 7 _ (by decide) rfl)|(have:=kD kk;have c7:W1.cell? ⟨L.g,t*30+5+2,none⟩=some (.int .i64 (E.th t).op.b):=hc 7 _ (by decide) rfl)
  have c10:=hc 10 _ (by decide) rfl
  first|(have:=kA kk;have f5:=hf (t*28+5))|(have:=kB kk;have f5:=hf (t*28+5))|(have:=kC kk;have f5:=hf (t*28+5))|(have:=kD kk;have f5:=hf (t*30+5))
  first|(have:=kA kk;have f6:=hf (t*28+5+1))|(have:=kB kk;have f6:=hf (t*28+5+1))|(have:=kC kk;have f6:=hf (t*28+5+1))|(have:=kD kk;have f6:=hf (t*30+5+1))
  first|(have:=kA kk;have f7:=hf (t*28+5+2))|(have:=kB kk;have f7:=hf (t*28+5+2))|(have:=kC kk;have f7:=hf (t*28+5+2))|(have:=kD kk;have f7:=hf (t*30+5+2))
  first|(have:=kA kk;have f10:=hf (t*28+10))|(have:=kB kk;have f10:=hf (t*28+10))|(have:=kC kk;have f10:=hf (t*28+10))|(have:=kD kk;have f10:=hf (t*30+10))
  obtain ⟨h1,k1⟩:=HL.out.re.iY ht 5 (by decide) (.int .i64 o.c) {E.th t with op:=⟨o.c,(E.th t).op.a,(E.th t).op.b⟩} rfl rfl rfl rfl rfl (by intros;rfl);obtain ⟨h2,k2⟩:=h1.iY ht 6 (by decide) (.int .i64 o.a) {E.th t with op:=⟨o.c,o.a,(E.th t).op.b⟩} (by simp [aC]) (by simp [aC]) (by simp [aC]) (by simp [aC]) (by simp [aC]) (by intros;simp only [aC];rfl);obtain ⟨h3,k3⟩:=h2.iY ht 7 (by decide) (.int .i64 o.b) {E.th t with op:=⟨o.c,o.a,o.b⟩} (by simp [aC]) (by simp [aC]) (by simp [aC]) (by simp [aC]) (by simp [aC]) (by intros;simp only [aC];rfl);obtain ⟨h4,k4⟩:=h3.iY ht 10 (by decide) (.bool false) {E.th t with op:=⟨o.c,o.a,o.b⟩,again:=false} (by simp [aC]) (by simp [aC]) (by simp [aC]) (by simp [aC]) (by simp [aC]) (by intros;simp only [aC];rfl);have H4:=aA h4;have K4:=aA (((k1.trans k2).trans k3).trans k4);clear sZ eN hro hc hf h1 h2 h3 h4 k1 k2 k3 k4;go_wp2_with fail;refine (gV H4.out ht 1).mono ?_;rintro e w5 ⟨rfl,r5,k5⟩;have HR:=aA (HL.out.next (aE.of r5 (K4.out.trans k5) rfl));clear r5 k5;go_wp2;refine cW (v:=.tuple #[]) (by simp [results,results198,results258,results332,results295,go_sem]) rfl ⟨rfl,HR.out.cast ?_⟩;unfold M.begin;simp only [cU,aC]
theorem int.MG:CB int.SR @int.RE @int.aE 198 28:=oB.1
theorem list.MG:CB list.SR @list.RE @list.aE 258 28:=oB.2.1
theorem tree.MG:CB tree.SR @tree.RE @tree.aE 332 28:=oB.2.2.1
theorem row.MG:CB row.SR @row.RE @row.aE 295 30:=oB.2.2.2
end Go.Proofs.YtefjhnhdagolhaaGreat
namespace Go.Proofs.YtefjhnhdagolhaaGreat
open Tryz
open int list tree
open Go.RowKit
open M (aM aC aD eX bU bD aR bJ bC aL aQ)
attribute [local go_sem ↓] Go.wp_at_zero Go.wp_at_succ
def vU (SR:Type→Type) (RE:lA SR) (aE:BX SR) (n0:Nat):Prop:=∀ {σ:Type} {R:SR σ} {L:Lt} {S:Nat→Prop} {E:bD σ} {w:World} (_h:RE R L S E w) (x:Int) (_hx:¬(0≤x∧x<L.n)) (o:M.Op),Calls prog n0 #[.pointer (some ⟨L.bE,0,none⟩),.int .i64 x,.agg #[.int .i64 o.c,.int .i64 o.a,.int .i64 o.b]] w fun e w'=>e = .returned (.int .i64 3)∧aE R L S w E w'
open row in
theorem kF:vU int.SR @int.RE @int.aE 190∧vU list.SR @list.RE @list.aE 250∧vU tree.SR @tree.RE @tree.aE 324∧vU row.SR @row.RE @row.aE 287:=by
 refine ⟨@mkK _ 0 ?_,@mkK _ 1 ?_,@mkK _ 2 ?_,@mkK _ 3 ?_⟩<;>intro kk σ R L S E w h x hx o
 all_goals
  have HH:=aA h;have HX:=aA (show decide (0≤x∧x<(L.n:Int))=false by simpa using hx);clear h hx
  first|(have:=kA kk;go_enter func190,ntmps190)|(have:=kB kk;go_enter func250,ntmps250)|(have:=kC kk;go_enter func324,ntmps324)|(have:=kD kk;go_enter func287,ntmps287)
  go_upto_region 1 with fail;generalize sZ:World.alloc w _=W1;have eN:Below w.heap.size w W1:=by rw [←sZ];exact aB w _
  have HL:=aA (aE.below HH.out eN);clear sZ eN;go_wp2_with fail;refine (xT HL.out.re x).mono ?_;rintro e w2 ⟨rfl,rfl⟩;rw [HX.out];go_wp2;go_ret;exact ⟨rfl,HL.out⟩
theorem int.BN:vU int.SR @int.RE @int.aE 190:=kF.1
theorem list.BN:vU list.SR @list.RE @list.aE 250:=kF.2.1
theorem tree.BN:vU tree.SR @tree.RE @tree.aE 324:=kF.2.2.1
theorem row.BN:vU row.SR @row.RE @row.aE 287:=kF.2.2.2
def tD (SR:Type→Type) (RE:lA SR) (aE:BX SR) (n0:Nat):Prop:=∀ {σ:Type} {R:SR σ} {L:Lt} {S:Nat→Prop} {E:bD σ} {w:World} {t:Nat} (_h:RE R L S E w) (_ht:t<L.n) (_hp:(E.th t).phase≠0) (o:M.Op),Calls prog n0 #[.pointer (some ⟨L.bE,0,none⟩),.int .i64 (t:Int),.agg #[.int .i64 o.c,.int .i64 o.a,.int .i64 o.b]] w fun e w'=>e = .returned (.int .i64 4)∧aE R L S w E w'
open row in
theorem iJ:tD int.SR @int.RE @int.aE 190∧tD list.SR @list.RE @list.aE 250∧tD tree.SR @tree.RE @tree.aE 324∧tD row.SR @row.RE @row.aE 287:=by
 refine ⟨@mkK _ 0 ?_,@mkK _ 1 ?_,@mkK _ 2 ?_,@mkK _ 3 ?_⟩<;>intro kk σ R L S E w t h ht hp o
 all_goals
  have HH:=aA h;have HX:=aA (show decide (0≤(t:Int)∧(t:Int)<(L.n:Int))=true by simp;omega);have HP:=aA (show decide ((E.th t).phase≠0)=true by simpa using hp);have ht':(t:Int)<(L.n:Int):=by omega
  clear h hp
  first|(have:=kA kk;go_enter func190,ntmps190)|(have:=kB kk;go_enter func250,ntmps250)|(have:=kC kk;go_enter func324,ntmps324)|(have:=kD kk;go_enter func287,ntmps287)
  go_upto_region 1 with fail;generalize sZ:World.alloc w _=W1;have eN:Below w.heap.size w W1:=by rw [←sZ];exact aB w _
  have HL:=aA (aE.below HH.out eN);have c1:W1.cell? ⟨L.bE,1,none⟩=some (.slice (some ⟨L.g,0,none⟩) L.n L.gc):=HL.out.re.qQ.cell_of rfl;clear sZ eN;go_wp2_with fail;refine (xT HL.out.re (t:Int)).mono ?_;rintro e w2 ⟨rfl,rfl⟩;rw [HX.out];go_wp2_with fail;refine (sG HL.out.re ht).mono ?_;rintro e w3 ⟨rfl,rfl⟩;rw [HP.out];go_wp2;go_ret;exact ⟨rfl,HL.out⟩
theorem int.yK:tD int.SR @int.RE @int.aE 190:=iJ.1
theorem list.yK:tD list.SR @list.RE @list.aE 250:=iJ.2.1
theorem tree.yK:tD tree.SR @tree.RE @tree.aE 324:=iJ.2.2.1
theorem row.yK:tD row.SR @row.RE @row.aE 287:=iJ.2.2.2
def tF (SR:Type→Type) (RE:lA SR) (aE:BX SR) (n0:Nat):Prop:=∀ {σ:Type} {R:SR σ} {L:Lt} {S:Nat→Prop} {E:bD σ} {w:World} {t:Nat} (_h:RE R L S E w) (_ht:t<L.n) (_hp:(E.th t).phase=0) (o:M.Op),Calls prog n0 #[.pointer (some ⟨L.bE,0,none⟩),.int .i64 (t:Int),.agg #[.int .i64 o.c,.int .i64 o.a,.int .i64 o.b]] w fun e w'=>e = .returned (.int .i64 0)∧aE R L S w (M.begin E t o) w'
open row in
theorem iK:tF int.SR @int.RE @int.aE 190∧tF list.SR @list.RE @list.aE 250∧tF tree.SR @tree.RE @tree.aE 324∧tF row.SR @row.RE @row.aE 287:=by
 refine ⟨@mkK _ 0 ?_,@mkK _ 1 ?_,@mkK _ 2 ?_,@mkK _ 3 ?_⟩<;>intro kk σ R L S E w t h ht hp o
 all_goals
  have HH:=aA h;have HX:=aA (show decide (0≤(t:Int)∧(t:Int)<(L.n:Int))=true by simp;omega);have HP:=aA (show decide ((E.th t).phase≠0)=false by simpa using hp);have ht':(t:Int)<(L.n:Int):=by omega
  clear h hp
  first|(have:=kA kk;go_enter func190,ntmps190)|(have:=kB kk;go_enter func250,ntmps250)|(have:=kC kk;go_enter func324,ntmps324)|(have:=kD kk;go_enter func287,ntmps287)
  go_upto_region 1 with fail;generalize sZ:World.alloc w _=W1;have eN:Below w.heap.size w W1:=by rw [←sZ];exact aB w _
  have hro:Row W1 w.heap.size 36 [.int .i64 o.c,.int .i64 o.a,.int .i64 o.b]:=by rw [←sZ];exact dH w [_,_,_] _
  have o0:W1.cell? ⟨w.heap.size,0,none⟩=some (.int .i64 o.c):=hro.cell_of rfl;have o1:W1.cell? ⟨w.heap.size,1,none⟩=some (.int .i64 o.a):=hro.cell_of rfl;have o2:W1.cell? ⟨w.heap.size,2,none⟩=some (.int .i64 o.b):=hro.cell_of rfl;have HL:=aA (aE.below HH.out eN);have c1:W1.cell? ⟨L.bE,1,none⟩=some (.slice (some ⟨L.g,0,none⟩) L.n L.gc):=HL.out.re.qQ.cell_of rfl;clear sZ eN hro;go_wp2_with fail;refine (xT HL.out.re (t:Int)).mono ?_;rintro e w2 ⟨rfl,rfl⟩;rw [HX.out];go_wp2_with fail;refine (sG HL.out.re ht).mono ?_;rintro e w3 ⟨rfl,rfl⟩;rw [HP.out];go_upto_region 5 with fail;have HB:=aA (MG (HL.out.re.drew) ht o)
  first|(have:=kA kk;go_region_with (go_at_call 198;refine HB.out.mono ?_;rintro e w4 ⟨rfl,hr⟩;have HR:=aA hr;clear hr))|(have:=kB kk;go_region_with (go_at_call 258;refine HB.out.mono ?_;rintro e w4 ⟨rfl,hr⟩;have HR:=aA hr;clear hr))|(have:=kC kk;go_region_with (go_at_call 332;refine HB.out.mono ?_;rintro e w4 ⟨rfl,hr⟩;have HR:=aA hr;clear hr))|(have:=kD kk;go_region_with (go_at_call 295;refine HB.out.mono ?_;rintro e w4 ⟨rfl,hr⟩;have HR:=aA hr;clear hr))
  all_goals go_wp2
  all_goals go_ret
  all_goals exact ⟨rfl,HL.out.next ⟨HR.out.re,(Fr.refl _ _).drew.trans HR.out.fr⟩⟩
theorem int.yL:tF int.SR @int.RE @int.aE 190:=iK.1
theorem list.yL:tF list.SR @list.RE @list.aE 250:=iK.2.1
theorem tree.yL:tF tree.SR @tree.RE @tree.aE 324:=iK.2.2.1
theorem row.yL:tF row.SR @row.RE @row.aE 287:=iK.2.2.2
def yZ (SR:Type→Type) (RE:lA SR) (n0:Nat):Prop:=∀ {σ:Type} {R:SR σ} {L:Lt} {S:Nat→Prop} {E:bD σ} {w:World} (_h:RE R L S E w) (x:Int) (_hx:¬(0≤x∧x<L.n)),Calls prog n0 #[.pointer (some ⟨L.bE,0,none⟩),.int .i64 x] w fun e w'=>e = .returned (.tuple #[.int .i64 0,.int .i64 3])∧w'=w
open row in
theorem lW:yZ int.SR @int.RE 195∧yZ list.SR @list.RE 255∧yZ tree.SR @tree.RE 329∧yZ row.SR @row.RE 292:=by
 refine ⟨@mkK _ 0 ?_,@mkK _ 1 ?_,@mkK _ 2 ?_,@mkK _ 3 ?_⟩<;>intro kk σ R L S E w h x hx
 all_goals
  have HH:=aA h;have HX:=aA (show decide (0≤x∧x<(L.n:Int))=false by simpa using hx);clear h hx
  first|(have:=kA kk;go_enter func195,ntmps195)|(have:=kB kk;go_enter func255,ntmps255)|(have:=kC kk;go_enter func329,ntmps329)|(have:=kD kk;go_enter func292,ntmps292)
  go_wp2_with fail;refine (xT HH.out x).mono ?_;rintro e w2 ⟨rfl,rfl⟩;rw [HX.out];go_wp2;refine cR (v:=.tuple #[.int .i64 0,.int .i64 3]) (by simp [results,results195,results255,results329,results292,go_sem]) rfl ⟨rfl,rfl⟩
theorem int.FH:yZ int.SR @int.RE 195:=lW.1
theorem list.FH:yZ list.SR @list.RE 255:=lW.2.1
theorem tree.FH:yZ tree.SR @tree.RE 329:=lW.2.2.1
theorem row.FH:yZ row.SR @row.RE 292:=lW.2.2.2
def wI (SR:Type→Type) (RE:lA SR) (n0:Nat):Prop:=∀ {σ:Type} {R:SR σ} {L:Lt} {S:Nat→Prop} {E:bD σ} {w:World} {t:Nat} (_h:RE R L S E w) (_ht:t<L.n) (_hp:(E.th t).phase=0),Calls prog n0 #[.pointer (some ⟨L.bE,0,none⟩),.int .i64 (t:Int)] w fun e w'=>e = .returned (.tuple #[.int .i64 0,.int .i64 5])∧w'=w
open row in
theorem kL:wI int.SR @int.RE 195∧wI list.SR @list.RE 255∧wI tree.SR @tree.RE 329∧wI row.SR @row.RE 292:=by
 refine ⟨@mkK _ 0 ?_,@mkK _ 1 ?_,@mkK _ 2 ?_,@mkK _ 3 ?_⟩<;>intro kk σ R L S E w t h ht hp
 all_goals
  have HH:=aA h;have HX:=aA (show decide (0≤(t:Int)∧(t:Int)<(L.n:Int))=true by simp;omega);have HP:=aA (show decide ((E.th t).phase≠0)=false by simpa using hp);have ht':(t:Int)<(L.n:Int):=by omega
  have c1:w.cell? ⟨L.bE,1,none⟩=some (.slice (some ⟨L.g,0,none⟩) L.n L.gc):=h.qQ.cell_of rfl;clear h hp
  first|(have:=kA kk;go_enter func195,ntmps195)|(have:=kB kk;go_enter func255,ntmps255)|(have:=kC kk;go_enter func329,ntmps329)|(have:=kD kk;go_enter func292,ntmps292)
  go_wp2_with fail;refine (xT HH.out (t:Int)).mono ?_;rintro e w2 ⟨rfl,rfl⟩;rw [HX.out];go_wp2_with fail;refine (sG HH.out ht).mono ?_;rintro e w3 ⟨rfl,rfl⟩;rw [HP.out];go_wp2;refine cR (v:=.tuple #[.int .i64 0,.int .i64 5]) (by simp [results,results195,results255,results329,results292,go_sem]) rfl ⟨rfl,rfl⟩
theorem int.BW:wI int.SR @int.RE 195:=kL.1
theorem list.BW:wI list.SR @list.RE 255:=kL.2.1
theorem tree.BW:wI tree.SR @tree.RE 329:=kL.2.2.1
theorem row.BW:wI row.SR @row.RE 292:=kL.2.2.2
def wH (SR:Type→Type) (RE:lA SR) (aE:BX SR) (bG:RF SR) (qs:{σ:Type}→SR σ→σ→Nat) (n0:Nat):Prop:=∀ {σ:Type} {R:SR σ} {L:Lt} {S:Nat→Prop} {E:bD σ} {w:World} {t:Nat} {P:M.Plain σ} {fA:Nat} {rv:Value} (_hA:bG R P L fA rv) (_h:RE R L S E w) (_ht:t<L.n) (_hC:sC L E t) (_hZ:(E.th t).phase=8→∀ v,(E.th t).now=some v→(qs R) v.st≤1000000000000) (_h1:1≤(E.th t).phase) (_h13:(E.th t).phase≤13),Calls prog n0 #[.pointer (some ⟨L.bE,0,none⟩),.int .i64 (t:Int)] w fun e w'=>e = .returned (.tuple #[.int .i64 (if ((M.step P L.n L.cap E t).th t).phase=0 then 2 else 1),.int .i64 0])∧aE R L S w (M.step P L.n L.cap E t) w'
open row in
theorem kK:wH int.SR @int.RE @int.aE @int.bG @int.SR.sz 195∧wH list.SR @list.RE @list.aE @list.bG @list.SR.sz 255∧wH tree.SR @tree.RE @tree.aE @tree.bG @tree.SR.sz 329∧wH row.SR @row.RE @row.aE @row.bG @row.SR.sz 292:=by
 refine ⟨@mkK _ 0 ?_,@mkK _ 1 ?_,@mkK _ 2 ?_,@mkK _ 3 ?_⟩<;>intro kk σ R L S E w t P fA rv hA h ht hC hZ h1 h13
 all_goals
  have HH:=aA h;have HX:=aA (show decide (0≤(t:Int)∧(t:Int)<(L.n:Int))=true by simp;omega);have HP:=aA (show decide ((E.th t).phase≠0)=true by simp;omega);have HS:=aA (PE hA h ht hC hZ h1 h13);have ht':(t:Int)<(L.n:Int):=by omega
  have c1:w.cell? ⟨L.bE,1,none⟩=some (.slice (some ⟨L.g,0,none⟩) L.n L.gc):=h.qQ.cell_of rfl;clear h hA hC hZ h1 h13
  first|(have:=kA kk;go_enter func195,ntmps195)|(have:=kB kk;go_enter func255,ntmps255)|(have:=kC kk;go_enter func329,ntmps329)|(have:=kD kk;go_enter func292,ntmps292)
  go_wp2_with fail;refine (xT HH.out (t:Int)).mono ?_;rintro e w2 ⟨rfl,rfl⟩;rw [HX.out];go_wp2_with fail;refine (sG HH.out ht).mono ?_;rintro e w3 ⟨rfl,rfl⟩;rw [HP.out];go_wp2_with fail;refine HS.out.mono ?_;rintro e w4 ⟨rfl,hr⟩;have HR:=aA hr;have d1:w4.cell? ⟨L.bE,1,none⟩=some (.slice (some ⟨L.g,0,none⟩) L.n L.gc):=hr.re.qQ.cell_of rfl;clear hr;go_wp2_with fail;refine (sG HR.out.re ht).mono ?_;rintro e w5 ⟨rfl,rfl⟩
  by_cases q:((M.step P L.n L.cap E t).th t).phase=0
  ·have HQ:=aA (show decide (((M.step P L.n L.cap E t).th t).phase≠0)=false by simpa using q)
   rw [HQ.out];have HI:=aA q;clear q;go_wp2;refine cR (v:=.tuple #[.int .i64 2,.int .i64 0]) (by simp [results,results195,results255,results329,results292,go_sem]) rfl ⟨rfl,HR.out⟩
  ·have HQ:=aA (show decide (((M.step P L.n L.cap E t).th t).phase≠0)=true by simpa using q)
   rw [HQ.out];have HI:=aA q;clear q;go_wp2;refine cR (v:=.tuple #[.int .i64 1,.int .i64 0]) (by simp [results,results195,results255,results329,results292,go_sem]) rfl ⟨rfl,HR.out⟩
theorem int.BV:wH int.SR @int.RE @int.aE @int.bG @int.SR.sz 195:=kK.1
theorem list.BV:wH list.SR @list.RE @list.aE @list.bG @list.SR.sz 255:=kK.2.1
theorem tree.BV:wH tree.SR @tree.RE @tree.aE @tree.bG @tree.SR.sz 329:=kK.2.2.1
theorem row.BV:wH row.SR @row.RE @row.aE @row.bG @row.SR.sz 292:=kK.2.2.2
def tC (SR:Type→Type) (RE:lA SR) (n0:Nat):Prop:=∀ {σ:Type} {R:SR σ} {L:Lt} {S:Nat→Prop} {E:bD σ} {w:World} (_h:RE R L S E w) (x:Int) (_hx:¬(0≤x∧x<L.n)),Calls prog n0 #[.pointer (some ⟨L.bE,0,none⟩),.int .i64 x] w fun e w'=>e = .returned (.tuple #[.agg #[.int .i64 0,.int .i64 0],.int .i64 3])∧Below w.heap.size w w'
open row in
theorem iI:tC int.SR @int.RE 189∧tC list.SR @list.RE 249∧tC tree.SR @tree.RE 323∧tC row.SR @row.RE 286:=by
 refine ⟨@mkK _ 0 ?_,@mkK _ 1 ?_,@mkK _ 2 ?_,@mkK _ 3 ?_⟩<;>intro kk σ R L S E w h x hx
 all_goals
  have HH:=aA (fun ob=>xT (h.below (aB w ob)) x);have HX:=aA (show decide (0≤x∧x<(L.n:Int))=false by simpa using hx);clear h hx
  first|(have:=kA kk;go_enter func189,ntmps189)|(have:=kB kk;go_enter func249,ntmps249)|(have:=kC kk;go_enter func323,ntmps323)|(have:=kD kk;go_enter func286,ntmps286)
  go_wp2_with fail;refine (HH.out _).mono ?_;rintro e w1 ⟨rfl,rfl⟩;rw [HX.out];go_wp2_with fail;exact cR (v:=.tuple #[.agg #[.int .i64 0,.int .i64 0],.int .i64 3]) (by simp [results,results189,results249,results323,results286,go_sem]) rfl ⟨rfl,(by repeat (first|exact aT _ _|assumption|refine aX ?_ _|refine cI ?_ (by simp) _))⟩
theorem int.yJ:tC int.SR @int.RE 189:=iI.1
theorem list.yJ:tC list.SR @list.RE 249:=iI.2.1
theorem tree.yJ:tC tree.SR @tree.RE 323:=iI.2.2.1
theorem row.yJ:tC row.SR @row.RE 286:=iI.2.2.2
def qI (SR:Type→Type) (RE:lA SR) (n0:Nat):Prop:=∀ {σ:Type} {R:SR σ} {L:Lt} {S:Nat→Prop} {E:bD σ} {w:World} {t:Nat} (_h:RE R L S E w) (_ht:t<L.n) (_hp:(E.th t).phase≠0),Calls prog n0 #[.pointer (some ⟨L.bE,0,none⟩),.int .i64 (t:Int)] w fun e w'=>e = .returned (.tuple #[.agg #[.int .i64 0,.int .i64 0],.int .i64 4])∧Below w.heap.size w w'
open row in
theorem gH:qI int.SR @int.RE 189∧qI list.SR @list.RE 249∧qI tree.SR @tree.RE 323∧qI row.SR @row.RE 286:=by
 refine ⟨@mkK _ 0 ?_,@mkK _ 1 ?_,@mkK _ 2 ?_,@mkK _ 3 ?_⟩<;>intro kk σ R L S E w t h ht hp
 all_goals
  have HH:=aA (fun ob=>xT (h.below (aB w ob)) (t:Int));have HB:=aA (fun ob=>sG (h.below (aB w ob)) ht);have HX:=aA (show decide (0≤(t:Int)∧(t:Int)<(L.n:Int))=true by simp;omega);have HP:=aA (show decide ((E.th t).phase≠0)=true by simpa using hp);have hc:w.cell? ⟨L.bE,1,none⟩=some (.slice (some ⟨L.g,0,none⟩) L.n L.gc):=h.qQ.cell_of rfl;have WS:=fun ob=>bO hc ob
  have ht':(t:Int)<(L.n:Int):=by omega
  clear h hp
  first|(have:=kA kk;go_enter func189,ntmps189)|(have:=kB kk;go_enter func249,ntmps249)|(have:=kC kk;go_enter func323,ntmps323)|(have:=kD kk;go_enter func286,ntmps286)
  go_wp2_with fail;refine (HH.out _).mono ?_;rintro e w1 ⟨rfl,rfl⟩;rw [HX.out];go_wp2_with fail;refine (HB.out _).mono ?_;rintro e w1 ⟨rfl,rfl⟩;rw [HP.out];go_wp2_with fail;exact cR (v:=.tuple #[.agg #[.int .i64 0,.int .i64 0],.int .i64 4]) (by simp [results,results189,results249,results323,results286,go_sem]) rfl ⟨rfl,(by repeat (first|exact aT _ _|assumption|refine aX ?_ _|refine cI ?_ (by simp) _))⟩
theorem int.vP:qI int.SR @int.RE 189:=gH.1
theorem list.vP:qI list.SR @list.RE 249:=gH.2.1
theorem tree.vP:qI tree.SR @tree.RE 323:=gH.2.2.1
theorem row.vP:qI row.SR @row.RE 286:=gH.2.2.2
def qK (SR:Type→Type) (RE:lA SR) (n0:Nat):Prop:=∀ {σ:Type} {R:SR σ} {L:Lt} {S:Nat→Prop} {E:bD σ} {w:World} {t:Nat} (_h:RE R L S E w) (_ht:t<L.n) (_hp:(E.th t).phase=0) (_he:(E.th t).ended=false),Calls prog n0 #[.pointer (some ⟨L.bE,0,none⟩),.int .i64 (t:Int)] w fun e w'=>e = .returned (.tuple #[.agg #[.int .i64 0,.int .i64 0],.int .i64 5])∧Below w.heap.size w w'
open row in
theorem gJ:qK int.SR @int.RE 189∧qK list.SR @list.RE 249∧qK tree.SR @tree.RE 323∧qK row.SR @row.RE 286:=by
 refine ⟨@mkK _ 0 ?_,@mkK _ 1 ?_,@mkK _ 2 ?_,@mkK _ 3 ?_⟩<;>intro kk σ R L S E w t h ht hp he
 all_goals
  have HH:=aA (fun ob=>xT (h.below (aB w ob)) (t:Int));have HB:=aA (fun ob=>sG (h.below (aB w ob)) ht);have HX:=aA (show decide (0≤(t:Int)∧(t:Int)<(L.n:Int))=true by simp;omega);have HP:=aA (show decide ((E.th t).phase≠0)=false by simpa using hp);have hc:w.cell? ⟨L.bE,1,none⟩=some (.slice (some ⟨L.g,0,none⟩) L.n L.gc):=h.qQ.cell_of rfl;have WS:=fun ob=>bO hc ob
  have ht':(t:Int)<(L.n:Int):=by omega
  obtain ⟨cv,cf,pv,hce,hcv,eP,-,-⟩:=h.cells ht rfl
  first|(have:=kA kk;obtain ⟨c0,c1,rfl⟩:=int.aF hcv.1)|(have:=kB kk;obtain ⟨c0,c1,rfl⟩:=int.aF hcv.1)|(have:=kC kk;obtain ⟨c0,c1,rfl⟩:=int.aF hcv.1)|(have:=kD kk;obtain ⟨c0,c1,c2,rfl⟩:=row.aF hcv.1)
  first|(have:=kA kk;obtain ⟨d0,d1,rfl⟩:=int.aF eP.1)|(have:=kB kk;obtain ⟨d0,d1,rfl⟩:=int.aF eP.1)|(have:=kC kk;obtain ⟨d0,d1,rfl⟩:=int.aF eP.1)|(have:=kD kk;obtain ⟨d0,d1,d2,rfl⟩:=row.aF eP.1)
  first|(have:=kA kk;have e1:w.cell? ⟨L.g,t*28+27,none⟩=some (.bool false):=by have:=hce 27 _ (by decide) rfl;rw [he] at this;exact this)|(have:=kB kk;have e1:w.cell? ⟨L.g,t*28+27,none⟩=some (.bool false):=by have:=hce 27 _ (by decide) rfl;rw [he] at this;exact this)|(have:=kC kk;have e1:w.cell? ⟨L.g,t*28+27,none⟩=some (.bool false):=by have:=hce 27 _ (by decide) rfl;rw [he] at this;exact this)|(have:=kD kk;have e1:w.cell? ⟨L.g,t*30+29,none⟩=some (.bool false):=by have:=hce 29 _ (by decide) rfl;rw [he] at this;exact this)
  have e1':=fun ob=>bO e1 ob
  clear h hp hce hcv eP he
  first|(have:=kA kk;go_enter func189,ntmps189)|(have:=kB kk;go_enter func249,ntmps249)|(have:=kC kk;go_enter func323,ntmps323)|(have:=kD kk;go_enter func286,ntmps286)
  go_wp2_with fail;refine (HH.out _).mono ?_;rintro e w1 ⟨rfl,rfl⟩;rw [HX.out];go_wp2_with fail;refine (HB.out _).mono ?_;rintro e w1 ⟨rfl,rfl⟩;rw [HP.out];go_wp2_with fail;exact cR (v:=.tuple #[.agg #[.int .i64 0,.int .i64 0],.int .i64 5]) (by simp [results,results189,results249,results323,results286,go_sem]) rfl ⟨rfl,(by repeat (first|exact aT _ _|assumption|refine aX ?_ _|refine cI ?_ (by simp) _))⟩
theorem int.vR:qK int.SR @int.RE 189:=gJ.1
theorem list.vR:qK list.SR @list.RE 249:=gJ.2.1
theorem tree.vR:qK tree.SR @tree.RE 323:=gJ.2.2.1
theorem row.vR:qK row.SR @row.RE 286:=gJ.2.2.2
def qJ (SR:Type→Type) (RE:lA SR) (n0:Nat):Prop:=∀ {σ:Type} {R:SR σ} {L:Lt} {S:Nat→Prop} {E:bD σ} {w:World} {t:Nat} (_h:RE R L S E w) (_ht:t<L.n) (_hp:(E.th t).phase=0) (_he:(E.th t).ended=true),Calls prog n0 #[.pointer (some ⟨L.bE,0,none⟩),.int .i64 (t:Int)] w fun e w'=>e = .returned (.tuple #[.agg #[.int .i64 (E.th t).VI,.int .i64 (E.th t).val],.int .i64 0])∧Below w.heap.size w w'
open row in
theorem gI:qJ int.SR @int.RE 189∧qJ list.SR @list.RE 249∧qJ tree.SR @tree.RE 323∧qJ row.SR @row.RE 286:=by
 refine ⟨@mkK _ 0 ?_,@mkK _ 1 ?_,@mkK _ 2 ?_,@mkK _ 3 ?_⟩<;>intro kk σ R L S E w t h ht hp he
 all_goals
  have HH:=aA (fun ob=>xT (h.below (aB w ob)) (t:Int));have HB:=aA (fun ob=>sG (h.below (aB w ob)) ht);have HX:=aA (show decide (0≤(t:Int)∧(t:Int)<(L.n:Int))=true by simp;omega);have HP:=aA (show decide ((E.th t).phase≠0)=false by simpa using hp);have hc:w.cell? ⟨L.bE,1,none⟩=some (.slice (some ⟨L.g,0,none⟩) L.n L.gc):=h.qQ.cell_of rfl;have WS:=fun ob=>bO hc ob
  have ht':(t:Int)<(L.n:Int):=by omega
  obtain ⟨cv,cf,pv,hce,hcv,eP,-,-⟩:=h.cells ht rfl
  first|(have:=kA kk;obtain ⟨c0,c1,rfl⟩:=int.aF hcv.1)|(have:=kB kk;obtain ⟨c0,c1,rfl⟩:=int.aF hcv.1)|(have:=kC kk;obtain ⟨c0,c1,rfl⟩:=int.aF hcv.1)|(have:=kD kk;obtain ⟨c0,c1,c2,rfl⟩:=row.aF hcv.1)
  first|(have:=kA kk;obtain ⟨d0,d1,rfl⟩:=int.aF eP.1)|(have:=kB kk;obtain ⟨d0,d1,rfl⟩:=int.aF eP.1)|(have:=kC kk;obtain ⟨d0,d1,rfl⟩:=int.aF eP.1)|(have:=kD kk;obtain ⟨d0,d1,d2,rfl⟩:=row.aF eP.1)
  first|(have:=kA kk;have e1:w.cell? ⟨L.g,t*28+27,none⟩=some (.bool true):=by have:=hce 27 _ (by decide) rfl;rw [he] at this;exact this)|(have:=kB kk;have e1:w.cell? ⟨L.g,t*28+27,none⟩=some (.bool true):=by have:=hce 27 _ (by decide) rfl;rw [he] at this;exact this)|(have:=kC kk;have e1:w.cell? ⟨L.g,t*28+27,none⟩=some (.bool true):=by have:=hce 27 _ (by decide) rfl;rw [he] at this;exact this)|(have:=kD kk;have e1:w.cell? ⟨L.g,t*30+29,none⟩=some (.bool true):=by have:=hce 29 _ (by decide) rfl;rw [he] at this;exact this)
  have e1':=fun ob=>bO e1 ob
  first|(have:=kA kk;have e2:w.cell? ⟨L.g,t*28+25,none⟩=some (.int .i64 (E.th t).VI):=hce 25 _ (by decide) rfl)|(have:=kB kk;have e2:w.cell? ⟨L.g,t*28+25,none⟩=some (.int .i64 (E.th t).VI):=hce 25 _ (by decide) rfl)|(have:=kC kk;have e2:w.cell? ⟨L.g,t*28+25,none⟩=some (.int .i64 (E.th t).VI):=hce 25 _ (by decide) rfl)|(have:=kD kk;have e2:w.cell? ⟨L.g,t*30+27,none⟩=some (.int .i64 (E.th t).VI):=hce 27 _ (by decide) rfl)
  have e2':=fun ob=>bO e2 ob
  first|(have:=kA kk;have e3:w.cell? ⟨L.g,t*28+25+1,none⟩=some (.int .i64 (E.th t).val):=hce 26 _ (by decide) rfl)|(have:=kB kk;have e3:w.cell? ⟨L.g,t*28+25+1,none⟩=some (.int .i64 (E.th t).val):=hce 26 _ (by decide) rfl)|(have:=kC kk;have e3:w.cell? ⟨L.g,t*28+25+1,none⟩=some (.int .i64 (E.th t).val):=hce 26 _ (by decide) rfl)|(have:=kD kk;have e3:w.cell? ⟨L.g,t*30+27+1,none⟩=some (.int .i64 (E.th t).val):=hce 28 _ (by decide) rfl)
  have e3':=fun ob=>bO e3 ob
  clear h hp hce hcv eP he
  first|(have:=kA kk;go_enter func189,ntmps189)|(have:=kB kk;go_enter func249,ntmps249)|(have:=kC kk;go_enter func323,ntmps323)|(have:=kD kk;go_enter func286,ntmps286)
  go_wp2_with fail;refine (HH.out _).mono ?_;rintro e w1 ⟨rfl,rfl⟩;rw [HX.out];go_wp2_with fail;refine (HB.out _).mono ?_;rintro e w1 ⟨rfl,rfl⟩;rw [HP.out];go_wp2_with fail;exact cR (v:=.tuple #[.agg #[.int .i64 (E.th t).VI,.int .i64 (E.th t).val],.int .i64 0]) (by simp [results,results189,results249,results323,results286,go_sem]) rfl ⟨rfl,(by repeat (first|exact aT _ _|assumption|refine aX ?_ _|refine cI ?_ (by simp) _))⟩
theorem int.vQ:qJ int.SR @int.RE 189:=gI.1
theorem list.vQ:qJ list.SR @list.RE 249:=gI.2.1
theorem tree.vQ:qJ tree.SR @tree.RE 323:=gI.2.2.1
theorem row.vQ:qJ row.SR @row.RE 286:=gI.2.2.2
end Go.Proofs.YtefjhnhdagolhaaGreat
