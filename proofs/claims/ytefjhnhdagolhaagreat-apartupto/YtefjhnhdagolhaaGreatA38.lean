import Derived.Test.YtefjhnhdagolhaaGreatA37
import Derived.Test.YtefjhnhdagolhaaGreatA15
set_option maxHeartbeats 4000000
set_option maxRecDepth 20000
namespace Go.Proofs.YtefjhnhdagolhaaGreat
open Tryz
open int list tree
open Go.RowKit
open M (aM aC aD Op eX bU bD bC aL aQ)
attribute [local go_sem ↓] Go.wp_at_zero Go.wp_at_succ
structure int.sC {σ:Type} (L:Lt) (E:bD σ) (t:Nat):Prop where
 N:E.gB≤1000000000
 st:(E.th t).stamp≤1000000000
 pr:E.prec<2*L.n+1
 sr:(E.th t).cG<129
 sp:(E.th t).spare<2*L.n+1
 b:(E.th t).aG≤L.cap
 p1:(E.th t).phase=1→(E.th t).past<3
 p2:(E.th t).phase=2→0≤E.dS (t / 16)∧E.dS (t / 16)<65536
 p3:(E.th t).phase=3→(E.th t).past≤1000000
 p5:(E.th t).phase=5→(E.th t).cG<2*L.n+1∧(E.th t).past≤bC L.n∧(E.lI (E.th t).cG).isSome
 p6:(E.th t).phase=6→(E.th t).past<M.tw L.n
 p7:(E.th t).phase=7→E.gB=(E.th t).stamp→∀ k,k<M.tw L.n→JK ((E.th t).tg k)∧JK ((E.th t).dw k)
 p8:(E.th t).phase=8→(∃ v f,(E.th t).now=some v∧(E.th t).fD=some f)∧(E.th t).past<3*(E.th t).aK.length∧(E.th t).aK.length≤64∧(E.th t).aK.getD ((E.th t).past / 3) 0<L.n
 p9:(E.th t).phase=9→(E.th t).spare<2*L.n+1∧(E.th t).past≤bC L.n∧(E.th t).now.isSome∧(E.th t).fD.isSome
 p12:(E.th t).phase=12∨(E.th t).phase=13→(E.th t).found<2*L.n+1
def ID (SR:Type→Type) (RE:lA SR) (aE:BX SR) (bG:RF SR) (n0 n1:Nat):Prop:=∀ {σ:Type} {R:SR σ} {L:Lt} {S:Nat→Prop} {E:bD σ} {w:World} {t:Nat} {P:M.Plain σ} {fA:Nat} {rv:Value} (_PX:bG R P L fA rv) (_h:RE R L S E w) (_ht:t<L.n) (_hC:sC L E t) (_LH:(E.th t).phase=1),Calls prog n0 #[.pointer (some ⟨L.g,t*n1,none⟩)] w fun e w'=>e = .returned (.tuple #[])∧aE R L S w (M.step P L.n L.cap E t) w'
open row in
theorem rN:ID int.SR @int.RE @int.aE @int.bG 200 28∧ID list.SR @list.RE @list.aE @list.bG 259 28∧ID tree.SR @tree.RE @tree.aE @tree.bG 333 28∧ID row.SR @row.RE @row.aE @row.bG 296 30:=by
 refine ⟨@mkK _ 0 ?_,@mkK _ 1 ?_,@mkK _ 2 ?_,@mkK _ 3 ?_⟩<;>intro kk σ R L S E w t P fA rv _hA h ht hC eA
 all_goals
  obtain ⟨cv,cf,pv,hc,-,-,-,-⟩:=h.cells ht rfl
  first|(have:=kA kk;have c3:w.cell? ⟨L.g,t*28+3,none⟩=some (.int .i64 1):=by have:=hc 3 _ (by decide) rfl;rw [eA] at this;exact this)|(have:=kB kk;have c3:w.cell? ⟨L.g,t*28+3,none⟩=some (.int .i64 1):=by have:=hc 3 _ (by decide) rfl;rw [eA] at this;exact this)|(have:=kC kk;have c3:w.cell? ⟨L.g,t*28+3,none⟩=some (.int .i64 1):=by have:=hc 3 _ (by decide) rfl;rw [eA] at this;exact this)|(have:=kD kk;have c3:w.cell? ⟨L.g,t*30+3,none⟩=some (.int .i64 1):=by have:=hc 3 _ (by decide) rfl;rw [eA] at this;exact this)
  have HH:=aA h;have HC:=aA hC;have HX:=aA (zA HH.out ht (HC.out.p1 eA));have HP:=aA eA;clear h hc hC eA
  first|(have:=kA kk;go_enter func200,ntmps200)|(have:=kB kk;go_enter func259,ntmps259)|(have:=kC kk;go_enter func333,ntmps333)|(have:=kD kk;go_enter func296,ntmps296)
  go_wp2_with fail;refine HX.out.mono ?_;rintro e w1 ⟨rfl,r1,k1⟩;have HR:=aA (aE.of r1 k1 rfl);clear r1 k1;go_wp2;refine cW (v:=.tuple #[]) (by simp [results,results200,results259,results333,results296,go_sem]) rfl ⟨rfl,HR.out.cast ?_⟩;unfold M.step;simp only [HP.out]
theorem int.VQ:ID int.SR @int.RE @int.aE @int.bG 200 28:=rN.1
theorem list.VQ:ID list.SR @list.RE @list.aE @list.bG 259 28:=rN.2.1
theorem tree.VQ:ID tree.SR @tree.RE @tree.aE @tree.bG 333 28:=rN.2.2.1
theorem row.VQ:ID row.SR @row.RE @row.aE @row.bG 296 30:=rN.2.2.2
def IE (SR:Type→Type) (RE:lA SR) (aE:BX SR) (bG:RF SR) (n0 n1:Nat):Prop:=∀ {σ:Type} {R:SR σ} {L:Lt} {S:Nat→Prop} {E:bD σ} {w:World} {t:Nat} {P:M.Plain σ} {fA:Nat} {rv:Value} (_PX:bG R P L fA rv) (_h:RE R L S E w) (_ht:t<L.n) (_hC:sC L E t) (_LH:(E.th t).phase=2),Calls prog n0 #[.pointer (some ⟨L.g,t*n1,none⟩)] w fun e w'=>e = .returned (.tuple #[])∧aE R L S w (M.step P L.n L.cap E t) w'
open row in
theorem rO:IE int.SR @int.RE @int.aE @int.bG 200 28∧IE list.SR @list.RE @list.aE @list.bG 259 28∧IE tree.SR @tree.RE @tree.aE @tree.bG 333 28∧IE row.SR @row.RE @row.aE @row.bG 296 30:=by
 refine ⟨@mkK _ 0 ?_,@mkK _ 1 ?_,@mkK _ 2 ?_,@mkK _ 3 ?_⟩<;>intro kk σ R L S E w t P fA rv _hA h ht hC eA
 all_goals
  obtain ⟨cv,cf,pv,hc,-,-,-,-⟩:=h.cells ht rfl
  first|(have:=kA kk;have c3:w.cell? ⟨L.g,t*28+3,none⟩=some (.int .i64 2):=by have:=hc 3 _ (by decide) rfl;rw [eA] at this;exact this)|(have:=kB kk;have c3:w.cell? ⟨L.g,t*28+3,none⟩=some (.int .i64 2):=by have:=hc 3 _ (by decide) rfl;rw [eA] at this;exact this)|(have:=kC kk;have c3:w.cell? ⟨L.g,t*28+3,none⟩=some (.int .i64 2):=by have:=hc 3 _ (by decide) rfl;rw [eA] at this;exact this)|(have:=kD kk;have c3:w.cell? ⟨L.g,t*30+3,none⟩=some (.int .i64 2):=by have:=hc 3 _ (by decide) rfl;rw [eA] at this;exact this)
  have HH:=aA h;have HC:=aA hC;have HX:=aA (TY HH.out ht (HC.out.p2 eA).1 (HC.out.p2 eA).2);have HP:=aA eA;clear h hc hC eA
  first|(have:=kA kk;go_enter func200,ntmps200)|(have:=kB kk;go_enter func259,ntmps259)|(have:=kC kk;go_enter func333,ntmps333)|(have:=kD kk;go_enter func296,ntmps296)
  go_wp2_with fail;refine HX.out.mono ?_;rintro e w1 ⟨rfl,r1,k1⟩;have HR:=aA (aE.of r1 k1 rfl);clear r1 k1;go_wp2;refine cW (v:=.tuple #[]) (by simp [results,results200,results259,results333,results296,go_sem]) rfl ⟨rfl,HR.out.cast ?_⟩;unfold M.step;simp only [HP.out]
theorem int.VR:IE int.SR @int.RE @int.aE @int.bG 200 28:=rO.1
theorem list.VR:IE list.SR @list.RE @list.aE @list.bG 259 28:=rO.2.1
theorem tree.VR:IE tree.SR @tree.RE @tree.aE @tree.bG 333 28:=rO.2.2.1
theorem row.VR:IE row.SR @row.RE @row.aE @row.bG 296 30:=rO.2.2.2
def IG (SR:Type→Type) (RE:lA SR) (aE:BX SR) (bG:RF SR) (n0 n1:Nat):Prop:=∀ {σ:Type} {R:SR σ} {L:Lt} {S:Nat→Prop} {E:bD σ} {w:World} {t:Nat} {P:M.Plain σ} {fA:Nat} {rv:Value} (_PX:bG R P L fA rv) (_h:RE R L S E w) (_ht:t<L.n) (_hC:sC L E t) (_LH:(E.th t).phase=3),Calls prog n0 #[.pointer (some ⟨L.g,t*n1,none⟩)] w fun e w'=>e = .returned (.tuple #[])∧aE R L S w (M.step P L.n L.cap E t) w'
open row in
theorem rQ:IG int.SR @int.RE @int.aE @int.bG 200 28∧IG list.SR @list.RE @list.aE @list.bG 259 28∧IG tree.SR @tree.RE @tree.aE @tree.bG 333 28∧IG row.SR @row.RE @row.aE @row.bG 296 30:=by
 refine ⟨@mkK _ 0 ?_,@mkK _ 1 ?_,@mkK _ 2 ?_,@mkK _ 3 ?_⟩<;>intro kk σ R L S E w t P fA rv _hA h ht hC eA
 all_goals
  obtain ⟨cv,cf,pv,hc,-,-,-,-⟩:=h.cells ht rfl
  first|(have:=kA kk;have c3:w.cell? ⟨L.g,t*28+3,none⟩=some (.int .i64 3):=by have:=hc 3 _ (by decide) rfl;rw [eA] at this;exact this)|(have:=kB kk;have c3:w.cell? ⟨L.g,t*28+3,none⟩=some (.int .i64 3):=by have:=hc 3 _ (by decide) rfl;rw [eA] at this;exact this)|(have:=kC kk;have c3:w.cell? ⟨L.g,t*28+3,none⟩=some (.int .i64 3):=by have:=hc 3 _ (by decide) rfl;rw [eA] at this;exact this)|(have:=kD kk;have c3:w.cell? ⟨L.g,t*30+3,none⟩=some (.int .i64 3):=by have:=hc 3 _ (by decide) rfl;rw [eA] at this;exact this)
  have c9:=hc 9 _ (by decide) rfl;have HH:=aA h;have HC:=aA hC;have HX:=aA (sR HH.out ht (E.th t).aG 4 (by have:=HC.out.b;have:=HH.out.ok.RK;omega) (HC.out.p3 eA));have HP:=aA eA;clear h hc hC eA
  first|(have:=kA kk;go_enter func200,ntmps200)|(have:=kB kk;go_enter func259,ntmps259)|(have:=kC kk;go_enter func333,ntmps333)|(have:=kD kk;go_enter func296,ntmps296)
  go_wp2_with fail;refine HX.out.mono ?_;rintro e w1 ⟨rfl,r1,k1⟩;have HR:=aA (aE.of r1 k1 rfl);clear r1 k1;go_wp2;refine cW (v:=.tuple #[]) (by simp [results,results200,results259,results333,results296,go_sem]) rfl ⟨rfl,HR.out.cast ?_⟩;unfold M.step;simp only [HP.out]
theorem int.VS:IG int.SR @int.RE @int.aE @int.bG 200 28:=rQ.1
theorem list.VS:IG list.SR @list.RE @list.aE @list.bG 259 28:=rQ.2.1
theorem tree.VS:IG tree.SR @tree.RE @tree.aE @tree.bG 333 28:=rQ.2.2.1
theorem row.VS:IG row.SR @row.RE @row.aE @row.bG 296 30:=rQ.2.2.2
def II (SR:Type→Type) (RE:lA SR) (aE:BX SR) (bG:RF SR) (n0 n1:Nat):Prop:=∀ {σ:Type} {R:SR σ} {L:Lt} {S:Nat→Prop} {E:bD σ} {w:World} {t:Nat} {P:M.Plain σ} {fA:Nat} {rv:Value} (_PX:bG R P L fA rv) (_h:RE R L S E w) (_ht:t<L.n) (_hC:sC L E t) (_LH:(E.th t).phase=4),Calls prog n0 #[.pointer (some ⟨L.g,t*n1,none⟩)] w fun e w'=>e = .returned (.tuple #[])∧aE R L S w (M.step P L.n L.cap E t) w'
open row in
theorem rR:II int.SR @int.RE @int.aE @int.bG 200 28∧II list.SR @list.RE @list.aE @list.bG 259 28∧II tree.SR @tree.RE @tree.aE @tree.bG 333 28∧II row.SR @row.RE @row.aE @row.bG 296 30:=by
 refine ⟨@mkK _ 0 ?_,@mkK _ 1 ?_,@mkK _ 2 ?_,@mkK _ 3 ?_⟩<;>intro kk σ R L S E w t P fA rv _hA h ht hC eA
 all_goals
  obtain ⟨cv,cf,pv,hc,-,-,-,-⟩:=h.cells ht rfl
  first|(have:=kA kk;have c3:w.cell? ⟨L.g,t*28+3,none⟩=some (.int .i64 4):=by have:=hc 3 _ (by decide) rfl;rw [eA] at this;exact this)|(have:=kB kk;have c3:w.cell? ⟨L.g,t*28+3,none⟩=some (.int .i64 4):=by have:=hc 3 _ (by decide) rfl;rw [eA] at this;exact this)|(have:=kC kk;have c3:w.cell? ⟨L.g,t*28+3,none⟩=some (.int .i64 4):=by have:=hc 3 _ (by decide) rfl;rw [eA] at this;exact this)|(have:=kD kk;have c3:w.cell? ⟨L.g,t*30+3,none⟩=some (.int .i64 4):=by have:=hc 3 _ (by decide) rfl;rw [eA] at this;exact this)
  have HH:=aA h;have HC:=aA hC;have HX:=aA (UJ HH.out ht);have HP:=aA eA;clear h hc hC eA
  first|(have:=kA kk;go_enter func200,ntmps200)|(have:=kB kk;go_enter func259,ntmps259)|(have:=kC kk;go_enter func333,ntmps333)|(have:=kD kk;go_enter func296,ntmps296)
  go_wp2_with fail;refine HX.out.mono ?_;rintro e w1 ⟨rfl,r1,k1⟩;have HR:=aA (aE.of r1 k1 rfl);clear r1 k1;go_wp2;refine cW (v:=.tuple #[]) (by simp [results,results200,results259,results333,results296,go_sem]) rfl ⟨rfl,HR.out.cast ?_⟩;unfold M.step;simp only [HP.out]
theorem int.VT:II int.SR @int.RE @int.aE @int.bG 200 28:=rR.1
theorem list.VT:II list.SR @list.RE @list.aE @list.bG 259 28:=rR.2.1
theorem tree.VT:II tree.SR @tree.RE @tree.aE @tree.bG 333 28:=rR.2.2.1
theorem row.VT:II row.SR @row.RE @row.aE @row.bG 296 30:=rR.2.2.2
def IJ (SR:Type→Type) (RE:lA SR) (aE:BX SR) (bG:RF SR) (n0 n1:Nat):Prop:=∀ {σ:Type} {R:SR σ} {L:Lt} {S:Nat→Prop} {E:bD σ} {w:World} {t:Nat} {P:M.Plain σ} {fA:Nat} {rv:Value} (_PX:bG R P L fA rv) (_h:RE R L S E w) (_ht:t<L.n) (_hC:sC L E t) (_LH:(E.th t).phase=5),Calls prog n0 #[.pointer (some ⟨L.g,t*n1,none⟩)] w fun e w'=>e = .returned (.tuple #[])∧aE R L S w (M.step P L.n L.cap E t) w'
open row in
theorem rS:IJ int.SR @int.RE @int.aE @int.bG 200 28∧IJ list.SR @list.RE @list.aE @list.bG 259 28∧IJ tree.SR @tree.RE @tree.aE @tree.bG 333 28∧IJ row.SR @row.RE @row.aE @row.bG 296 30:=by
 refine ⟨@mkK _ 0 ?_,@mkK _ 1 ?_,@mkK _ 2 ?_,@mkK _ 3 ?_⟩<;>intro kk σ R L S E w t P fA rv _hA h ht hC eA
 all_goals
  obtain ⟨cv,cf,pv,hc,-,-,-,-⟩:=h.cells ht rfl
  first|(have:=kA kk;have c3:w.cell? ⟨L.g,t*28+3,none⟩=some (.int .i64 5):=by have:=hc 3 _ (by decide) rfl;rw [eA] at this;exact this)|(have:=kB kk;have c3:w.cell? ⟨L.g,t*28+3,none⟩=some (.int .i64 5):=by have:=hc 3 _ (by decide) rfl;rw [eA] at this;exact this)|(have:=kC kk;have c3:w.cell? ⟨L.g,t*28+3,none⟩=some (.int .i64 5):=by have:=hc 3 _ (by decide) rfl;rw [eA] at this;exact this)|(have:=kD kk;have c3:w.cell? ⟨L.g,t*30+3,none⟩=some (.int .i64 5):=by have:=hc 3 _ (by decide) rfl;rw [eA] at this;exact this)
  have HH:=aA h;have HC:=aA hC;have HX:=aA (zI HH.out ht (HC.out.p5 eA).1 (HC.out.p5 eA).2.1 HC.out.st (HC.out.p5 eA).2.2);have HP:=aA eA;clear h hc hC eA
  first|(have:=kA kk;go_enter func200,ntmps200)|(have:=kB kk;go_enter func259,ntmps259)|(have:=kC kk;go_enter func333,ntmps333)|(have:=kD kk;go_enter func296,ntmps296)
  go_wp2_with fail;refine HX.out.mono ?_;rintro e w1 ⟨rfl,L1⟩;have HR:=aA L1;clear L1;go_wp2;refine cW (v:=.tuple #[]) (by simp [results,results200,results259,results333,results296,go_sem]) rfl ⟨rfl,HR.out.cast ?_⟩;unfold M.step copied;simp only [HP.out]
  all_goals (split<;>rfl)
theorem int.VU:IJ int.SR @int.RE @int.aE @int.bG 200 28:=rS.1
theorem list.VU:IJ list.SR @list.RE @list.aE @list.bG 259 28:=rS.2.1
theorem tree.VU:IJ tree.SR @tree.RE @tree.aE @tree.bG 333 28:=rS.2.2.1
theorem row.VU:IJ row.SR @row.RE @row.aE @row.bG 296 30:=rS.2.2.2
def IK (SR:Type→Type) (RE:lA SR) (aE:BX SR) (bG:RF SR) (n0 n1:Nat):Prop:=∀ {σ:Type} {R:SR σ} {L:Lt} {S:Nat→Prop} {E:bD σ} {w:World} {t:Nat} {P:M.Plain σ} {fA:Nat} {rv:Value} (_PX:bG R P L fA rv) (_h:RE R L S E w) (_ht:t<L.n) (_hC:sC L E t) (_LH:(E.th t).phase=6),Calls prog n0 #[.pointer (some ⟨L.g,t*n1,none⟩)] w fun e w'=>e = .returned (.tuple #[])∧aE R L S w (M.step P L.n L.cap E t) w'
open row in
theorem rT:IK int.SR @int.RE @int.aE @int.bG 200 28∧IK list.SR @list.RE @list.aE @list.bG 259 28∧IK tree.SR @tree.RE @tree.aE @tree.bG 333 28∧IK row.SR @row.RE @row.aE @row.bG 296 30:=by
 refine ⟨@mkK _ 0 ?_,@mkK _ 1 ?_,@mkK _ 2 ?_,@mkK _ 3 ?_⟩<;>intro kk σ R L S E w t P fA rv _hA h ht hC eA
 all_goals
  obtain ⟨cv,cf,pv,hc,-,-,-,-⟩:=h.cells ht rfl
  first|(have:=kA kk;have c3:w.cell? ⟨L.g,t*28+3,none⟩=some (.int .i64 6):=by have:=hc 3 _ (by decide) rfl;rw [eA] at this;exact this)|(have:=kB kk;have c3:w.cell? ⟨L.g,t*28+3,none⟩=some (.int .i64 6):=by have:=hc 3 _ (by decide) rfl;rw [eA] at this;exact this)|(have:=kC kk;have c3:w.cell? ⟨L.g,t*28+3,none⟩=some (.int .i64 6):=by have:=hc 3 _ (by decide) rfl;rw [eA] at this;exact this)|(have:=kD kk;have c3:w.cell? ⟨L.g,t*30+3,none⟩=some (.int .i64 6):=by have:=hc 3 _ (by decide) rfl;rw [eA] at this;exact this)
  have HH:=aA h;have HC:=aA hC;have HX:=aA (VH HH.out ht (HC.out.p6 eA));have HP:=aA eA;clear h hc hC eA
  first|(have:=kA kk;go_enter func200,ntmps200)|(have:=kB kk;go_enter func259,ntmps259)|(have:=kC kk;go_enter func333,ntmps333)|(have:=kD kk;go_enter func296,ntmps296)
  go_wp2_with fail;refine HX.out.mono ?_;rintro e w1 ⟨rfl,r1,k1⟩;have HR:=aA (aE.of r1 k1 rfl);clear r1 k1;go_wp2;refine cW (v:=.tuple #[]) (by simp [results,results200,results259,results333,results296,go_sem]) rfl ⟨rfl,HR.out.cast ?_⟩;unfold M.step;simp only [HP.out]
theorem int.VV:IK int.SR @int.RE @int.aE @int.bG 200 28:=rT.1
theorem list.VV:IK list.SR @list.RE @list.aE @list.bG 259 28:=rT.2.1
theorem tree.VV:IK tree.SR @tree.RE @tree.aE @tree.bG 333 28:=rT.2.2.1
theorem row.VV:IK row.SR @row.RE @row.aE @row.bG 296 30:=rT.2.2.2
def IL (SR:Type→Type) (RE:lA SR) (aE:BX SR) (bG:RF SR) (n0 n1:Nat):Prop:=∀ {σ:Type} {R:SR σ} {L:Lt} {S:Nat→Prop} {E:bD σ} {w:World} {t:Nat} {P:M.Plain σ} {fA:Nat} {rv:Value} (_PX:bG R P L fA rv) (_h:RE R L S E w) (_ht:t<L.n) (_hC:sC L E t) (_LH:(E.th t).phase=7),Calls prog n0 #[.pointer (some ⟨L.g,t*n1,none⟩)] w fun e w'=>e = .returned (.tuple #[])∧aE R L S w (M.step P L.n L.cap E t) w'
open row in
theorem rU:IL int.SR @int.RE @int.aE @int.bG 200 28∧IL list.SR @list.RE @list.aE @list.bG 259 28∧IL tree.SR @tree.RE @tree.aE @tree.bG 333 28∧IL row.SR @row.RE @row.aE @row.bG 296 30:=by
 refine ⟨@mkK _ 0 ?_,@mkK _ 1 ?_,@mkK _ 2 ?_,@mkK _ 3 ?_⟩<;>intro kk σ R L S E w t P fA rv _hA h ht hC eA
 all_goals
  obtain ⟨cv,cf,pv,hc,-,-,-,-⟩:=h.cells ht rfl
  first|(have:=kA kk;have c3:w.cell? ⟨L.g,t*28+3,none⟩=some (.int .i64 7):=by have:=hc 3 _ (by decide) rfl;rw [eA] at this;exact this)|(have:=kB kk;have c3:w.cell? ⟨L.g,t*28+3,none⟩=some (.int .i64 7):=by have:=hc 3 _ (by decide) rfl;rw [eA] at this;exact this)|(have:=kC kk;have c3:w.cell? ⟨L.g,t*28+3,none⟩=some (.int .i64 7):=by have:=hc 3 _ (by decide) rfl;rw [eA] at this;exact this)|(have:=kD kk;have c3:w.cell? ⟨L.g,t*30+3,none⟩=some (.int .i64 7):=by have:=hc 3 _ (by decide) rfl;rw [eA] at this;exact this)
  have HH:=aA h;have HC:=aA hC;have HX:=aA (MI HH.out ht HC.out.N HC.out.st (by have:=HC.out.pr;have:=HH.out.ok.n64;omega) HC.out.sr HC.out.b (HC.out.p7 eA));have HP:=aA eA;clear h hc hC eA
  first|(have:=kA kk;go_enter func200,ntmps200)|(have:=kB kk;go_enter func259,ntmps259)|(have:=kC kk;go_enter func333,ntmps333)|(have:=kD kk;go_enter func296,ntmps296)
  go_wp2_with fail;refine HX.out.mono ?_;rintro e w1 ⟨rfl,L1⟩;have HR:=aA L1;clear L1;go_wp2;refine cW (v:=.tuple #[]) (by simp [results,results200,results259,results333,results296,go_sem]) rfl ⟨rfl,HR.out.cast ?_⟩;unfold M.step checked;simp only [HP.out]
theorem int.VW:IL int.SR @int.RE @int.aE @int.bG 200 28:=rU.1
theorem list.VW:IL list.SR @list.RE @list.aE @list.bG 259 28:=rU.2.1
theorem tree.VW:IL tree.SR @tree.RE @tree.aE @tree.bG 333 28:=rU.2.2.1
theorem row.VW:IL row.SR @row.RE @row.aE @row.bG 296 30:=rU.2.2.2
def IM (SR:Type→Type) (RE:lA SR) (aE:BX SR) (bG:RF SR) (qs:{σ:Type}→SR σ→σ→Nat) (n0 n1:Nat):Prop:=∀ {σ:Type} {R:SR σ} {L:Lt} {S:Nat→Prop} {E:bD σ} {w:World} {t:Nat} {P:M.Plain σ} {fA:Nat} {rv:Value} (_hA:bG R P L fA rv) (_h:RE R L S E w) (_ht:t<L.n) (_hC:sC L E t) (_LH:(E.th t).phase=8) (_hZ:∀ v,(E.th t).now=some v→(qs R) v.st≤1000000000000),Calls prog n0 #[.pointer (some ⟨L.g,t*n1,none⟩)] w fun e w'=>e = .returned (.tuple #[])∧aE R L S w (M.step P L.n L.cap E t) w'
open row in
theorem rV:IM int.SR @int.RE @int.aE @int.bG @int.SR.sz 200 28∧IM list.SR @list.RE @list.aE @list.bG @list.SR.sz 259 28∧IM tree.SR @tree.RE @tree.aE @tree.bG @tree.SR.sz 333 28∧IM row.SR @row.RE @row.aE @row.bG @row.SR.sz 296 30:=by
 refine ⟨@mkK _ 0 ?_,@mkK _ 1 ?_,@mkK _ 2 ?_,@mkK _ 3 ?_⟩<;>intro kk σ R L S E w t P fA rv hA h ht hC eA hZ
 all_goals
  obtain ⟨cv,cf,pv,hc,-,-,-,-⟩:=h.cells ht rfl
  first|(have:=kA kk;have c3:w.cell? ⟨L.g,t*28+3,none⟩=some (.int .i64 8):=by have:=hc 3 _ (by decide) rfl;rw [eA] at this;exact this)|(have:=kB kk;have c3:w.cell? ⟨L.g,t*28+3,none⟩=some (.int .i64 8):=by have:=hc 3 _ (by decide) rfl;rw [eA] at this;exact this)|(have:=kC kk;have c3:w.cell? ⟨L.g,t*28+3,none⟩=some (.int .i64 8):=by have:=hc 3 _ (by decide) rfl;rw [eA] at this;exact this)|(have:=kD kk;have c3:w.cell? ⟨L.g,t*30+3,none⟩=some (.int .i64 8):=by have:=hc 3 _ (by decide) rfl;rw [eA] at this;exact this)
  have HH:=aA h;have HC:=aA hC;obtain ⟨⟨v,f,hv,hf⟩,hp,hl,hk⟩:=hC.p8 eA;have HX:=aA (UB hA HH.out ht HC.out.st HC.out.sr hv hf (hZ v hv) hp hl hk);have HP:=aA eA;clear h hc hC eA hv hf hp hl hk hZ
  first|(have:=kA kk;go_enter func200,ntmps200)|(have:=kB kk;go_enter func259,ntmps259)|(have:=kC kk;go_enter func333,ntmps333)|(have:=kD kk;go_enter func296,ntmps296)
  go_wp2_with fail;refine HX.out.mono ?_;rintro e w1 ⟨rfl,L1⟩;have HR:=aA L1;clear L1;go_wp2;refine cW (v:=.tuple #[]) (by simp [results,results200,results259,results333,results296,go_sem]) rfl ⟨rfl,HR.out.cast ?_⟩;unfold M.step mZ jQ zL;simp only [HP.out]
theorem int.VX:IM int.SR @int.RE @int.aE @int.bG @int.SR.sz 200 28:=rV.1
theorem list.VX:IM list.SR @list.RE @list.aE @list.bG @list.SR.sz 259 28:=rV.2.1
theorem tree.VX:IM tree.SR @tree.RE @tree.aE @tree.bG @tree.SR.sz 333 28:=rV.2.2.1
theorem row.VX:IM row.SR @row.RE @row.aE @row.bG @row.SR.sz 296 30:=rV.2.2.2
def IP (SR:Type→Type) (RE:lA SR) (aE:BX SR) (bG:RF SR) (n0 n1:Nat):Prop:=∀ {σ:Type} {R:SR σ} {L:Lt} {S:Nat→Prop} {E:bD σ} {w:World} {t:Nat} {P:M.Plain σ} {fA:Nat} {rv:Value} (_PX:bG R P L fA rv) (_h:RE R L S E w) (_ht:t<L.n) (_hC:sC L E t) (_LH:(E.th t).phase=9),Calls prog n0 #[.pointer (some ⟨L.g,t*n1,none⟩)] w fun e w'=>e = .returned (.tuple #[])∧aE R L S w (M.step P L.n L.cap E t) w'
open row in
theorem rW:IP int.SR @int.RE @int.aE @int.bG 200 28∧IP list.SR @list.RE @list.aE @list.bG 259 28∧IP tree.SR @tree.RE @tree.aE @tree.bG 333 28∧IP row.SR @row.RE @row.aE @row.bG 296 30:=by
 refine ⟨@mkK _ 0 ?_,@mkK _ 1 ?_,@mkK _ 2 ?_,@mkK _ 3 ?_⟩<;>intro kk σ R L S E w t P fA rv _hA h ht hC eA
 all_goals
  obtain ⟨cv,cf,pv,hc,-,-,-,-⟩:=h.cells ht rfl
  first|(have:=kA kk;have c3:w.cell? ⟨L.g,t*28+3,none⟩=some (.int .i64 9):=by have:=hc 3 _ (by decide) rfl;rw [eA] at this;exact this)|(have:=kB kk;have c3:w.cell? ⟨L.g,t*28+3,none⟩=some (.int .i64 9):=by have:=hc 3 _ (by decide) rfl;rw [eA] at this;exact this)|(have:=kC kk;have c3:w.cell? ⟨L.g,t*28+3,none⟩=some (.int .i64 9):=by have:=hc 3 _ (by decide) rfl;rw [eA] at this;exact this)|(have:=kD kk;have c3:w.cell? ⟨L.g,t*30+3,none⟩=some (.int .i64 9):=by have:=hc 3 _ (by decide) rfl;rw [eA] at this;exact this)
  have HH:=aA h;have HC:=aA hC;have HX:=aA (xB HH.out ht (HC.out.p9 eA).1 (HC.out.p9 eA).2.1 (HC.out.p9 eA).2.2);have HP:=aA eA;clear h hc hC eA
  first|(have:=kA kk;go_enter func200,ntmps200)|(have:=kB kk;go_enter func259,ntmps259)|(have:=kC kk;go_enter func333,ntmps333)|(have:=kD kk;go_enter func296,ntmps296)
  go_wp2_with fail;refine HX.out.mono ?_;rintro e w1 ⟨rfl,L1⟩;have HR:=aA L1;clear L1;go_wp2;refine cW (v:=.tuple #[]) (by simp [results,results200,results259,results333,results296,go_sem]) rfl ⟨rfl,HR.out.cast ?_⟩;unfold M.step wrote;simp only [HP.out]
  all_goals (split<;>rfl)
theorem int.VY:IP int.SR @int.RE @int.aE @int.bG 200 28:=rW.1
theorem list.VY:IP list.SR @list.RE @list.aE @list.bG 259 28:=rW.2.1
theorem tree.VY:IP tree.SR @tree.RE @tree.aE @tree.bG 333 28:=rW.2.2.1
theorem row.VY:IP row.SR @row.RE @row.aE @row.bG 296 30:=rW.2.2.2
def CX (SR:Type→Type) (RE:lA SR) (aE:BX SR) (bG:RF SR) (n0 n1:Nat):Prop:=∀ {σ:Type} {R:SR σ} {L:Lt} {S:Nat→Prop} {E:bD σ} {w:World} {t:Nat} {P:M.Plain σ} {fA:Nat} {rv:Value} (_PX:bG R P L fA rv) (_h:RE R L S E w) (_ht:t<L.n) (_hC:sC L E t) (_LH:(E.th t).phase=11),Calls prog n0 #[.pointer (some ⟨L.g,t*n1,none⟩)] w fun e w'=>e = .returned (.tuple #[])∧aE R L S w (M.step P L.n L.cap E t) w'
open row in
theorem oL:CX int.SR @int.RE @int.aE @int.bG 200 28∧CX list.SR @list.RE @list.aE @list.bG 259 28∧CX tree.SR @tree.RE @tree.aE @tree.bG 333 28∧CX row.SR @row.RE @row.aE @row.bG 296 30:=by
 refine ⟨@mkK _ 0 ?_,@mkK _ 1 ?_,@mkK _ 2 ?_,@mkK _ 3 ?_⟩<;>intro kk σ R L S E w t P fA rv _hA h ht hC eA
 all_goals
  obtain ⟨cv,cf,pv,hc,-,-,-,-⟩:=h.cells ht rfl
  first|(have:=kA kk;have c3:w.cell? ⟨L.g,t*28+3,none⟩=some (.int .i64 11):=by have:=hc 3 _ (by decide) rfl;rw [eA] at this;exact this)|(have:=kB kk;have c3:w.cell? ⟨L.g,t*28+3,none⟩=some (.int .i64 11):=by have:=hc 3 _ (by decide) rfl;rw [eA] at this;exact this)|(have:=kC kk;have c3:w.cell? ⟨L.g,t*28+3,none⟩=some (.int .i64 11):=by have:=hc 3 _ (by decide) rfl;rw [eA] at this;exact this)|(have:=kD kk;have c3:w.cell? ⟨L.g,t*30+3,none⟩=some (.int .i64 11):=by have:=hc 3 _ (by decide) rfl;rw [eA] at this;exact this)
  have HH:=aA h;have HC:=aA hC;have HX:=aA (MJ HH.out ht HC.out.pr (by have:=HC.out.N;omega));have HP:=aA eA;clear h hc hC eA
  first|(have:=kA kk;go_enter func200,ntmps200)|(have:=kB kk;go_enter func259,ntmps259)|(have:=kC kk;go_enter func333,ntmps333)|(have:=kD kk;go_enter func296,ntmps296)
  go_wp2_with fail;refine HX.out.mono ?_;rintro e w1 ⟨rfl,r1,k1⟩;have HR:=aA (aE.of r1 k1 rfl);clear r1 k1;go_wp2;refine cW (v:=.tuple #[]) (by simp [results,results200,results259,results333,results296,go_sem]) rfl ⟨rfl,HR.out.cast ?_⟩;unfold M.step;simp only [HP.out]
theorem int.MU:CX int.SR @int.RE @int.aE @int.bG 200 28:=oL.1
theorem list.MU:CX list.SR @list.RE @list.aE @list.bG 259 28:=oL.2.1
theorem tree.MU:CX tree.SR @tree.RE @tree.aE @tree.bG 333 28:=oL.2.2.1
theorem row.MU:CX row.SR @row.RE @row.aE @row.bG 296 30:=oL.2.2.2
def CY (SR:Type→Type) (RE:lA SR) (aE:BX SR) (bG:RF SR) (n0 n1:Nat):Prop:=∀ {σ:Type} {R:SR σ} {L:Lt} {S:Nat→Prop} {E:bD σ} {w:World} {t:Nat} {P:M.Plain σ} {fA:Nat} {rv:Value} (_PX:bG R P L fA rv) (_h:RE R L S E w) (_ht:t<L.n) (_hC:sC L E t) (_LH:(E.th t).phase=12),Calls prog n0 #[.pointer (some ⟨L.g,t*n1,none⟩)] w fun e w'=>e = .returned (.tuple #[])∧aE R L S w (M.step P L.n L.cap E t) w'
open row in
theorem oM:CY int.SR @int.RE @int.aE @int.bG 200 28∧CY list.SR @list.RE @list.aE @list.bG 259 28∧CY tree.SR @tree.RE @tree.aE @tree.bG 333 28∧CY row.SR @row.RE @row.aE @row.bG 296 30:=by
 refine ⟨@mkK _ 0 ?_,@mkK _ 1 ?_,@mkK _ 2 ?_,@mkK _ 3 ?_⟩<;>intro kk σ R L S E w t P fA rv _hA h ht hC eA
 all_goals
  obtain ⟨cv,cf,pv,hc,-,-,-,-⟩:=h.cells ht rfl
  first|(have:=kA kk;have c3:w.cell? ⟨L.g,t*28+3,none⟩=some (.int .i64 12):=by have:=hc 3 _ (by decide) rfl;rw [eA] at this;exact this)|(have:=kB kk;have c3:w.cell? ⟨L.g,t*28+3,none⟩=some (.int .i64 12):=by have:=hc 3 _ (by decide) rfl;rw [eA] at this;exact this)|(have:=kC kk;have c3:w.cell? ⟨L.g,t*28+3,none⟩=some (.int .i64 12):=by have:=hc 3 _ (by decide) rfl;rw [eA] at this;exact this)|(have:=kD kk;have c3:w.cell? ⟨L.g,t*30+3,none⟩=some (.int .i64 12):=by have:=hc 3 _ (by decide) rfl;rw [eA] at this;exact this)
  have HH:=aA h;have HC:=aA hC;have HX:=aA (uD HH.out ht (HC.out.p12 (.inl eA)));have HP:=aA eA;clear h hc hC eA
  first|(have:=kA kk;go_enter func200,ntmps200)|(have:=kB kk;go_enter func259,ntmps259)|(have:=kC kk;go_enter func333,ntmps333)|(have:=kD kk;go_enter func296,ntmps296)
  go_wp2_with fail;refine HX.out.mono ?_;rintro e w1 ⟨rfl,L1⟩;have HR:=aA L1;clear L1;go_wp2;refine cW (v:=.tuple #[]) (by simp [results,results200,results259,results333,results296,go_sem]) rfl ⟨rfl,HR.out.cast ?_⟩;unfold M.step;simp only [HP.out]
theorem int.MV:CY int.SR @int.RE @int.aE @int.bG 200 28:=oM.1
theorem list.MV:CY list.SR @list.RE @list.aE @list.bG 259 28:=oM.2.1
theorem tree.MV:CY tree.SR @tree.RE @tree.aE @tree.bG 333 28:=oM.2.2.1
theorem row.MV:CY row.SR @row.RE @row.aE @row.bG 296 30:=oM.2.2.2
def CZ (SR:Type→Type) (RE:lA SR) (aE:BX SR) (bG:RF SR) (n0 n1:Nat):Prop:=∀ {σ:Type} {R:SR σ} {L:Lt} {S:Nat→Prop} {E:bD σ} {w:World} {t:Nat} {P:M.Plain σ} {fA:Nat} {rv:Value} (_PX:bG R P L fA rv) (_h:RE R L S E w) (_ht:t<L.n) (_hC:sC L E t) (_LH:(E.th t).phase=13),Calls prog n0 #[.pointer (some ⟨L.g,t*n1,none⟩)] w fun e w'=>e = .returned (.tuple #[])∧aE R L S w (M.step P L.n L.cap E t) w'
open row in
theorem oN:CZ int.SR @int.RE @int.aE @int.bG 200 28∧CZ list.SR @list.RE @list.aE @list.bG 259 28∧CZ tree.SR @tree.RE @tree.aE @tree.bG 333 28∧CZ row.SR @row.RE @row.aE @row.bG 296 30:=by
 refine ⟨@mkK _ 0 ?_,@mkK _ 1 ?_,@mkK _ 2 ?_,@mkK _ 3 ?_⟩<;>intro kk σ R L S E w t P fA rv _hA h ht hC eA
 all_goals
  obtain ⟨cv,cf,pv,hc,-,-,-,-⟩:=h.cells ht rfl
  first|(have:=kA kk;have c3:w.cell? ⟨L.g,t*28+3,none⟩=some (.int .i64 13):=by have:=hc 3 _ (by decide) rfl;rw [eA] at this;exact this)|(have:=kB kk;have c3:w.cell? ⟨L.g,t*28+3,none⟩=some (.int .i64 13):=by have:=hc 3 _ (by decide) rfl;rw [eA] at this;exact this)|(have:=kC kk;have c3:w.cell? ⟨L.g,t*28+3,none⟩=some (.int .i64 13):=by have:=hc 3 _ (by decide) rfl;rw [eA] at this;exact this)|(have:=kD kk;have c3:w.cell? ⟨L.g,t*30+3,none⟩=some (.int .i64 13):=by have:=hc 3 _ (by decide) rfl;rw [eA] at this;exact this)
  have HH:=aA h;have HC:=aA hC;have HX:=aA (wX HH.out ht (HC.out.p12 (.inr eA)));have HP:=aA eA;clear h hc hC eA
  first|(have:=kA kk;go_enter func200,ntmps200)|(have:=kB kk;go_enter func259,ntmps259)|(have:=kC kk;go_enter func333,ntmps333)|(have:=kD kk;go_enter func296,ntmps296)
  go_wp2_with fail;refine HX.out.mono ?_;rintro e w1 ⟨rfl,L1⟩;have HR:=aA L1;clear L1;go_wp2;refine cW (v:=.tuple #[]) (by simp [results,results200,results259,results333,results296,go_sem]) rfl ⟨rfl,HR.out.cast ?_⟩;unfold M.step;simp only [HP.out]
theorem int.MW:CZ int.SR @int.RE @int.aE @int.bG 200 28:=oN.1
theorem list.MW:CZ list.SR @list.RE @list.aE @list.bG 259 28:=oN.2.1
theorem tree.MW:CZ tree.SR @tree.RE @tree.aE @tree.bG 333 28:=oN.2.2.1
theorem row.MW:CZ row.SR @row.RE @row.aE @row.bG 296 30:=oN.2.2.2
def CW (SR:Type→Type) (RE:lA SR) (aE:BX SR) (n0 n1:Nat):Prop:=∀ {σ:Type} {R:SR σ} {L:Lt} {S:Nat→Prop} {E:bD σ} {w:World} {t:Nat} {P:M.Plain σ} (_h:RE R L S E w) (_ht:t<L.n) (_hC:sC L E t) (_LH:(E.th t).phase=10),Calls prog n0 #[.pointer (some ⟨L.g,t*n1,none⟩)] w fun e w'=>e = .returned (.tuple #[])∧aE R L S w (M.step P L.n L.cap E t) w'
open row in
theorem oK:CW int.SR @int.RE @int.aE 200 28∧CW list.SR @list.RE @list.aE 259 28∧CW tree.SR @tree.RE @tree.aE 333 28∧CW row.SR @row.RE @row.aE 296 30:=by
 refine ⟨@mkK _ 0 ?_,@mkK _ 1 ?_,@mkK _ 2 ?_,@mkK _ 3 ?_⟩<;>intro kk σ R L S E w t P h ht hC eA
 all_goals
  obtain ⟨cv,cf,pv,hc,-,-,-,-⟩:=h.cells ht rfl
  first|(have:=kA kk;have c3:w.cell? ⟨L.g,t*28+3,none⟩=some (.int .i64 10):=by have:=hc 3 _ (by decide) rfl;rw [eA] at this;exact this)|(have:=kB kk;have c3:w.cell? ⟨L.g,t*28+3,none⟩=some (.int .i64 10):=by have:=hc 3 _ (by decide) rfl;rw [eA] at this;exact this)|(have:=kC kk;have c3:w.cell? ⟨L.g,t*28+3,none⟩=some (.int .i64 10):=by have:=hc 3 _ (by decide) rfl;rw [eA] at this;exact this)|(have:=kD kk;have c3:w.cell? ⟨L.g,t*30+3,none⟩=some (.int .i64 10):=by have:=hc 3 _ (by decide) rfl;rw [eA] at this;exact this)
  have hn:=h.ok.n64;have YB:=h.ok.RK
  first|(have:=kA kk;refine (have HX:Calls prog 213 #[.pointer (some ⟨L.g,t*28,none⟩)] w fun e w'=>e = .returned (.tuple #[])∧int.aE R L S w (M.step P L.n L.cap E t) w':=?_;?_))|(have:=kB kk;refine (have HX:Calls prog 272 #[.pointer (some ⟨L.g,t*28,none⟩)] w fun e w'=>e = .returned (.tuple #[])∧list.aE R L S w (M.step P L.n L.cap E t) w':=?_;?_))|(have:=kC kk;refine (have HX:Calls prog 346 #[.pointer (some ⟨L.g,t*28,none⟩)] w fun e w'=>e = .returned (.tuple #[])∧tree.aE R L S w (M.step P L.n L.cap E t) w':=?_;?_))|(have:=kD kk;refine (have HX:Calls prog 309 #[.pointer (some ⟨L.g,t*30,none⟩)] w fun e w'=>e = .returned (.tuple #[])∧row.aE R L S w (M.step P L.n L.cap E t) w':=?_;?_))
  ·by_cases q:E.gB=(E.th t).stamp∧E.prec=(E.th t).cG
   ·refine (wS h ht hC.N q.1 q.2 hC.sr (by have:=hC.sp;omega) (by have:=hC.b;omega)).mono ?_
    rintro e w1 ⟨rfl,r1,k1⟩;refine ⟨rfl,(aE.of r1 k1 rfl).cast ?_⟩;unfold M.step;simp only [eA];rw [aJ q]
   ·refine (tY h ht hC.st (by have:=hC.pr;omega) q hC.sr (by have:=hC.sp;omega) hC.b).mono ?_
    rintro e w1 ⟨rfl,r1,k1⟩;refine ⟨rfl,(aE.of r1 k1 rfl).cast ?_⟩;unfold M.step;simp only [eA];rw [aN q]
  have HX:=aA HX;clear h hc hC eA
  first|(have:=kA kk;go_enter func200,ntmps200)|(have:=kB kk;go_enter func259,ntmps259)|(have:=kC kk;go_enter func333,ntmps333)|(have:=kD kk;go_enter func296,ntmps296)
  go_wp2_with fail;refine HX.out.mono ?_;rintro e w1 ⟨rfl,L1⟩;have HR:=aA L1;clear L1;go_wp2;exact cW (v:=.tuple #[]) (by simp [results,results200,results259,results333,results296,go_sem]) rfl ⟨rfl,HR.out⟩
theorem int.MT:CW int.SR @int.RE @int.aE 200 28:=oK.1
theorem list.MT:CW list.SR @list.RE @list.aE 259 28:=oK.2.1
theorem tree.MT:CW tree.SR @tree.RE @tree.aE 333 28:=oK.2.2.1
theorem row.MT:CW row.SR @row.RE @row.aE 296 30:=oK.2.2.2
def IQ (SR:Type→Type) (RE:lA SR) (aE:BX SR) (bG:RF SR) (qs:{σ:Type}→SR σ→σ→Nat) (n0 n1:Nat):Prop:=∀ {σ:Type} {R:SR σ} {L:Lt} {S:Nat→Prop} {E:bD σ} {w:World} {t:Nat} {P:M.Plain σ} {fA:Nat} {rv:Value} (_hA:bG R P L fA rv) (_h:RE R L S E w) (_ht:t<L.n) (_hC:sC L E t) (_hZ:(E.th t).phase=8→∀ v,(E.th t).now=some v→(qs R) v.st≤1000000000000) (_h1:1≤(E.th t).phase) (_h13:(E.th t).phase≤13),Calls prog n0 #[.pointer (some ⟨L.g,t*n1,none⟩)] w fun e w'=>e = .returned (.tuple #[])∧aE R L S w (M.step P L.n L.cap E t) w'
open row in
theorem rY:IQ int.SR @int.RE @int.aE @int.bG @int.SR.sz 200 28∧IQ list.SR @list.RE @list.aE @list.bG @list.SR.sz 259 28∧IQ tree.SR @tree.RE @tree.aE @tree.bG @tree.SR.sz 333 28∧IQ row.SR @row.RE @row.aE @row.bG @row.SR.sz 296 30:=by
 refine ⟨?_,?_,?_,?_⟩<;>intro σ R L S E w t P fA rv hA h ht hC hZ h1 h13
 all_goals
  rcases (by omega:(E.th t).phase=1∨(E.th t).phase=2∨(E.th t).phase=3∨(E.th t).phase=4∨(E.th t).phase=5∨(E.th t).phase=6∨(E.th t).phase=7∨(E.th t).phase=8∨(E.th t).phase=9∨(E.th t).phase=10∨(E.th t).phase=11∨(E.th t).phase=12∨(E.th t).phase=13) with q|q|q|q|q|q|q|q|q|q|q|q|q
  ·exact VQ hA h ht hC q
  ·exact VR hA h ht hC q
  ·exact VS hA h ht hC q
  ·exact VT hA h ht hC q
  ·exact VU hA h ht hC q
  ·exact VV hA h ht hC q
  ·exact VW hA h ht hC q
  ·exact VX hA h ht hC q (hZ q)
  ·exact VY hA h ht hC q
  ·exact MT h ht hC q
  ·exact MU hA h ht hC q
  ·exact MV hA h ht hC q
  ·exact MW hA h ht hC q
theorem int.PE:IQ int.SR @int.RE @int.aE @int.bG @int.SR.sz 200 28:=rY.1
theorem list.PE:IQ list.SR @list.RE @list.aE @list.bG @list.SR.sz 259 28:=rY.2.1
theorem tree.PE:IQ tree.SR @tree.RE @tree.aE @tree.bG @tree.SR.sz 333 28:=rY.2.2.1
theorem row.PE:IQ row.SR @row.RE @row.aE @row.bG @row.SR.sz 296 30:=rY.2.2.2
end Go.Proofs.YtefjhnhdagolhaaGreat
namespace Go.Proofs.YtefjhnhdagolhaaGreat
open Tryz
open int list tree
open Go.RowKit
open M (aM aC aD Op eX bU bD aR bJ bC aL aQ)
theorem int.sC.of {σ:Type} {L:Lt} {E:bD σ} {Y:aR} {t:Nat} {P:M.Plain σ} (hn:L.n≤64) (hc:L.cap≤64) (h:M.Inv P L.n L.cap E Y) (hB:M.SY L.n E) (hN:E.gB≤1000000000) (ht:t<L.n):sC L E t:=by
 obtain ⟨pb,nf,hp,G,T⟩:=h;have X:=T t ht;obtain ⟨b1,b2,b3⟩:=hB.th t ht;have part:∀ p,1≤p→p≤10→(E.th t).phase=p→(Y.th t).part=p:=by
  intro p h1 od hq
  by_cases q:(Y.th t).part=11
  ·have:=X.p4 q;omega
  ·have:=X.p2 (by have:=X.p1;omega);omega
 have len:∀ p,1≤p→p≤10→(E.th t).phase=p→(E.th t).past<(Y.th t).len L.n p:=by
  intro p h1 od hq;have a:=part p h1 od hq;have:=X.p3 (by omega) (by omega);rw [a] at this;omega
 have hsp:(E.th t).spare<2*L.n+1:=by rcases X.sp with q|q<;>omega
 refine {N:=hN,st:=bK b3 hN,pr:=hB.pr,sr:=by omega,sp:=hsp,b:=by rw [X.bk];exact X.bc,p1:=?_,p2:=?_,p3:=?_,p5:=?_,p6:=?_,p7:=?_,p8:=?_,p9:=?_,p12:=fun _=>b2}
 ·intro q;have:=len 1 (by omega) (by omega) q;simpa [bJ.len] using this
 ·intro q
  have e:E.dS (t / 16)=M.bits L.n (fun k=>(Y.th k).aO) (t / 16):=G.dS (t / 16) (by unfold M.tw;omega);rw [e];exact ⟨M.AU _ _ _,M.TN _ _ _⟩
 ·intro q
  have:=len 3 (by omega) (by omega) q;have e:(Y.th t).len L.n 3=(Y.th t).aG:=by simp [bJ.len]
  have:=X.bc;omega
 ·intro q
  have:=len 5 (by omega) (by omega) q;have e:(Y.th t).len L.n 5=bC L.n+1:=by simp [bJ.len]
  have a:=part 5 (by omega) (by omega) q;exact ⟨b1,by omega,(X.s1 (by omega) (by omega)).2.2.2.2.2.2.2⟩
 ·intro q
  have:=len 6 (by omega) (by omega) q;have e:(Y.th t).len L.n 6=M.tw L.n:=by simp [bJ.len]
  omega
 ·intro q hs k hk
  have a:=part 7 (by omega) (by omega) q;have hs':(E.th t).stamp=(M.view E Y pb nf).N:=by rw [←hs,hp];rfl
  have t7:=(X.t7 (by omega) (by omega)).1 k hk;have d7:=(X.d7 (.inr a) hs').1 k (by unfold bC;omega);have c7:=G.ug k hk;rw [t7,d7,c7];exact ⟨⟨M.AU _ _ _,M.TN _ _ _⟩,M.AU _ _ _,M.TN _ _ _⟩
 ·intro q
  have a:=part 8 (by omega) (by omega) q;have l:=len 8 (by omega) (by omega) q;have e:(Y.th t).len L.n 8=3*(Y.th t).aK.length:=by simp [bJ.len]
  obtain ⟨-,d1,d2⟩:=X.d6 (by omega) (by omega);obtain ⟨h1,h2,-⟩:=X.h8 (by omega) (by omega);have hl:(E.th t).past<3*(E.th t).aK.length:=by rw [h1];omega
  have hm:∀ k∈(E.th t).aK,k<L.n:=by
   intro k hk;rw [h2] at hk;exact List.mem_range.mp (List.mem_filter.mp hk).1
  refine ⟨?_,hl,?_,?_⟩
  ·obtain ⟨v,hv⟩:=pQ.mp d1
   obtain ⟨f,hf⟩:=pQ.mp d2;exact ⟨v,f,hv,hf⟩
  ·rw [h2]
   refine bK (List.length_filter_le _ _) ?_;rw [aBU];exact hn
  ·have hi:(E.th t).past / 3<(E.th t).aK.length:=by omega
   rw [List.getD_eq_getElem?_getD,eT hi];exact hm _ (AA hi)
 ·intro q
  have:=len 9 (by omega) (by omega) q;have e:(Y.th t).len L.n 9=bC L.n+1:=by simp [bJ.len]
  have a:=part 9 (by omega) (by omega) q;obtain ⟨-,d1,d2⟩:=X.d6 (by omega) (by omega);exact ⟨hsp,by omega,d1,d2⟩
end Go.Proofs.YtefjhnhdagolhaaGreat
