import Derived.Test.YtefjhnhdagolhabGreatQ27
set_option maxHeartbeats 4000000
set_option maxRecDepth 20000
namespace Go.Proofs.YtefjhnhdagolhabGreat
open int list tree
open Go.RowKit
open M (aH aC aE Op cY aS aK aR aL aM)
attribute [local go_sem ↓] Go.wp_at_zero Go.wp_at_succ
structure int.cF {σ:Type} (L:Lt) (E:aK σ) (t:Nat):Prop where
 N:E.cZ≤1000000000
 st:(E.th t).stamp≤1000000000
 pr:E.prec<2*L.n+1
 sr:(E.th t).aQ<129
 sp:(E.th t).spare<2*L.n+1
 b:(E.th t).aG≤L.cap
 p1:(E.th t).phase=1→(E.th t).past<3
 p2:(E.th t).phase=2→0≤E.bD (t / 16)∧E.bD (t / 16)<65536
 p3:(E.th t).phase=3→(E.th t).past≤1000000
 p5:(E.th t).phase=5→(E.th t).aQ<2*L.n+1∧(E.th t).past≤aR L.n∧(E.eV (E.th t).aQ).isSome
 p6:(E.th t).phase=6→(E.th t).past<M.tw L.n
 p7:(E.th t).phase=7→E.cZ=(E.th t).stamp→∀ k,k<M.tw L.n→eY ((E.th t).tg k)∧eY ((E.th t).dw k)
 p8:(E.th t).phase=8→(∃ v f,(E.th t).now=some v∧(E.th t).cC=some f)∧(E.th t).past<3*(E.th t).aI.length∧(E.th t).aI.length≤64∧(E.th t).aI.getD ((E.th t).past / 3) 0<L.n
 p9:(E.th t).phase=9→(E.th t).spare<2*L.n+1∧(E.th t).past≤aR L.n∧(E.th t).now.isSome∧(E.th t).cC.isSome
 ZO:(E.th t).phase=12∨(E.th t).phase=13→(E.th t).found<2*L.n+1
structure list.cF {σ:Type} (L:Lt) (E:aK σ) (t:Nat):Prop where
 N:E.cZ≤1000000000
 st:(E.th t).stamp≤1000000000
 pr:E.prec<2*L.n+1
 sr:(E.th t).aQ<129
 sp:(E.th t).spare<2*L.n+1
 b:(E.th t).aG≤L.cap
 p1:(E.th t).phase=1→(E.th t).past<3
 p2:(E.th t).phase=2→0≤E.bD (t / 16)∧E.bD (t / 16)<65536
 p3:(E.th t).phase=3→(E.th t).past≤1000000
 p5:(E.th t).phase=5→(E.th t).aQ<2*L.n+1∧(E.th t).past≤aR L.n∧(E.eV (E.th t).aQ).isSome
 p6:(E.th t).phase=6→(E.th t).past<M.tw L.n
 p7:(E.th t).phase=7→E.cZ=(E.th t).stamp→∀ k,k<M.tw L.n→eY ((E.th t).tg k)∧eY ((E.th t).dw k)
 p8:(E.th t).phase=8→(∃ v f,(E.th t).now=some v∧(E.th t).cC=some f)∧(E.th t).past<3*(E.th t).aI.length∧(E.th t).aI.length≤64∧(E.th t).aI.getD ((E.th t).past / 3) 0<L.n
 p9:(E.th t).phase=9→(E.th t).spare<2*L.n+1∧(E.th t).past≤aR L.n∧(E.th t).now.isSome∧(E.th t).cC.isSome
 ZO:(E.th t).phase=12∨(E.th t).phase=13→(E.th t).found<2*L.n+1
structure tree.cF {σ:Type} (L:Lt) (E:aK σ) (t:Nat):Prop where
 N:E.cZ≤1000000000
 st:(E.th t).stamp≤1000000000
 pr:E.prec<2*L.n+1
 sr:(E.th t).aQ<129
 sp:(E.th t).spare<2*L.n+1
 b:(E.th t).aG≤L.cap
 p1:(E.th t).phase=1→(E.th t).past<3
 p2:(E.th t).phase=2→0≤E.bD (t / 16)∧E.bD (t / 16)<65536
 p3:(E.th t).phase=3→(E.th t).past≤1000000
 p5:(E.th t).phase=5→(E.th t).aQ<2*L.n+1∧(E.th t).past≤aR L.n∧(E.eV (E.th t).aQ).isSome
 p6:(E.th t).phase=6→(E.th t).past<M.tw L.n
 p7:(E.th t).phase=7→E.cZ=(E.th t).stamp→∀ k,k<M.tw L.n→eY ((E.th t).tg k)∧eY ((E.th t).dw k)
 p8:(E.th t).phase=8→(∃ v f,(E.th t).now=some v∧(E.th t).cC=some f)∧(E.th t).past<3*(E.th t).aI.length∧(E.th t).aI.length≤64∧(E.th t).aI.getD ((E.th t).past / 3) 0<L.n
 p9:(E.th t).phase=9→(E.th t).spare<2*L.n+1∧(E.th t).past≤aR L.n∧(E.th t).now.isSome∧(E.th t).cC.isSome
 ZO:(E.th t).phase=12∨(E.th t).phase=13→(E.th t).found<2*L.n+1
structure row.cF {σ:Type} (L:Lt) (E:aK σ) (t:Nat):Prop where
 N:E.cZ≤1000000000
 st:(E.th t).stamp≤1000000000
 pr:E.prec<2*L.n+1
 sr:(E.th t).aQ<129
 sp:(E.th t).spare<2*L.n+1
 b:(E.th t).aG≤L.cap
 p1:(E.th t).phase=1→(E.th t).past<3
 p2:(E.th t).phase=2→0≤E.bD (t / 16)∧E.bD (t / 16)<65536
 p3:(E.th t).phase=3→(E.th t).past≤1000000
 p5:(E.th t).phase=5→(E.th t).aQ<2*L.n+1∧(E.th t).past≤aR L.n∧(E.eV (E.th t).aQ).isSome
 p6:(E.th t).phase=6→(E.th t).past<M.tw L.n
 p7:(E.th t).phase=7→E.cZ=(E.th t).stamp→∀ k,k<M.tw L.n→eY ((E.th t).tg k)∧eY ((E.th t).dw k)
 p8:(E.th t).phase=8→(∃ v f,(E.th t).now=some v∧(E.th t).cC=some f)∧(E.th t).past<3*(E.th t).aI.length∧(E.th t).aI.length≤64∧(E.th t).aI.getD ((E.th t).past / 3) 0<L.n
 p9:(E.th t).phase=9→(E.th t).spare<2*L.n+1∧(E.th t).past≤aR L.n∧(E.th t).now.isSome∧(E.th t).cC.isSome
 ZO:(E.th t).phase=12∨(E.th t).phase=13→(E.th t).found<2*L.n+1
def int.mQ:Prop:=∀ {σ:Type} {R:SR σ} {L:Lt} {S:Nat→Prop} {E:aK σ} {w:World} {t:Nat} {P:M.Plain σ} {fA:Nat} {rv:Value} (_kF:cE R P L fA rv) (_h:RE R L S E w) (_ht:t<L.n) (_hC:cF L E t) (_iO:(E.th t).phase=1),Calls Tryz.prog 109 #[.pointer (some ⟨L.g,t*28,none⟩)] w fun e w'=>e = .returned (.tuple #[])∧aF R L S w (M.step P L.n L.cap E t) w'
def list.mQ:Prop:=∀ {σ:Type} {R:SR σ} {L:Lt} {S:Nat→Prop} {E:aK σ} {w:World} {t:Nat} {P:M.Plain σ} {fA:Nat} {rv:Value} (_kF:cE R P L fA rv) (_h:RE R L S E w) (_ht:t<L.n) (_hC:cF L E t) (_iO:(E.th t).phase=1),Calls Tryz.prog 170 #[.pointer (some ⟨L.g,t*28,none⟩)] w fun e w'=>e = .returned (.tuple #[])∧aF R L S w (M.step P L.n L.cap E t) w'
def tree.mQ:Prop:=∀ {σ:Type} {R:SR σ} {L:Lt} {S:Nat→Prop} {E:aK σ} {w:World} {t:Nat} {P:M.Plain σ} {fA:Nat} {rv:Value} (_kF:cE R P L fA rv) (_h:RE R L S E w) (_ht:t<L.n) (_hC:cF L E t) (_iO:(E.th t).phase=1),Calls Tryz.prog 244 #[.pointer (some ⟨L.g,t*28,none⟩)] w fun e w'=>e = .returned (.tuple #[])∧aF R L S w (M.step P L.n L.cap E t) w'
theorem CI:int.mQ∧list.mQ∧tree.mQ:=by
 refine ⟨@mkK _ 0 ?_,@mkK _ 1 ?_,@mkK _ 2 ?_⟩<;>intro kk σ R L S E w t P fA rv _hA h ht hC cG
 all_goals
  obtain ⟨cv,cf,pv,hc,-,-,-,-⟩:=h.cells ht rfl
  have c3:w.cell? ⟨L.g,t*28+3,none⟩=some (.int .i64 1):=by have:=hc 3 _ (by decide) rfl;rw [cG] at this;exact this
  have HH:=aA h
  have HC:=aA hC
  have HX:=aA (oW HH.out ht (HC.out.p1 cG))
  have HP:=aA cG
  clear h hc hC cG
  first|(have _:Kn 0:=kk;go_enter Tryz.func109,Tryz.ntmps109)|(have _:Kn 1:=kk;go_enter Tryz.func170,Tryz.ntmps170)|(have _:Kn 2:=kk;go_enter Tryz.func244,Tryz.ntmps244)
  go_wp2_with fail
  refine HX.out.mono ?_
  rintro e w1 ⟨rfl,r1,k1⟩
  have HR:=aA (aF.of r1 k1 rfl)
  clear r1 k1
  go_wp2
  refine bodyPost_end (v:=.tuple #[]) (by simp [results,Tryz.results109,Tryz.results170,Tryz.results244,go_sem]) rfl ⟨rfl,HR.out.cast ?_⟩
  unfold M.step
  simp only [HP.out]
theorem int.GM:mQ:=CI.1
theorem list.GM:mQ:=CI.2.1
theorem tree.GM:mQ:=CI.2.2
theorem row.GM {σ:Type} {R:SR σ} {L:Lt} {S:Nat→Prop} {E:aK σ} {w:World} {t:Nat} {P:M.Plain σ} {fA:Nat} {rv:Value} (_hA:cE R P L fA rv) (h:RE R L S E w) (ht:t<L.n) (hC:cF L E t) (cG:(E.th t).phase=1) :
  Calls Tryz.prog 207 #[.pointer (some ⟨L.g,t*30,none⟩)] w fun e w'=>e = .returned (.tuple #[])∧aF R L S w (M.step P L.n L.cap E t) w':=by
 obtain ⟨cv,cf,pv,hc,-,-,-,-⟩:=h.cells ht rfl
 have c3:w.cell? ⟨L.g,t*30+3,none⟩=some (.int .i64 1):=by have:=hc 3 _ (by decide) rfl;rw [cG] at this;exact this
 have HH:=aA h
 have HC:=aA hC
 have HX:=aA (oW HH.out ht (HC.out.p1 cG))
 have HP:=aA cG
 clear h hc hC cG
 go_enter Tryz.func207,Tryz.ntmps207
 go_wp2_with fail
 refine HX.out.mono ?_
 rintro e w1 ⟨rfl,r1,k1⟩
 have HR:=aA (aF.of r1 k1 rfl)
 clear r1 k1
 go_wp2
 refine bodyPost_end (v:=.tuple #[]) (by simp [results,Tryz.results207,go_sem]) rfl ⟨rfl,HR.out.cast ?_⟩
 unfold M.step
 simp only [HP.out]
def int.mR:Prop:=∀ {σ:Type} {R:SR σ} {L:Lt} {S:Nat→Prop} {E:aK σ} {w:World} {t:Nat} {P:M.Plain σ} {fA:Nat} {rv:Value} (_kF:cE R P L fA rv) (_h:RE R L S E w) (_ht:t<L.n) (_hC:cF L E t) (_iO:(E.th t).phase=2),Calls Tryz.prog 109 #[.pointer (some ⟨L.g,t*28,none⟩)] w fun e w'=>e = .returned (.tuple #[])∧aF R L S w (M.step P L.n L.cap E t) w'
def list.mR:Prop:=∀ {σ:Type} {R:SR σ} {L:Lt} {S:Nat→Prop} {E:aK σ} {w:World} {t:Nat} {P:M.Plain σ} {fA:Nat} {rv:Value} (_kF:cE R P L fA rv) (_h:RE R L S E w) (_ht:t<L.n) (_hC:cF L E t) (_iO:(E.th t).phase=2),Calls Tryz.prog 170 #[.pointer (some ⟨L.g,t*28,none⟩)] w fun e w'=>e = .returned (.tuple #[])∧aF R L S w (M.step P L.n L.cap E t) w'
def tree.mR:Prop:=∀ {σ:Type} {R:SR σ} {L:Lt} {S:Nat→Prop} {E:aK σ} {w:World} {t:Nat} {P:M.Plain σ} {fA:Nat} {rv:Value} (_kF:cE R P L fA rv) (_h:RE R L S E w) (_ht:t<L.n) (_hC:cF L E t) (_iO:(E.th t).phase=2),Calls Tryz.prog 244 #[.pointer (some ⟨L.g,t*28,none⟩)] w fun e w'=>e = .returned (.tuple #[])∧aF R L S w (M.step P L.n L.cap E t) w'
theorem CJ:int.mR∧list.mR∧tree.mR:=by
 refine ⟨@mkK _ 0 ?_,@mkK _ 1 ?_,@mkK _ 2 ?_⟩<;>intro kk σ R L S E w t P fA rv _hA h ht hC cG
 all_goals
  obtain ⟨cv,cf,pv,hc,-,-,-,-⟩:=h.cells ht rfl
  have c3:w.cell? ⟨L.g,t*28+3,none⟩=some (.int .i64 2):=by have:=hc 3 _ (by decide) rfl;rw [cG] at this;exact this
  have HH:=aA h
  have HC:=aA hC
  have HX:=aA (CB HH.out ht (HC.out.p2 cG).1 (HC.out.p2 cG).2)
  have HP:=aA cG
  clear h hc hC cG
  first|(have _:Kn 0:=kk;go_enter Tryz.func109,Tryz.ntmps109)|(have _:Kn 1:=kk;go_enter Tryz.func170,Tryz.ntmps170)|(have _:Kn 2:=kk;go_enter Tryz.func244,Tryz.ntmps244)
  go_wp2_with fail
  refine HX.out.mono ?_
  rintro e w1 ⟨rfl,r1,k1⟩
  have HR:=aA (aF.of r1 k1 rfl)
  clear r1 k1
  go_wp2
  refine bodyPost_end (v:=.tuple #[]) (by simp [results,Tryz.results109,Tryz.results170,Tryz.results244,go_sem]) rfl ⟨rfl,HR.out.cast ?_⟩
  unfold M.step
  simp only [HP.out]
theorem int.GN:mR:=CJ.1
theorem list.GN:mR:=CJ.2.1
theorem tree.GN:mR:=CJ.2.2
theorem row.GN {σ:Type} {R:SR σ} {L:Lt} {S:Nat→Prop} {E:aK σ} {w:World} {t:Nat} {P:M.Plain σ} {fA:Nat} {rv:Value} (_hA:cE R P L fA rv) (h:RE R L S E w) (ht:t<L.n) (hC:cF L E t) (cG:(E.th t).phase=2) :
  Calls Tryz.prog 207 #[.pointer (some ⟨L.g,t*30,none⟩)] w fun e w'=>e = .returned (.tuple #[])∧aF R L S w (M.step P L.n L.cap E t) w':=by
 obtain ⟨cv,cf,pv,hc,-,-,-,-⟩:=h.cells ht rfl
 have c3:w.cell? ⟨L.g,t*30+3,none⟩=some (.int .i64 2):=by have:=hc 3 _ (by decide) rfl;rw [cG] at this;exact this
 have HH:=aA h
 have HC:=aA hC
 have HX:=aA (CB HH.out ht (HC.out.p2 cG).1 (HC.out.p2 cG).2)
 have HP:=aA cG
 clear h hc hC cG
 go_enter Tryz.func207,Tryz.ntmps207
 go_wp2_with fail
 refine HX.out.mono ?_
 rintro e w1 ⟨rfl,r1,k1⟩
 have HR:=aA (aF.of r1 k1 rfl)
 clear r1 k1
 go_wp2
 refine bodyPost_end (v:=.tuple #[]) (by simp [results,Tryz.results207,go_sem]) rfl ⟨rfl,HR.out.cast ?_⟩
 unfold M.step
 simp only [HP.out]
def int.mS:Prop:=∀ {σ:Type} {R:SR σ} {L:Lt} {S:Nat→Prop} {E:aK σ} {w:World} {t:Nat} {P:M.Plain σ} {fA:Nat} {rv:Value} (_kF:cE R P L fA rv) (_h:RE R L S E w) (_ht:t<L.n) (_hC:cF L E t) (_iO:(E.th t).phase=3),Calls Tryz.prog 109 #[.pointer (some ⟨L.g,t*28,none⟩)] w fun e w'=>e = .returned (.tuple #[])∧aF R L S w (M.step P L.n L.cap E t) w'
def list.mS:Prop:=∀ {σ:Type} {R:SR σ} {L:Lt} {S:Nat→Prop} {E:aK σ} {w:World} {t:Nat} {P:M.Plain σ} {fA:Nat} {rv:Value} (_kF:cE R P L fA rv) (_h:RE R L S E w) (_ht:t<L.n) (_hC:cF L E t) (_iO:(E.th t).phase=3),Calls Tryz.prog 170 #[.pointer (some ⟨L.g,t*28,none⟩)] w fun e w'=>e = .returned (.tuple #[])∧aF R L S w (M.step P L.n L.cap E t) w'
def tree.mS:Prop:=∀ {σ:Type} {R:SR σ} {L:Lt} {S:Nat→Prop} {E:aK σ} {w:World} {t:Nat} {P:M.Plain σ} {fA:Nat} {rv:Value} (_kF:cE R P L fA rv) (_h:RE R L S E w) (_ht:t<L.n) (_hC:cF L E t) (_iO:(E.th t).phase=3),Calls Tryz.prog 244 #[.pointer (some ⟨L.g,t*28,none⟩)] w fun e w'=>e = .returned (.tuple #[])∧aF R L S w (M.step P L.n L.cap E t) w'
theorem CL:int.mS∧list.mS∧tree.mS:=by
 refine ⟨@mkK _ 0 ?_,@mkK _ 1 ?_,@mkK _ 2 ?_⟩<;>intro kk σ R L S E w t P fA rv _hA h ht hC cG
 all_goals
  obtain ⟨cv,cf,pv,hc,-,-,-,-⟩:=h.cells ht rfl
  have c3:w.cell? ⟨L.g,t*28+3,none⟩=some (.int .i64 3):=by have:=hc 3 _ (by decide) rfl;rw [cG] at this;exact this
  have c9:=hc 9 _ (by decide) rfl
  have HH:=aA h
  have HC:=aA hC
  have HX:=aA (jZ HH.out ht (E.th t).aG 4 (by have:=HC.out.b;have:=HH.out.ok.WU;omega) (HC.out.p3 cG))
  have HP:=aA cG
  clear h hc hC cG
  first|(have _:Kn 0:=kk;go_enter Tryz.func109,Tryz.ntmps109)|(have _:Kn 1:=kk;go_enter Tryz.func170,Tryz.ntmps170)|(have _:Kn 2:=kk;go_enter Tryz.func244,Tryz.ntmps244)
  go_wp2_with fail
  refine HX.out.mono ?_
  rintro e w1 ⟨rfl,r1,k1⟩
  have HR:=aA (aF.of r1 k1 rfl)
  clear r1 k1
  go_wp2
  refine bodyPost_end (v:=.tuple #[]) (by simp [results,Tryz.results109,Tryz.results170,Tryz.results244,go_sem]) rfl ⟨rfl,HR.out.cast ?_⟩
  unfold M.step
  simp only [HP.out]
theorem int.GQ:mS:=CL.1
theorem list.GQ:mS:=CL.2.1
theorem tree.GQ:mS:=CL.2.2
theorem row.GQ {σ:Type} {R:SR σ} {L:Lt} {S:Nat→Prop} {E:aK σ} {w:World} {t:Nat} {P:M.Plain σ} {fA:Nat} {rv:Value} (_hA:cE R P L fA rv) (h:RE R L S E w) (ht:t<L.n) (hC:cF L E t) (cG:(E.th t).phase=3) :
  Calls Tryz.prog 207 #[.pointer (some ⟨L.g,t*30,none⟩)] w fun e w'=>e = .returned (.tuple #[])∧aF R L S w (M.step P L.n L.cap E t) w':=by
 obtain ⟨cv,cf,pv,hc,-,-,-,-⟩:=h.cells ht rfl
 have c3:w.cell? ⟨L.g,t*30+3,none⟩=some (.int .i64 3):=by have:=hc 3 _ (by decide) rfl;rw [cG] at this;exact this
 have c9:=hc 9 _ (by decide) rfl
 have HH:=aA h
 have HC:=aA hC
 have HX:=aA (jZ HH.out ht (E.th t).aG 4 (by have:=HC.out.b;have:=HH.out.ok.WU;omega) (HC.out.p3 cG))
 have HP:=aA cG
 clear h hc hC cG
 go_enter Tryz.func207,Tryz.ntmps207
 go_wp2_with fail
 refine HX.out.mono ?_
 rintro e w1 ⟨rfl,r1,k1⟩
 have HR:=aA (aF.of r1 k1 rfl)
 clear r1 k1
 go_wp2
 refine bodyPost_end (v:=.tuple #[]) (by simp [results,Tryz.results207,go_sem]) rfl ⟨rfl,HR.out.cast ?_⟩
 unfold M.step
 simp only [HP.out]
def int.mT:Prop:=∀ {σ:Type} {R:SR σ} {L:Lt} {S:Nat→Prop} {E:aK σ} {w:World} {t:Nat} {P:M.Plain σ} {fA:Nat} {rv:Value} (_kF:cE R P L fA rv) (_h:RE R L S E w) (_ht:t<L.n) (_hC:cF L E t) (_iO:(E.th t).phase=4),Calls Tryz.prog 109 #[.pointer (some ⟨L.g,t*28,none⟩)] w fun e w'=>e = .returned (.tuple #[])∧aF R L S w (M.step P L.n L.cap E t) w'
def list.mT:Prop:=∀ {σ:Type} {R:SR σ} {L:Lt} {S:Nat→Prop} {E:aK σ} {w:World} {t:Nat} {P:M.Plain σ} {fA:Nat} {rv:Value} (_kF:cE R P L fA rv) (_h:RE R L S E w) (_ht:t<L.n) (_hC:cF L E t) (_iO:(E.th t).phase=4),Calls Tryz.prog 170 #[.pointer (some ⟨L.g,t*28,none⟩)] w fun e w'=>e = .returned (.tuple #[])∧aF R L S w (M.step P L.n L.cap E t) w'
def tree.mT:Prop:=∀ {σ:Type} {R:SR σ} {L:Lt} {S:Nat→Prop} {E:aK σ} {w:World} {t:Nat} {P:M.Plain σ} {fA:Nat} {rv:Value} (_kF:cE R P L fA rv) (_h:RE R L S E w) (_ht:t<L.n) (_hC:cF L E t) (_iO:(E.th t).phase=4),Calls Tryz.prog 244 #[.pointer (some ⟨L.g,t*28,none⟩)] w fun e w'=>e = .returned (.tuple #[])∧aF R L S w (M.step P L.n L.cap E t) w'
theorem CM:int.mT∧list.mT∧tree.mT:=by
 refine ⟨@mkK _ 0 ?_,@mkK _ 1 ?_,@mkK _ 2 ?_⟩<;>intro kk σ R L S E w t P fA rv _hA h ht hC cG
 all_goals
  obtain ⟨cv,cf,pv,hc,-,-,-,-⟩:=h.cells ht rfl
  have c3:w.cell? ⟨L.g,t*28+3,none⟩=some (.int .i64 4):=by have:=hc 3 _ (by decide) rfl;rw [cG] at this;exact this
  have HH:=aA h
  have HC:=aA hC
  have HX:=aA (BW HH.out ht)
  have HP:=aA cG
  clear h hc hC cG
  first|(have _:Kn 0:=kk;go_enter Tryz.func109,Tryz.ntmps109)|(have _:Kn 1:=kk;go_enter Tryz.func170,Tryz.ntmps170)|(have _:Kn 2:=kk;go_enter Tryz.func244,Tryz.ntmps244)
  go_wp2_with fail
  refine HX.out.mono ?_
  rintro e w1 ⟨rfl,r1,k1⟩
  have HR:=aA (aF.of r1 k1 rfl)
  clear r1 k1
  go_wp2
  refine bodyPost_end (v:=.tuple #[]) (by simp [results,Tryz.results109,Tryz.results170,Tryz.results244,go_sem]) rfl ⟨rfl,HR.out.cast ?_⟩
  unfold M.step
  simp only [HP.out]
theorem int.GR:mT:=CM.1
theorem list.GR:mT:=CM.2.1
theorem tree.GR:mT:=CM.2.2
theorem row.GR {σ:Type} {R:SR σ} {L:Lt} {S:Nat→Prop} {E:aK σ} {w:World} {t:Nat} {P:M.Plain σ} {fA:Nat} {rv:Value} (_hA:cE R P L fA rv) (h:RE R L S E w) (ht:t<L.n) (hC:cF L E t) (cG:(E.th t).phase=4) :
  Calls Tryz.prog 207 #[.pointer (some ⟨L.g,t*30,none⟩)] w fun e w'=>e = .returned (.tuple #[])∧aF R L S w (M.step P L.n L.cap E t) w':=by
 obtain ⟨cv,cf,pv,hc,-,-,-,-⟩:=h.cells ht rfl
 have c3:w.cell? ⟨L.g,t*30+3,none⟩=some (.int .i64 4):=by have:=hc 3 _ (by decide) rfl;rw [cG] at this;exact this
 have HH:=aA h
 have HC:=aA hC
 have HX:=aA (BW HH.out ht)
 have HP:=aA cG
 clear h hc hC cG
 go_enter Tryz.func207,Tryz.ntmps207
 go_wp2_with fail
 refine HX.out.mono ?_
 rintro e w1 ⟨rfl,r1,k1⟩
 have HR:=aA (aF.of r1 k1 rfl)
 clear r1 k1
 go_wp2
 refine bodyPost_end (v:=.tuple #[]) (by simp [results,Tryz.results207,go_sem]) rfl ⟨rfl,HR.out.cast ?_⟩
 unfold M.step
 simp only [HP.out]
def int.mU:Prop:=∀ {σ:Type} {R:SR σ} {L:Lt} {S:Nat→Prop} {E:aK σ} {w:World} {t:Nat} {P:M.Plain σ} {fA:Nat} {rv:Value} (_kF:cE R P L fA rv) (_h:RE R L S E w) (_ht:t<L.n) (_hC:cF L E t) (_iO:(E.th t).phase=5),Calls Tryz.prog 109 #[.pointer (some ⟨L.g,t*28,none⟩)] w fun e w'=>e = .returned (.tuple #[])∧aF R L S w (M.step P L.n L.cap E t) w'
def list.mU:Prop:=∀ {σ:Type} {R:SR σ} {L:Lt} {S:Nat→Prop} {E:aK σ} {w:World} {t:Nat} {P:M.Plain σ} {fA:Nat} {rv:Value} (_kF:cE R P L fA rv) (_h:RE R L S E w) (_ht:t<L.n) (_hC:cF L E t) (_iO:(E.th t).phase=5),Calls Tryz.prog 170 #[.pointer (some ⟨L.g,t*28,none⟩)] w fun e w'=>e = .returned (.tuple #[])∧aF R L S w (M.step P L.n L.cap E t) w'
def tree.mU:Prop:=∀ {σ:Type} {R:SR σ} {L:Lt} {S:Nat→Prop} {E:aK σ} {w:World} {t:Nat} {P:M.Plain σ} {fA:Nat} {rv:Value} (_kF:cE R P L fA rv) (_h:RE R L S E w) (_ht:t<L.n) (_hC:cF L E t) (_iO:(E.th t).phase=5),Calls Tryz.prog 244 #[.pointer (some ⟨L.g,t*28,none⟩)] w fun e w'=>e = .returned (.tuple #[])∧aF R L S w (M.step P L.n L.cap E t) w'
theorem CN:int.mU∧list.mU∧tree.mU:=by
 refine ⟨@mkK _ 0 ?_,@mkK _ 1 ?_,@mkK _ 2 ?_⟩<;>intro kk σ R L S E w t P fA rv _hA h ht hC cG
 all_goals
  obtain ⟨cv,cf,pv,hc,-,-,-,-⟩:=h.cells ht rfl
  have c3:w.cell? ⟨L.g,t*28+3,none⟩=some (.int .i64 5):=by have:=hc 3 _ (by decide) rfl;rw [cG] at this;exact this
  have HH:=aA h
  have HC:=aA hC
  have HX:=aA (oY HH.out ht (HC.out.p5 cG).1 (HC.out.p5 cG).2.1 HC.out.st (HC.out.p5 cG).2.2)
  have HP:=aA cG
  clear h hc hC cG
  first|(have _:Kn 0:=kk;go_enter Tryz.func109,Tryz.ntmps109)|(have _:Kn 1:=kk;go_enter Tryz.func170,Tryz.ntmps170)|(have _:Kn 2:=kk;go_enter Tryz.func244,Tryz.ntmps244)
  go_wp2_with fail
  refine HX.out.mono ?_
  rintro e w1 ⟨rfl,L1⟩
  have HR:=aA L1
  clear L1
  go_wp2
  refine bodyPost_end (v:=.tuple #[]) (by simp [results,Tryz.results109,Tryz.results170,Tryz.results244,go_sem]) rfl ⟨rfl,HR.out.cast ?_⟩
  unfold M.step copied
  simp only [HP.out]
  all_goals (split<;>rfl)
theorem int.GU:mU:=CN.1
theorem list.GU:mU:=CN.2.1
theorem tree.GU:mU:=CN.2.2
theorem row.GU {σ:Type} {R:SR σ} {L:Lt} {S:Nat→Prop} {E:aK σ} {w:World} {t:Nat} {P:M.Plain σ} {fA:Nat} {rv:Value} (_hA:cE R P L fA rv) (h:RE R L S E w) (ht:t<L.n) (hC:cF L E t) (cG:(E.th t).phase=5) :
  Calls Tryz.prog 207 #[.pointer (some ⟨L.g,t*30,none⟩)] w fun e w'=>e = .returned (.tuple #[])∧aF R L S w (M.step P L.n L.cap E t) w':=by
 obtain ⟨cv,cf,pv,hc,-,-,-,-⟩:=h.cells ht rfl
 have c3:w.cell? ⟨L.g,t*30+3,none⟩=some (.int .i64 5):=by have:=hc 3 _ (by decide) rfl;rw [cG] at this;exact this
 have HH:=aA h
 have HC:=aA hC
 have HX:=aA (oY HH.out ht (HC.out.p5 cG).1 (HC.out.p5 cG).2.1 HC.out.st (HC.out.p5 cG).2.2)
 have HP:=aA cG
 clear h hc hC cG
 go_enter Tryz.func207,Tryz.ntmps207
 go_wp2_with fail
 refine HX.out.mono ?_
 rintro e w1 ⟨rfl,L1⟩
 have HR:=aA L1
 clear L1
 go_wp2
 refine bodyPost_end (v:=.tuple #[]) (by simp [results,Tryz.results207,go_sem]) rfl ⟨rfl,HR.out.cast ?_⟩
 unfold M.step copied
 simp only [HP.out]
 all_goals (split<;>rfl)
def int.mV:Prop:=∀ {σ:Type} {R:SR σ} {L:Lt} {S:Nat→Prop} {E:aK σ} {w:World} {t:Nat} {P:M.Plain σ} {fA:Nat} {rv:Value} (_kF:cE R P L fA rv) (_h:RE R L S E w) (_ht:t<L.n) (_hC:cF L E t) (_iO:(E.th t).phase=6),Calls Tryz.prog 109 #[.pointer (some ⟨L.g,t*28,none⟩)] w fun e w'=>e = .returned (.tuple #[])∧aF R L S w (M.step P L.n L.cap E t) w'
def list.mV:Prop:=∀ {σ:Type} {R:SR σ} {L:Lt} {S:Nat→Prop} {E:aK σ} {w:World} {t:Nat} {P:M.Plain σ} {fA:Nat} {rv:Value} (_kF:cE R P L fA rv) (_h:RE R L S E w) (_ht:t<L.n) (_hC:cF L E t) (_iO:(E.th t).phase=6),Calls Tryz.prog 170 #[.pointer (some ⟨L.g,t*28,none⟩)] w fun e w'=>e = .returned (.tuple #[])∧aF R L S w (M.step P L.n L.cap E t) w'
def tree.mV:Prop:=∀ {σ:Type} {R:SR σ} {L:Lt} {S:Nat→Prop} {E:aK σ} {w:World} {t:Nat} {P:M.Plain σ} {fA:Nat} {rv:Value} (_kF:cE R P L fA rv) (_h:RE R L S E w) (_ht:t<L.n) (_hC:cF L E t) (_iO:(E.th t).phase=6),Calls Tryz.prog 244 #[.pointer (some ⟨L.g,t*28,none⟩)] w fun e w'=>e = .returned (.tuple #[])∧aF R L S w (M.step P L.n L.cap E t) w'
theorem CO:int.mV∧list.mV∧tree.mV:=by
 refine ⟨@mkK _ 0 ?_,@mkK _ 1 ?_,@mkK _ 2 ?_⟩<;>intro kk σ R L S E w t P fA rv _hA h ht hC cG
 all_goals
  obtain ⟨cv,cf,pv,hc,-,-,-,-⟩:=h.cells ht rfl
  have c3:w.cell? ⟨L.g,t*28+3,none⟩=some (.int .i64 6):=by have:=hc 3 _ (by decide) rfl;rw [cG] at this;exact this
  have HH:=aA h
  have HC:=aA hC
  have HX:=aA (CC HH.out ht (HC.out.p6 cG))
  have HP:=aA cG
  clear h hc hC cG
  first|(have _:Kn 0:=kk;go_enter Tryz.func109,Tryz.ntmps109)|(have _:Kn 1:=kk;go_enter Tryz.func170,Tryz.ntmps170)|(have _:Kn 2:=kk;go_enter Tryz.func244,Tryz.ntmps244)
  go_wp2_with fail
  refine HX.out.mono ?_
  rintro e w1 ⟨rfl,r1,k1⟩
  have HR:=aA (aF.of r1 k1 rfl)
  clear r1 k1
  go_wp2
  refine bodyPost_end (v:=.tuple #[]) (by simp [results,Tryz.results109,Tryz.results170,Tryz.results244,go_sem]) rfl ⟨rfl,HR.out.cast ?_⟩
  unfold M.step
  simp only [HP.out]
theorem int.GV:mV:=CO.1
theorem list.GV:mV:=CO.2.1
theorem tree.GV:mV:=CO.2.2
theorem row.GV {σ:Type} {R:SR σ} {L:Lt} {S:Nat→Prop} {E:aK σ} {w:World} {t:Nat} {P:M.Plain σ} {fA:Nat} {rv:Value} (_hA:cE R P L fA rv) (h:RE R L S E w) (ht:t<L.n) (hC:cF L E t) (cG:(E.th t).phase=6) :
  Calls Tryz.prog 207 #[.pointer (some ⟨L.g,t*30,none⟩)] w fun e w'=>e = .returned (.tuple #[])∧aF R L S w (M.step P L.n L.cap E t) w':=by
 obtain ⟨cv,cf,pv,hc,-,-,-,-⟩:=h.cells ht rfl
 have c3:w.cell? ⟨L.g,t*30+3,none⟩=some (.int .i64 6):=by have:=hc 3 _ (by decide) rfl;rw [cG] at this;exact this
 have HH:=aA h
 have HC:=aA hC
 have HX:=aA (CC HH.out ht (HC.out.p6 cG))
 have HP:=aA cG
 clear h hc hC cG
 go_enter Tryz.func207,Tryz.ntmps207
 go_wp2_with fail
 refine HX.out.mono ?_
 rintro e w1 ⟨rfl,r1,k1⟩
 have HR:=aA (aF.of r1 k1 rfl)
 clear r1 k1
 go_wp2
 refine bodyPost_end (v:=.tuple #[]) (by simp [results,Tryz.results207,go_sem]) rfl ⟨rfl,HR.out.cast ?_⟩
 unfold M.step
 simp only [HP.out]
def int.mW:Prop:=∀ {σ:Type} {R:SR σ} {L:Lt} {S:Nat→Prop} {E:aK σ} {w:World} {t:Nat} {P:M.Plain σ} {fA:Nat} {rv:Value} (_kF:cE R P L fA rv) (_h:RE R L S E w) (_ht:t<L.n) (_hC:cF L E t) (_iO:(E.th t).phase=7),Calls Tryz.prog 109 #[.pointer (some ⟨L.g,t*28,none⟩)] w fun e w'=>e = .returned (.tuple #[])∧aF R L S w (M.step P L.n L.cap E t) w'
def list.mW:Prop:=∀ {σ:Type} {R:SR σ} {L:Lt} {S:Nat→Prop} {E:aK σ} {w:World} {t:Nat} {P:M.Plain σ} {fA:Nat} {rv:Value} (_kF:cE R P L fA rv) (_h:RE R L S E w) (_ht:t<L.n) (_hC:cF L E t) (_iO:(E.th t).phase=7),Calls Tryz.prog 170 #[.pointer (some ⟨L.g,t*28,none⟩)] w fun e w'=>e = .returned (.tuple #[])∧aF R L S w (M.step P L.n L.cap E t) w'
def tree.mW:Prop:=∀ {σ:Type} {R:SR σ} {L:Lt} {S:Nat→Prop} {E:aK σ} {w:World} {t:Nat} {P:M.Plain σ} {fA:Nat} {rv:Value} (_kF:cE R P L fA rv) (_h:RE R L S E w) (_ht:t<L.n) (_hC:cF L E t) (_iO:(E.th t).phase=7),Calls Tryz.prog 244 #[.pointer (some ⟨L.g,t*28,none⟩)] w fun e w'=>e = .returned (.tuple #[])∧aF R L S w (M.step P L.n L.cap E t) w'
theorem CP:int.mW∧list.mW∧tree.mW:=by
 refine ⟨@mkK _ 0 ?_,@mkK _ 1 ?_,@mkK _ 2 ?_⟩<;>intro kk σ R L S E w t P fA rv _hA h ht hC cG
 all_goals
  obtain ⟨cv,cf,pv,hc,-,-,-,-⟩:=h.cells ht rfl
  have c3:w.cell? ⟨L.g,t*28+3,none⟩=some (.int .i64 7):=by have:=hc 3 _ (by decide) rfl;rw [cG] at this;exact this
  have HH:=aA h
  have HC:=aA hC
  have HX:=aA (wR HH.out ht HC.out.N HC.out.st (by have:=HC.out.pr;have:=HH.out.ok.n64;omega) HC.out.sr HC.out.b (HC.out.p7 cG))
  have HP:=aA cG
  clear h hc hC cG
  first|(have _:Kn 0:=kk;go_enter Tryz.func109,Tryz.ntmps109)|(have _:Kn 1:=kk;go_enter Tryz.func170,Tryz.ntmps170)|(have _:Kn 2:=kk;go_enter Tryz.func244,Tryz.ntmps244)
  go_wp2_with fail
  refine HX.out.mono ?_
  rintro e w1 ⟨rfl,L1⟩
  have HR:=aA L1
  clear L1
  go_wp2
  refine bodyPost_end (v:=.tuple #[]) (by simp [results,Tryz.results109,Tryz.results170,Tryz.results244,go_sem]) rfl ⟨rfl,HR.out.cast ?_⟩
  first|(have _:Kn 0:=kk;unfold M.step int.checked)|(have _:Kn 1:=kk;unfold M.step list.checked)|(have _:Kn 2:=kk;unfold M.step tree.checked)
  simp only [HP.out]
theorem int.GX:mW:=CP.1
theorem list.GX:mW:=CP.2.1
theorem tree.GX:mW:=CP.2.2
theorem row.GX {σ:Type} {R:SR σ} {L:Lt} {S:Nat→Prop} {E:aK σ} {w:World} {t:Nat} {P:M.Plain σ} {fA:Nat} {rv:Value} (_hA:cE R P L fA rv) (h:RE R L S E w) (ht:t<L.n) (hC:cF L E t) (cG:(E.th t).phase=7) :
  Calls Tryz.prog 207 #[.pointer (some ⟨L.g,t*30,none⟩)] w fun e w'=>e = .returned (.tuple #[])∧aF R L S w (M.step P L.n L.cap E t) w':=by
 obtain ⟨cv,cf,pv,hc,-,-,-,-⟩:=h.cells ht rfl
 have c3:w.cell? ⟨L.g,t*30+3,none⟩=some (.int .i64 7):=by have:=hc 3 _ (by decide) rfl;rw [cG] at this;exact this
 have HH:=aA h
 have HC:=aA hC
 have HX:=aA (wR HH.out ht HC.out.N HC.out.st (by have:=HC.out.pr;have:=HH.out.ok.n64;omega) HC.out.sr HC.out.b (HC.out.p7 cG))
 have HP:=aA cG
 clear h hc hC cG
 go_enter Tryz.func207,Tryz.ntmps207
 go_wp2_with fail
 refine HX.out.mono ?_
 rintro e w1 ⟨rfl,L1⟩
 have HR:=aA L1
 clear L1
 go_wp2
 refine bodyPost_end (v:=.tuple #[]) (by simp [results,Tryz.results207,go_sem]) rfl ⟨rfl,HR.out.cast ?_⟩
 unfold M.step checked
 simp only [HP.out]
def int.mX:Prop:=∀ {σ:Type} {R:SR σ} {L:Lt} {S:Nat→Prop} {E:aK σ} {w:World} {t:Nat} {P:M.Plain σ} {fA:Nat} {rv:Value} (_hA:cE R P L fA rv) (_h:RE R L S E w) (_ht:t<L.n) (_hC:cF L E t) (_iO:(E.th t).phase=8) (_hZ:∀ v,(E.th t).now=some v→R.sz v.st≤1000000000000),Calls Tryz.prog 109 #[.pointer (some ⟨L.g,t*28,none⟩)] w fun e w'=>e = .returned (.tuple #[])∧aF R L S w (M.step P L.n L.cap E t) w'
def list.mX:Prop:=∀ {σ:Type} {R:SR σ} {L:Lt} {S:Nat→Prop} {E:aK σ} {w:World} {t:Nat} {P:M.Plain σ} {fA:Nat} {rv:Value} (_hA:cE R P L fA rv) (_h:RE R L S E w) (_ht:t<L.n) (_hC:cF L E t) (_iO:(E.th t).phase=8) (_hZ:∀ v,(E.th t).now=some v→R.sz v.st≤1000000000000),Calls Tryz.prog 170 #[.pointer (some ⟨L.g,t*28,none⟩)] w fun e w'=>e = .returned (.tuple #[])∧aF R L S w (M.step P L.n L.cap E t) w'
def tree.mX:Prop:=∀ {σ:Type} {R:SR σ} {L:Lt} {S:Nat→Prop} {E:aK σ} {w:World} {t:Nat} {P:M.Plain σ} {fA:Nat} {rv:Value} (_hA:cE R P L fA rv) (_h:RE R L S E w) (_ht:t<L.n) (_hC:cF L E t) (_iO:(E.th t).phase=8) (_hZ:∀ v,(E.th t).now=some v→R.sz v.st≤1000000000000),Calls Tryz.prog 244 #[.pointer (some ⟨L.g,t*28,none⟩)] w fun e w'=>e = .returned (.tuple #[])∧aF R L S w (M.step P L.n L.cap E t) w'
theorem CQ:int.mX∧list.mX∧tree.mX:=by
 refine ⟨@mkK _ 0 ?_,@mkK _ 1 ?_,@mkK _ 2 ?_⟩<;>intro kk σ R L S E w t P fA rv hA h ht hC cG hZ
 all_goals
  obtain ⟨cv,cf,pv,hc,-,-,-,-⟩:=h.cells ht rfl
  have c3:w.cell? ⟨L.g,t*28+3,none⟩=some (.int .i64 8):=by have:=hc 3 _ (by decide) rfl;rw [cG] at this;exact this
  have HH:=aA h
  have HC:=aA hC
  obtain ⟨⟨v,f,hv,hf⟩,hp,hl,hk⟩:=hC.p8 cG
  have HX:=aA (CH hA HH.out ht HC.out.st HC.out.sr hv hf (hZ v hv) hp hl hk)
  have HP:=aA cG
  clear h hc hC cG hv hf hp hl hk hZ
  first|(have _:Kn 0:=kk;go_enter Tryz.func109,Tryz.ntmps109)|(have _:Kn 1:=kk;go_enter Tryz.func170,Tryz.ntmps170)|(have _:Kn 2:=kk;go_enter Tryz.func244,Tryz.ntmps244)
  go_wp2_with fail
  refine HX.out.mono ?_
  rintro e w1 ⟨rfl,L1⟩
  have HR:=aA L1
  clear L1
  go_wp2
  refine bodyPost_end (v:=.tuple #[]) (by simp [results,Tryz.results109,Tryz.results170,Tryz.results244,go_sem]) rfl ⟨rfl,HR.out.cast ?_⟩
  unfold M.step gV gF qT
  simp only [HP.out]
theorem int.GY:mX:=CQ.1
theorem list.GY:mX:=CQ.2.1
theorem tree.GY:mX:=CQ.2.2
theorem row.GY {σ:Type} {R:SR σ} {L:Lt} {S:Nat→Prop} {E:aK σ} {w:World} {t:Nat} {P:M.Plain σ} {fA:Nat} {rv:Value} (hA:cE R P L fA rv) (h:RE R L S E w) (ht:t<L.n) (hC:cF L E t) (cG:(E.th t).phase=8) (hZ:∀ v,(E.th t).now=some v→R.sz v.st≤1000000000000) :
  Calls Tryz.prog 207 #[.pointer (some ⟨L.g,t*30,none⟩)] w fun e w'=>e = .returned (.tuple #[])∧aF R L S w (M.step P L.n L.cap E t) w':=by
 obtain ⟨cv,cf,pv,hc,-,-,-,-⟩:=h.cells ht rfl
 have c3:w.cell? ⟨L.g,t*30+3,none⟩=some (.int .i64 8):=by have:=hc 3 _ (by decide) rfl;rw [cG] at this;exact this
 have HH:=aA h
 have HC:=aA hC
 obtain ⟨⟨v,f,hv,hf⟩,hp,hl,hk⟩:=hC.p8 cG
 have HX:=aA (CH hA HH.out ht HC.out.st HC.out.sr hv hf (hZ v hv) hp hl hk)
 have HP:=aA cG
 clear h hc hC cG hv hf hp hl hk hZ
 go_enter Tryz.func207,Tryz.ntmps207
 go_wp2_with fail
 refine HX.out.mono ?_
 rintro e w1 ⟨rfl,L1⟩
 have HR:=aA L1
 clear L1
 go_wp2
 refine bodyPost_end (v:=.tuple #[]) (by simp [results,Tryz.results207,go_sem]) rfl ⟨rfl,HR.out.cast ?_⟩
 unfold M.step gV gF qT
 simp only [HP.out]
def int.mY:Prop:=∀ {σ:Type} {R:SR σ} {L:Lt} {S:Nat→Prop} {E:aK σ} {w:World} {t:Nat} {P:M.Plain σ} {fA:Nat} {rv:Value} (_kF:cE R P L fA rv) (_h:RE R L S E w) (_ht:t<L.n) (_hC:cF L E t) (_iO:(E.th t).phase=9),Calls Tryz.prog 109 #[.pointer (some ⟨L.g,t*28,none⟩)] w fun e w'=>e = .returned (.tuple #[])∧aF R L S w (M.step P L.n L.cap E t) w'
def list.mY:Prop:=∀ {σ:Type} {R:SR σ} {L:Lt} {S:Nat→Prop} {E:aK σ} {w:World} {t:Nat} {P:M.Plain σ} {fA:Nat} {rv:Value} (_kF:cE R P L fA rv) (_h:RE R L S E w) (_ht:t<L.n) (_hC:cF L E t) (_iO:(E.th t).phase=9),Calls Tryz.prog 170 #[.pointer (some ⟨L.g,t*28,none⟩)] w fun e w'=>e = .returned (.tuple #[])∧aF R L S w (M.step P L.n L.cap E t) w'
def tree.mY:Prop:=∀ {σ:Type} {R:SR σ} {L:Lt} {S:Nat→Prop} {E:aK σ} {w:World} {t:Nat} {P:M.Plain σ} {fA:Nat} {rv:Value} (_kF:cE R P L fA rv) (_h:RE R L S E w) (_ht:t<L.n) (_hC:cF L E t) (_iO:(E.th t).phase=9),Calls Tryz.prog 244 #[.pointer (some ⟨L.g,t*28,none⟩)] w fun e w'=>e = .returned (.tuple #[])∧aF R L S w (M.step P L.n L.cap E t) w'
theorem CR:int.mY∧list.mY∧tree.mY:=by
 refine ⟨@mkK _ 0 ?_,@mkK _ 1 ?_,@mkK _ 2 ?_⟩<;>intro kk σ R L S E w t P fA rv _hA h ht hC cG
 all_goals
  obtain ⟨cv,cf,pv,hc,-,-,-,-⟩:=h.cells ht rfl
  have c3:w.cell? ⟨L.g,t*28+3,none⟩=some (.int .i64 9):=by have:=hc 3 _ (by decide) rfl;rw [cG] at this;exact this
  have HH:=aA h
  have HC:=aA hC
  have HX:=aA (mP HH.out ht (HC.out.p9 cG).1 (HC.out.p9 cG).2.1 (HC.out.p9 cG).2.2)
  have HP:=aA cG
  clear h hc hC cG
  first|(have _:Kn 0:=kk;go_enter Tryz.func109,Tryz.ntmps109)|(have _:Kn 1:=kk;go_enter Tryz.func170,Tryz.ntmps170)|(have _:Kn 2:=kk;go_enter Tryz.func244,Tryz.ntmps244)
  go_wp2_with fail
  refine HX.out.mono ?_
  rintro e w1 ⟨rfl,L1⟩
  have HR:=aA L1
  clear L1
  go_wp2
  refine bodyPost_end (v:=.tuple #[]) (by simp [results,Tryz.results109,Tryz.results170,Tryz.results244,go_sem]) rfl ⟨rfl,HR.out.cast ?_⟩
  first|(have _:Kn 0:=kk;unfold M.step int.wrote)|(have _:Kn 1:=kk;unfold M.step list.wrote)|(have _:Kn 2:=kk;unfold M.step tree.wrote)
  simp only [HP.out]
  all_goals (split<;>rfl)
theorem int.GZ:mY:=CR.1
theorem list.GZ:mY:=CR.2.1
theorem tree.GZ:mY:=CR.2.2
theorem row.GZ {σ:Type} {R:SR σ} {L:Lt} {S:Nat→Prop} {E:aK σ} {w:World} {t:Nat} {P:M.Plain σ} {fA:Nat} {rv:Value} (_hA:cE R P L fA rv) (h:RE R L S E w) (ht:t<L.n) (hC:cF L E t) (cG:(E.th t).phase=9) :
  Calls Tryz.prog 207 #[.pointer (some ⟨L.g,t*30,none⟩)] w fun e w'=>e = .returned (.tuple #[])∧aF R L S w (M.step P L.n L.cap E t) w':=by
 obtain ⟨cv,cf,pv,hc,-,-,-,-⟩:=h.cells ht rfl
 have c3:w.cell? ⟨L.g,t*30+3,none⟩=some (.int .i64 9):=by have:=hc 3 _ (by decide) rfl;rw [cG] at this;exact this
 have HH:=aA h
 have HC:=aA hC
 have HX:=aA (mP HH.out ht (HC.out.p9 cG).1 (HC.out.p9 cG).2.1 (HC.out.p9 cG).2.2)
 have HP:=aA cG
 clear h hc hC cG
 go_enter Tryz.func207,Tryz.ntmps207
 go_wp2_with fail
 refine HX.out.mono ?_
 rintro e w1 ⟨rfl,L1⟩
 have HR:=aA L1
 clear L1
 go_wp2
 refine bodyPost_end (v:=.tuple #[]) (by simp [results,Tryz.results207,go_sem]) rfl ⟨rfl,HR.out.cast ?_⟩
 unfold M.step wrote
 simp only [HP.out]
 all_goals (split<;>rfl)
def int.kT:Prop:=∀ {σ:Type} {R:SR σ} {L:Lt} {S:Nat→Prop} {E:aK σ} {w:World} {t:Nat} {P:M.Plain σ} {fA:Nat} {rv:Value} (_kF:cE R P L fA rv) (_h:RE R L S E w) (_ht:t<L.n) (_hC:cF L E t) (_iO:(E.th t).phase=11),Calls Tryz.prog 109 #[.pointer (some ⟨L.g,t*28,none⟩)] w fun e w'=>e = .returned (.tuple #[])∧aF R L S w (M.step P L.n L.cap E t) w'
def list.kT:Prop:=∀ {σ:Type} {R:SR σ} {L:Lt} {S:Nat→Prop} {E:aK σ} {w:World} {t:Nat} {P:M.Plain σ} {fA:Nat} {rv:Value} (_kF:cE R P L fA rv) (_h:RE R L S E w) (_ht:t<L.n) (_hC:cF L E t) (_iO:(E.th t).phase=11),Calls Tryz.prog 170 #[.pointer (some ⟨L.g,t*28,none⟩)] w fun e w'=>e = .returned (.tuple #[])∧aF R L S w (M.step P L.n L.cap E t) w'
def tree.kT:Prop:=∀ {σ:Type} {R:SR σ} {L:Lt} {S:Nat→Prop} {E:aK σ} {w:World} {t:Nat} {P:M.Plain σ} {fA:Nat} {rv:Value} (_kF:cE R P L fA rv) (_h:RE R L S E w) (_ht:t<L.n) (_hC:cF L E t) (_iO:(E.th t).phase=11),Calls Tryz.prog 244 #[.pointer (some ⟨L.g,t*28,none⟩)] w fun e w'=>e = .returned (.tuple #[])∧aF R L S w (M.step P L.n L.cap E t) w'
theorem xU:int.kT∧list.kT∧tree.kT:=by
 refine ⟨@mkK _ 0 ?_,@mkK _ 1 ?_,@mkK _ 2 ?_⟩<;>intro kk σ R L S E w t P fA rv _hA h ht hC cG
 all_goals
  obtain ⟨cv,cf,pv,hc,-,-,-,-⟩:=h.cells ht rfl
  have c3:w.cell? ⟨L.g,t*28+3,none⟩=some (.int .i64 11):=by have:=hc 3 _ (by decide) rfl;rw [cG] at this;exact this
  have HH:=aA h
  have HC:=aA hC
  have HX:=aA (wN HH.out ht HC.out.pr (by have:=HC.out.N;omega))
  have HP:=aA cG
  clear h hc hC cG
  first|(have _:Kn 0:=kk;go_enter Tryz.func109,Tryz.ntmps109)|(have _:Kn 1:=kk;go_enter Tryz.func170,Tryz.ntmps170)|(have _:Kn 2:=kk;go_enter Tryz.func244,Tryz.ntmps244)
  go_wp2_with fail
  refine HX.out.mono ?_
  rintro e w1 ⟨rfl,r1,k1⟩
  have HR:=aA (aF.of r1 k1 rfl)
  clear r1 k1
  go_wp2
  refine bodyPost_end (v:=.tuple #[]) (by simp [results,Tryz.results109,Tryz.results170,Tryz.results244,go_sem]) rfl ⟨rfl,HR.out.cast ?_⟩
  unfold M.step
  simp only [HP.out]
theorem int.AH:kT:=xU.1
theorem list.AH:kT:=xU.2.1
theorem tree.AH:kT:=xU.2.2
theorem row.AH {σ:Type} {R:SR σ} {L:Lt} {S:Nat→Prop} {E:aK σ} {w:World} {t:Nat} {P:M.Plain σ} {fA:Nat} {rv:Value} (_hA:cE R P L fA rv) (h:RE R L S E w) (ht:t<L.n) (hC:cF L E t) (cG:(E.th t).phase=11) :
  Calls Tryz.prog 207 #[.pointer (some ⟨L.g,t*30,none⟩)] w fun e w'=>e = .returned (.tuple #[])∧aF R L S w (M.step P L.n L.cap E t) w':=by
 obtain ⟨cv,cf,pv,hc,-,-,-,-⟩:=h.cells ht rfl
 have c3:w.cell? ⟨L.g,t*30+3,none⟩=some (.int .i64 11):=by have:=hc 3 _ (by decide) rfl;rw [cG] at this;exact this
 have HH:=aA h
 have HC:=aA hC
 have HX:=aA (wN HH.out ht HC.out.pr (by have:=HC.out.N;omega))
 have HP:=aA cG
 clear h hc hC cG
 go_enter Tryz.func207,Tryz.ntmps207
 go_wp2_with fail
 refine HX.out.mono ?_
 rintro e w1 ⟨rfl,r1,k1⟩
 have HR:=aA (aF.of r1 k1 rfl)
 clear r1 k1
 go_wp2
 refine bodyPost_end (v:=.tuple #[]) (by simp [results,Tryz.results207,go_sem]) rfl ⟨rfl,HR.out.cast ?_⟩
 unfold M.step
 simp only [HP.out]
def int.kU:Prop:=∀ {σ:Type} {R:SR σ} {L:Lt} {S:Nat→Prop} {E:aK σ} {w:World} {t:Nat} {P:M.Plain σ} {fA:Nat} {rv:Value} (_kF:cE R P L fA rv) (_h:RE R L S E w) (_ht:t<L.n) (_hC:cF L E t) (_iO:(E.th t).phase=12),Calls Tryz.prog 109 #[.pointer (some ⟨L.g,t*28,none⟩)] w fun e w'=>e = .returned (.tuple #[])∧aF R L S w (M.step P L.n L.cap E t) w'
def list.kU:Prop:=∀ {σ:Type} {R:SR σ} {L:Lt} {S:Nat→Prop} {E:aK σ} {w:World} {t:Nat} {P:M.Plain σ} {fA:Nat} {rv:Value} (_kF:cE R P L fA rv) (_h:RE R L S E w) (_ht:t<L.n) (_hC:cF L E t) (_iO:(E.th t).phase=12),Calls Tryz.prog 170 #[.pointer (some ⟨L.g,t*28,none⟩)] w fun e w'=>e = .returned (.tuple #[])∧aF R L S w (M.step P L.n L.cap E t) w'
def tree.kU:Prop:=∀ {σ:Type} {R:SR σ} {L:Lt} {S:Nat→Prop} {E:aK σ} {w:World} {t:Nat} {P:M.Plain σ} {fA:Nat} {rv:Value} (_kF:cE R P L fA rv) (_h:RE R L S E w) (_ht:t<L.n) (_hC:cF L E t) (_iO:(E.th t).phase=12),Calls Tryz.prog 244 #[.pointer (some ⟨L.g,t*28,none⟩)] w fun e w'=>e = .returned (.tuple #[])∧aF R L S w (M.step P L.n L.cap E t) w'
theorem xV:int.kU∧list.kU∧tree.kU:=by
 refine ⟨@mkK _ 0 ?_,@mkK _ 1 ?_,@mkK _ 2 ?_⟩<;>intro kk σ R L S E w t P fA rv _hA h ht hC cG
 all_goals
  obtain ⟨cv,cf,pv,hc,-,-,-,-⟩:=h.cells ht rfl
  have c3:w.cell? ⟨L.g,t*28+3,none⟩=some (.int .i64 12):=by have:=hc 3 _ (by decide) rfl;rw [cG] at this;exact this
  have HH:=aA h
  have HC:=aA hC
  have HX:=aA (lJ HH.out ht (HC.out.ZO (.inl cG)))
  have HP:=aA cG
  clear h hc hC cG
  first|(have _:Kn 0:=kk;go_enter Tryz.func109,Tryz.ntmps109)|(have _:Kn 1:=kk;go_enter Tryz.func170,Tryz.ntmps170)|(have _:Kn 2:=kk;go_enter Tryz.func244,Tryz.ntmps244)
  go_wp2_with fail
  refine HX.out.mono ?_
  rintro e w1 ⟨rfl,L1⟩
  have HR:=aA L1
  clear L1
  go_wp2
  refine bodyPost_end (v:=.tuple #[]) (by simp [results,Tryz.results109,Tryz.results170,Tryz.results244,go_sem]) rfl ⟨rfl,HR.out.cast ?_⟩
  unfold M.step
  simp only [HP.out]
theorem int.AK:kU:=xV.1
theorem list.AK:kU:=xV.2.1
theorem tree.AK:kU:=xV.2.2
theorem row.AK {σ:Type} {R:SR σ} {L:Lt} {S:Nat→Prop} {E:aK σ} {w:World} {t:Nat} {P:M.Plain σ} {fA:Nat} {rv:Value} (_hA:cE R P L fA rv) (h:RE R L S E w) (ht:t<L.n) (hC:cF L E t) (cG:(E.th t).phase=12) :
  Calls Tryz.prog 207 #[.pointer (some ⟨L.g,t*30,none⟩)] w fun e w'=>e = .returned (.tuple #[])∧aF R L S w (M.step P L.n L.cap E t) w':=by
 obtain ⟨cv,cf,pv,hc,-,-,-,-⟩:=h.cells ht rfl
 have c3:w.cell? ⟨L.g,t*30+3,none⟩=some (.int .i64 12):=by have:=hc 3 _ (by decide) rfl;rw [cG] at this;exact this
 have HH:=aA h
 have HC:=aA hC
 have HX:=aA (lJ HH.out ht (HC.out.ZO (.inl cG)))
 have HP:=aA cG
 clear h hc hC cG
 go_enter Tryz.func207,Tryz.ntmps207
 go_wp2_with fail
 refine HX.out.mono ?_
 rintro e w1 ⟨rfl,L1⟩
 have HR:=aA L1
 clear L1
 go_wp2
 refine bodyPost_end (v:=.tuple #[]) (by simp [results,Tryz.results207,go_sem]) rfl ⟨rfl,HR.out.cast ?_⟩
 unfold M.step
 simp only [HP.out]
def int.kV:Prop:=∀ {σ:Type} {R:SR σ} {L:Lt} {S:Nat→Prop} {E:aK σ} {w:World} {t:Nat} {P:M.Plain σ} {fA:Nat} {rv:Value} (_kF:cE R P L fA rv) (_h:RE R L S E w) (_ht:t<L.n) (_hC:cF L E t) (_iO:(E.th t).phase=13),Calls Tryz.prog 109 #[.pointer (some ⟨L.g,t*28,none⟩)] w fun e w'=>e = .returned (.tuple #[])∧aF R L S w (M.step P L.n L.cap E t) w'
def list.kV:Prop:=∀ {σ:Type} {R:SR σ} {L:Lt} {S:Nat→Prop} {E:aK σ} {w:World} {t:Nat} {P:M.Plain σ} {fA:Nat} {rv:Value} (_kF:cE R P L fA rv) (_h:RE R L S E w) (_ht:t<L.n) (_hC:cF L E t) (_iO:(E.th t).phase=13),Calls Tryz.prog 170 #[.pointer (some ⟨L.g,t*28,none⟩)] w fun e w'=>e = .returned (.tuple #[])∧aF R L S w (M.step P L.n L.cap E t) w'
def tree.kV:Prop:=∀ {σ:Type} {R:SR σ} {L:Lt} {S:Nat→Prop} {E:aK σ} {w:World} {t:Nat} {P:M.Plain σ} {fA:Nat} {rv:Value} (_kF:cE R P L fA rv) (_h:RE R L S E w) (_ht:t<L.n) (_hC:cF L E t) (_iO:(E.th t).phase=13),Calls Tryz.prog 244 #[.pointer (some ⟨L.g,t*28,none⟩)] w fun e w'=>e = .returned (.tuple #[])∧aF R L S w (M.step P L.n L.cap E t) w'
theorem xW:int.kV∧list.kV∧tree.kV:=by
 refine ⟨@mkK _ 0 ?_,@mkK _ 1 ?_,@mkK _ 2 ?_⟩<;>intro kk σ R L S E w t P fA rv _hA h ht hC cG
 all_goals
  obtain ⟨cv,cf,pv,hc,-,-,-,-⟩:=h.cells ht rfl
  have c3:w.cell? ⟨L.g,t*28+3,none⟩=some (.int .i64 13):=by have:=hc 3 _ (by decide) rfl;rw [cG] at this;exact this
  have HH:=aA h
  have HC:=aA hC
  have HX:=aA (mO HH.out ht (HC.out.ZO (.inr cG)))
  have HP:=aA cG
  clear h hc hC cG
  first|(have _:Kn 0:=kk;go_enter Tryz.func109,Tryz.ntmps109)|(have _:Kn 1:=kk;go_enter Tryz.func170,Tryz.ntmps170)|(have _:Kn 2:=kk;go_enter Tryz.func244,Tryz.ntmps244)
  go_wp2_with fail
  refine HX.out.mono ?_
  rintro e w1 ⟨rfl,L1⟩
  have HR:=aA L1
  clear L1
  go_wp2
  refine bodyPost_end (v:=.tuple #[]) (by simp [results,Tryz.results109,Tryz.results170,Tryz.results244,go_sem]) rfl ⟨rfl,HR.out.cast ?_⟩
  unfold M.step
  simp only [HP.out]
theorem int.AL:kV:=xW.1
theorem list.AL:kV:=xW.2.1
theorem tree.AL:kV:=xW.2.2
theorem row.AL {σ:Type} {R:SR σ} {L:Lt} {S:Nat→Prop} {E:aK σ} {w:World} {t:Nat} {P:M.Plain σ} {fA:Nat} {rv:Value} (_hA:cE R P L fA rv) (h:RE R L S E w) (ht:t<L.n) (hC:cF L E t) (cG:(E.th t).phase=13) :
  Calls Tryz.prog 207 #[.pointer (some ⟨L.g,t*30,none⟩)] w fun e w'=>e = .returned (.tuple #[])∧aF R L S w (M.step P L.n L.cap E t) w':=by
 obtain ⟨cv,cf,pv,hc,-,-,-,-⟩:=h.cells ht rfl
 have c3:w.cell? ⟨L.g,t*30+3,none⟩=some (.int .i64 13):=by have:=hc 3 _ (by decide) rfl;rw [cG] at this;exact this
 have HH:=aA h
 have HC:=aA hC
 have HX:=aA (mO HH.out ht (HC.out.ZO (.inr cG)))
 have HP:=aA cG
 clear h hc hC cG
 go_enter Tryz.func207,Tryz.ntmps207
 go_wp2_with fail
 refine HX.out.mono ?_
 rintro e w1 ⟨rfl,L1⟩
 have HR:=aA L1
 clear L1
 go_wp2
 refine bodyPost_end (v:=.tuple #[]) (by simp [results,Tryz.results207,go_sem]) rfl ⟨rfl,HR.out.cast ?_⟩
 unfold M.step
 simp only [HP.out]
def int.gW:Prop:=∀ {σ:Type} {R:SR σ} {L:Lt} {S:Nat→Prop} {E:aK σ} {w:World} {t:Nat} {P:M.Plain σ} (_h:RE R L S E w) (_ht:t<L.n) (_hC:cF L E t) (_iO:(E.th t).phase=10),Calls Tryz.prog 109 #[.pointer (some ⟨L.g,t*28,none⟩)] w fun e w'=>e = .returned (.tuple #[])∧aF R L S w (M.step P L.n L.cap E t) w'
def list.gW:Prop:=∀ {σ:Type} {R:SR σ} {L:Lt} {S:Nat→Prop} {E:aK σ} {w:World} {t:Nat} {P:M.Plain σ} (_h:RE R L S E w) (_ht:t<L.n) (_hC:cF L E t) (_iO:(E.th t).phase=10),Calls Tryz.prog 170 #[.pointer (some ⟨L.g,t*28,none⟩)] w fun e w'=>e = .returned (.tuple #[])∧aF R L S w (M.step P L.n L.cap E t) w'
def tree.gW:Prop:=∀ {σ:Type} {R:SR σ} {L:Lt} {S:Nat→Prop} {E:aK σ} {w:World} {t:Nat} {P:M.Plain σ} (_h:RE R L S E w) (_ht:t<L.n) (_hC:cF L E t) (_iO:(E.th t).phase=10),Calls Tryz.prog 244 #[.pointer (some ⟨L.g,t*28,none⟩)] w fun e w'=>e = .returned (.tuple #[])∧aF R L S w (M.step P L.n L.cap E t) w'
def row.gW:Prop:=∀ {σ:Type} {R:SR σ} {L:Lt} {S:Nat→Prop} {E:aK σ} {w:World} {t:Nat} {P:M.Plain σ} (_h:RE R L S E w) (_ht:t<L.n) (_hC:cF L E t) (_iO:(E.th t).phase=10),Calls Tryz.prog 207 #[.pointer (some ⟨L.g,t*30,none⟩)] w fun e w'=>e = .returned (.tuple #[])∧aF R L S w (M.step P L.n L.cap E t) w'
open row in
theorem uI:int.gW∧list.gW∧tree.gW∧row.gW:=by
 refine ⟨@mkK _ 0 ?_,@mkK _ 1 ?_,@mkK _ 2 ?_,@mkK _ 3 ?_⟩<;>intro kk σ R L S E w t P h ht hC cG
 all_goals
  obtain ⟨cv,cf,pv,hc,-,-,-,-⟩:=h.cells ht rfl
  first|(have _:Kn 0:=kk;have c3:w.cell? ⟨L.g,t*28+3,none⟩=some (.int .i64 10):=by have:=hc 3 _ (by decide) rfl;rw [cG] at this;exact this)|(have _:Kn 1:=kk;have c3:w.cell? ⟨L.g,t*28+3,none⟩=some (.int .i64 10):=by have:=hc 3 _ (by decide) rfl;rw [cG] at this;exact this)|(have _:Kn 2:=kk;have c3:w.cell? ⟨L.g,t*28+3,none⟩=some (.int .i64 10):=by have:=hc 3 _ (by decide) rfl;rw [cG] at this;exact this)|(have _:Kn 3:=kk;have c3:w.cell? ⟨L.g,t*30+3,none⟩=some (.int .i64 10):=by have:=hc 3 _ (by decide) rfl;rw [cG] at this;exact this)
  have hn:=h.ok.n64
  have aFV:=h.ok.WU
  first|(have _:Kn 0:=kk;refine (have HX:Calls Tryz.prog 123 #[.pointer (some ⟨L.g,t*28,none⟩)] w fun e w'=>e = .returned (.tuple #[])∧int.aF R L S w (M.step P L.n L.cap E t) w':=?_;?_))|(have _:Kn 1:=kk;refine (have HX:Calls Tryz.prog 183 #[.pointer (some ⟨L.g,t*28,none⟩)] w fun e w'=>e = .returned (.tuple #[])∧list.aF R L S w (M.step P L.n L.cap E t) w':=?_;?_))|(have _:Kn 2:=kk;refine (have HX:Calls Tryz.prog 257 #[.pointer (some ⟨L.g,t*28,none⟩)] w fun e w'=>e = .returned (.tuple #[])∧tree.aF R L S w (M.step P L.n L.cap E t) w':=?_;?_))|(have _:Kn 3:=kk;refine (have HX:Calls Tryz.prog 220 #[.pointer (some ⟨L.g,t*30,none⟩)] w fun e w'=>e = .returned (.tuple #[])∧row.aF R L S w (M.step P L.n L.cap E t) w':=?_;?_))
  ·by_cases q:E.cZ=(E.th t).stamp∧E.prec=(E.th t).aQ
   ·refine (pU h ht hC.N q.1 q.2 hC.sr (by have:=hC.sp;omega) (by have:=hC.b;omega)).mono ?_
    rintro e w1 ⟨rfl,r1,k1⟩
    refine ⟨rfl,(aF.of r1 k1 rfl).cast ?_⟩
    unfold M.step
    simp only [cG]
    rw [if_pos q]
   ·refine (nR h ht hC.st (by have:=hC.pr;omega) q hC.sr (by have:=hC.sp;omega) hC.b).mono ?_
    rintro e w1 ⟨rfl,r1,k1⟩
    refine ⟨rfl,(aF.of r1 k1 rfl).cast ?_⟩
    unfold M.step
    simp only [cG]
    rw [if_neg q]
  have HX:=aA HX
  clear h hc hC cG
  first|(have _:Kn 0:=kk;go_enter Tryz.func109,Tryz.ntmps109)|(have _:Kn 1:=kk;go_enter Tryz.func170,Tryz.ntmps170)|(have _:Kn 2:=kk;go_enter Tryz.func244,Tryz.ntmps244)|(have _:Kn 3:=kk;go_enter Tryz.func207,Tryz.ntmps207)
  go_wp2_with fail
  refine HX.out.mono ?_
  rintro e w1 ⟨rfl,L1⟩
  have HR:=aA L1
  clear L1
  go_wp2
  exact bodyPost_end (v:=.tuple #[]) (by simp [results,Tryz.results109,Tryz.results170,Tryz.results244,Tryz.results207,go_sem]) rfl ⟨rfl,HR.out⟩
theorem int.AM:gW:=uI.1
theorem list.AM:gW:=uI.2.1
theorem tree.AM:gW:=uI.2.2.1
theorem row.AM:gW:=uI.2.2.2
def int.jO:Prop:=∀ {σ:Type} {R:SR σ} {L:Lt} {S:Nat→Prop} {E:aK σ} {w:World} {t:Nat} {P:M.Plain σ} {fA:Nat} {rv:Value} (_hA:cE R P L fA rv) (_h:RE R L S E w) (_ht:t<L.n) (_hC:cF L E t) (_hZ:(E.th t).phase=8→∀ v,(E.th t).now=some v→R.sz v.st≤1000000000000) (_h1:1≤(E.th t).phase) (_h13:(E.th t).phase≤13),Calls Tryz.prog 109 #[.pointer (some ⟨L.g,t*28,none⟩)] w fun e w'=>e = .returned (.tuple #[])∧aF R L S w (M.step P L.n L.cap E t) w'
def list.jO:Prop:=∀ {σ:Type} {R:SR σ} {L:Lt} {S:Nat→Prop} {E:aK σ} {w:World} {t:Nat} {P:M.Plain σ} {fA:Nat} {rv:Value} (_hA:cE R P L fA rv) (_h:RE R L S E w) (_ht:t<L.n) (_hC:cF L E t) (_hZ:(E.th t).phase=8→∀ v,(E.th t).now=some v→R.sz v.st≤1000000000000) (_h1:1≤(E.th t).phase) (_h13:(E.th t).phase≤13),Calls Tryz.prog 170 #[.pointer (some ⟨L.g,t*28,none⟩)] w fun e w'=>e = .returned (.tuple #[])∧aF R L S w (M.step P L.n L.cap E t) w'
def tree.jO:Prop:=∀ {σ:Type} {R:SR σ} {L:Lt} {S:Nat→Prop} {E:aK σ} {w:World} {t:Nat} {P:M.Plain σ} {fA:Nat} {rv:Value} (_hA:cE R P L fA rv) (_h:RE R L S E w) (_ht:t<L.n) (_hC:cF L E t) (_hZ:(E.th t).phase=8→∀ v,(E.th t).now=some v→R.sz v.st≤1000000000000) (_h1:1≤(E.th t).phase) (_h13:(E.th t).phase≤13),Calls Tryz.prog 244 #[.pointer (some ⟨L.g,t*28,none⟩)] w fun e w'=>e = .returned (.tuple #[])∧aF R L S w (M.step P L.n L.cap E t) w'
def row.jO:Prop:=∀ {σ:Type} {R:SR σ} {L:Lt} {S:Nat→Prop} {E:aK σ} {w:World} {t:Nat} {P:M.Plain σ} {fA:Nat} {rv:Value} (_hA:cE R P L fA rv) (_h:RE R L S E w) (_ht:t<L.n) (_hC:cF L E t) (_hZ:(E.th t).phase=8→∀ v,(E.th t).now=some v→R.sz v.st≤1000000000000) (_h1:1≤(E.th t).phase) (_h13:(E.th t).phase≤13),Calls Tryz.prog 207 #[.pointer (some ⟨L.g,t*30,none⟩)] w fun e w'=>e = .returned (.tuple #[])∧aF R L S w (M.step P L.n L.cap E t) w'
open row in
theorem wU:int.jO∧list.jO∧tree.jO∧row.jO:=by
 refine ⟨?_,?_,?_,?_⟩<;>intro σ R L S E w t P fA rv hA h ht hC hZ h1 h13
 all_goals
  rcases (by omega:(E.th t).phase=1∨(E.th t).phase=2∨(E.th t).phase=3∨(E.th t).phase=4∨(E.th t).phase=5∨(E.th t).phase=6∨(E.th t).phase=7∨(E.th t).phase=8∨(E.th t).phase=9∨(E.th t).phase=10∨(E.th t).phase=11∨(E.th t).phase=12∨(E.th t).phase=13) with q|q|q|q|q|q|q|q|q|q|q|q|q
  ·exact GM hA h ht hC q
  ·exact GN hA h ht hC q
  ·exact GQ hA h ht hC q
  ·exact GR hA h ht hC q
  ·exact GU hA h ht hC q
  ·exact GV hA h ht hC q
  ·exact GX hA h ht hC q
  ·exact GY hA h ht hC q (hZ q)
  ·exact GZ hA h ht hC q
  ·exact AM h ht hC q
  ·exact AH hA h ht hC q
  ·exact AK hA h ht hC q
  ·exact AL hA h ht hC q
theorem int.HZ:jO:=wU.1
theorem list.HZ:jO:=wU.2.1
theorem tree.HZ:jO:=wU.2.2.1
theorem row.HZ:jO:=wU.2.2.2
end Go.Proofs.YtefjhnhdagolhabGreat
