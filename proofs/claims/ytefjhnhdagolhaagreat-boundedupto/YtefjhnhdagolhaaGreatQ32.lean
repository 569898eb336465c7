import Derived.Test.YtefjhnhdagolhaaGreatQ31
set_option maxHeartbeats 4000000
set_option maxRecDepth 20000
namespace Go.Proofs.YtefjhnhdagolhaaGreat
open int list tree
open Go.RowKit
open M (aI aC aD Op cY aS aK aQ aL aN)
attribute [local go_sem ↓] Go.wp_at_zero Go.wp_at_succ
structure int.cC {σ:Type} (L:Lt) (E:aK σ) (t:Nat):Prop where
 N:E.cZ≤1000000000
 st:(E.th t).stamp≤1000000000
 pr:E.prec<2*L.n+1
 sr:(E.th t).aR<129
 sp:(E.th t).spare<2*L.n+1
 b:(E.th t).aG≤L.cap
 p1:(E.th t).phase=1→(E.th t).past<3
 p2:(E.th t).phase=2→0≤E.bC (t / 16)∧E.bC (t / 16)<65536
 p3:(E.th t).phase=3→(E.th t).past≤1000000
 p5:(E.th t).phase=5→(E.th t).aR<2*L.n+1∧(E.th t).past≤aQ L.n∧(E.eX (E.th t).aR).isSome
 p6:(E.th t).phase=6→(E.th t).past<M.tw L.n
 p7:(E.th t).phase=7→E.cZ=(E.th t).stamp→∀ k,k<M.tw L.n→fB ((E.th t).tg k)∧fB ((E.th t).dw k)
 p8:(E.th t).phase=8→(∃ v f,(E.th t).now=some v∧(E.th t).cD=some f)∧(E.th t).past<3*(E.th t).aJ.length∧(E.th t).aJ.length≤64∧(E.th t).aJ.getD ((E.th t).past / 3) 0<L.n
 p9:(E.th t).phase=9→(E.th t).spare<2*L.n+1∧(E.th t).past≤aQ L.n∧(E.th t).now.isSome∧(E.th t).cD.isSome
 p12:(E.th t).phase=12∨(E.th t).phase=13→(E.th t).found<2*L.n+1
structure list.cC {σ:Type} (L:Lt) (E:aK σ) (t:Nat):Prop where
 N:E.cZ≤1000000000
 st:(E.th t).stamp≤1000000000
 pr:E.prec<2*L.n+1
 sr:(E.th t).aR<129
 sp:(E.th t).spare<2*L.n+1
 b:(E.th t).aG≤L.cap
 p1:(E.th t).phase=1→(E.th t).past<3
 p2:(E.th t).phase=2→0≤E.bC (t / 16)∧E.bC (t / 16)<65536
 p3:(E.th t).phase=3→(E.th t).past≤1000000
 p5:(E.th t).phase=5→(E.th t).aR<2*L.n+1∧(E.th t).past≤aQ L.n∧(E.eX (E.th t).aR).isSome
 p6:(E.th t).phase=6→(E.th t).past<M.tw L.n
 p7:(E.th t).phase=7→E.cZ=(E.th t).stamp→∀ k,k<M.tw L.n→fB ((E.th t).tg k)∧fB ((E.th t).dw k)
 p8:(E.th t).phase=8→(∃ v f,(E.th t).now=some v∧(E.th t).cD=some f)∧(E.th t).past<3*(E.th t).aJ.length∧(E.th t).aJ.length≤64∧(E.th t).aJ.getD ((E.th t).past / 3) 0<L.n
 p9:(E.th t).phase=9→(E.th t).spare<2*L.n+1∧(E.th t).past≤aQ L.n∧(E.th t).now.isSome∧(E.th t).cD.isSome
 p12:(E.th t).phase=12∨(E.th t).phase=13→(E.th t).found<2*L.n+1
structure tree.cC {σ:Type} (L:Lt) (E:aK σ) (t:Nat):Prop where
 N:E.cZ≤1000000000
 st:(E.th t).stamp≤1000000000
 pr:E.prec<2*L.n+1
 sr:(E.th t).aR<129
 sp:(E.th t).spare<2*L.n+1
 b:(E.th t).aG≤L.cap
 p1:(E.th t).phase=1→(E.th t).past<3
 p2:(E.th t).phase=2→0≤E.bC (t / 16)∧E.bC (t / 16)<65536
 p3:(E.th t).phase=3→(E.th t).past≤1000000
 p5:(E.th t).phase=5→(E.th t).aR<2*L.n+1∧(E.th t).past≤aQ L.n∧(E.eX (E.th t).aR).isSome
 p6:(E.th t).phase=6→(E.th t).past<M.tw L.n
 p7:(E.th t).phase=7→E.cZ=(E.th t).stamp→∀ k,k<M.tw L.n→fB ((E.th t).tg k)∧fB ((E.th t).dw k)
 p8:(E.th t).phase=8→(∃ v f,(E.th t).now=some v∧(E.th t).cD=some f)∧(E.th t).past<3*(E.th t).aJ.length∧(E.th t).aJ.length≤64∧(E.th t).aJ.getD ((E.th t).past / 3) 0<L.n
 p9:(E.th t).phase=9→(E.th t).spare<2*L.n+1∧(E.th t).past≤aQ L.n∧(E.th t).now.isSome∧(E.th t).cD.isSome
 p12:(E.th t).phase=12∨(E.th t).phase=13→(E.th t).found<2*L.n+1
structure row.cC {σ:Type} (L:Lt) (E:aK σ) (t:Nat):Prop where
 N:E.cZ≤1000000000
 st:(E.th t).stamp≤1000000000
 pr:E.prec<2*L.n+1
 sr:(E.th t).aR<129
 sp:(E.th t).spare<2*L.n+1
 b:(E.th t).aG≤L.cap
 p1:(E.th t).phase=1→(E.th t).past<3
 p2:(E.th t).phase=2→0≤E.bC (t / 16)∧E.bC (t / 16)<65536
 p3:(E.th t).phase=3→(E.th t).past≤1000000
 p5:(E.th t).phase=5→(E.th t).aR<2*L.n+1∧(E.th t).past≤aQ L.n∧(E.eX (E.th t).aR).isSome
 p6:(E.th t).phase=6→(E.th t).past<M.tw L.n
 p7:(E.th t).phase=7→E.cZ=(E.th t).stamp→∀ k,k<M.tw L.n→fB ((E.th t).tg k)∧fB ((E.th t).dw k)
 p8:(E.th t).phase=8→(∃ v f,(E.th t).now=some v∧(E.th t).cD=some f)∧(E.th t).past<3*(E.th t).aJ.length∧(E.th t).aJ.length≤64∧(E.th t).aJ.getD ((E.th t).past / 3) 0<L.n
 p9:(E.th t).phase=9→(E.th t).spare<2*L.n+1∧(E.th t).past≤aQ L.n∧(E.th t).now.isSome∧(E.th t).cD.isSome
 p12:(E.th t).phase=12∨(E.th t).phase=13→(E.th t).found<2*L.n+1
def int.mV:Prop:=∀ {σ:Type} {R:SR σ} {L:Lt} {S:Nat→Prop} {E:aK σ} {w:World} {t:Nat} {P:M.Plain σ} {fA:Nat} {rv:Value} (_kI:bO R P L fA rv) (_h:RE R L S E w) (_ht:t<L.n) (_hC:cC L E t) (_iX:(E.th t).phase=1),Calls Tryz.prog 200 #[.pointer (some ⟨L.g,t*28,none⟩)] w fun e w'=>e = .returned (.tuple #[])∧aF R L S w (M.step P L.n L.cap E t) w'
def list.mV:Prop:=∀ {σ:Type} {R:SR σ} {L:Lt} {S:Nat→Prop} {E:aK σ} {w:World} {t:Nat} {P:M.Plain σ} {fA:Nat} {rv:Value} (_kI:bO R P L fA rv) (_h:RE R L S E w) (_ht:t<L.n) (_hC:cC L E t) (_iX:(E.th t).phase=1),Calls Tryz.prog 259 #[.pointer (some ⟨L.g,t*28,none⟩)] w fun e w'=>e = .returned (.tuple #[])∧aF R L S w (M.step P L.n L.cap E t) w'
def tree.mV:Prop:=∀ {σ:Type} {R:SR σ} {L:Lt} {S:Nat→Prop} {E:aK σ} {w:World} {t:Nat} {P:M.Plain σ} {fA:Nat} {rv:Value} (_kI:bO R P L fA rv) (_h:RE R L S E w) (_ht:t<L.n) (_hC:cC L E t) (_iX:(E.th t).phase=1),Calls Tryz.prog 333 #[.pointer (some ⟨L.g,t*28,none⟩)] w fun e w'=>e = .returned (.tuple #[])∧aF R L S w (M.step P L.n L.cap E t) w'
theorem CY:int.mV∧list.mV∧tree.mV:=by
 refine ⟨@mkK _ 0 ?_,@mkK _ 1 ?_,@mkK _ 2 ?_⟩<;>intro kk σ R L S E w t P fA rv _hA h ht hC cF
 all_goals
  obtain ⟨cv,cf,pv,hc,-,-,-,-⟩:=h.cells ht rfl
  have c3:w.cell? ⟨L.g,t*28+3,none⟩=some (.int .i64 1):=by have:=hc 3 _ (by decide) rfl;rw [cF] at this;exact this
  have HH:=aA h
  have HC:=aA hC
  have HX:=aA (pG HH.out ht (HC.out.p1 cF))
  have HP:=aA cF
  clear h hc hC cF
  first|(have _:Kn 0:=kk;go_enter Tryz.func200,Tryz.ntmps200)|(have _:Kn 1:=kk;go_enter Tryz.func259,Tryz.ntmps259)|(have _:Kn 2:=kk;go_enter Tryz.func333,Tryz.ntmps333)
  go_wp2_with fail
  refine HX.out.mono ?_
  rintro e w1 ⟨rfl,r1,k1⟩
  have HR:=aA (aF.of r1 k1 rfl)
  clear r1 k1
  go_wp2
  refine bodyPost_end (v:=.tuple #[]) (by simp [results,Tryz.results200,Tryz.results259,Tryz.results333,go_sem]) rfl ⟨rfl,HR.out.cast ?_⟩
  unfold M.step
  simp only [HP.out]
theorem int.II:mV:=CY.1
theorem list.II:mV:=CY.2.1
theorem tree.II:mV:=CY.2.2
theorem row.II {σ:Type} {R:SR σ} {L:Lt} {S:Nat→Prop} {E:aK σ} {w:World} {t:Nat} {P:M.Plain σ} {fA:Nat} {rv:Value} (_hA:bO R P L fA rv) (h:RE R L S E w) (ht:t<L.n) (hC:cC L E t) (cF:(E.th t).phase=1) :
  Calls Tryz.prog 296 #[.pointer (some ⟨L.g,t*30,none⟩)] w fun e w'=>e = .returned (.tuple #[])∧aF R L S w (M.step P L.n L.cap E t) w':=by
 obtain ⟨cv,cf,pv,hc,-,-,-,-⟩:=h.cells ht rfl
 have c3:w.cell? ⟨L.g,t*30+3,none⟩=some (.int .i64 1):=by have:=hc 3 _ (by decide) rfl;rw [cF] at this;exact this
 have HH:=aA h
 have HC:=aA hC
 have HX:=aA (pG HH.out ht (HC.out.p1 cF))
 have HP:=aA cF
 clear h hc hC cF
 go_enter Tryz.func296,Tryz.ntmps296
 go_wp2_with fail
 refine HX.out.mono ?_
 rintro e w1 ⟨rfl,r1,k1⟩
 have HR:=aA (aF.of r1 k1 rfl)
 clear r1 k1
 go_wp2
 refine bodyPost_end (v:=.tuple #[]) (by simp [results,Tryz.results296,go_sem]) rfl ⟨rfl,HR.out.cast ?_⟩
 unfold M.step
 simp only [HP.out]
def int.mW:Prop:=∀ {σ:Type} {R:SR σ} {L:Lt} {S:Nat→Prop} {E:aK σ} {w:World} {t:Nat} {P:M.Plain σ} {fA:Nat} {rv:Value} (_kI:bO R P L fA rv) (_h:RE R L S E w) (_ht:t<L.n) (_hC:cC L E t) (_iX:(E.th t).phase=2),Calls Tryz.prog 200 #[.pointer (some ⟨L.g,t*28,none⟩)] w fun e w'=>e = .returned (.tuple #[])∧aF R L S w (M.step P L.n L.cap E t) w'
def list.mW:Prop:=∀ {σ:Type} {R:SR σ} {L:Lt} {S:Nat→Prop} {E:aK σ} {w:World} {t:Nat} {P:M.Plain σ} {fA:Nat} {rv:Value} (_kI:bO R P L fA rv) (_h:RE R L S E w) (_ht:t<L.n) (_hC:cC L E t) (_iX:(E.th t).phase=2),Calls Tryz.prog 259 #[.pointer (some ⟨L.g,t*28,none⟩)] w fun e w'=>e = .returned (.tuple #[])∧aF R L S w (M.step P L.n L.cap E t) w'
def tree.mW:Prop:=∀ {σ:Type} {R:SR σ} {L:Lt} {S:Nat→Prop} {E:aK σ} {w:World} {t:Nat} {P:M.Plain σ} {fA:Nat} {rv:Value} (_kI:bO R P L fA rv) (_h:RE R L S E w) (_ht:t<L.n) (_hC:cC L E t) (_iX:(E.th t).phase=2),Calls Tryz.prog 333 #[.pointer (some ⟨L.g,t*28,none⟩)] w fun e w'=>e = .returned (.tuple #[])∧aF R L S w (M.step P L.n L.cap E t) w'
theorem CZ:int.mW∧list.mW∧tree.mW:=by
 refine ⟨@mkK _ 0 ?_,@mkK _ 1 ?_,@mkK _ 2 ?_⟩<;>intro kk σ R L S E w t P fA rv _hA h ht hC cF
 all_goals
  obtain ⟨cv,cf,pv,hc,-,-,-,-⟩:=h.cells ht rfl
  have c3:w.cell? ⟨L.g,t*28+3,none⟩=some (.int .i64 2):=by have:=hc 3 _ (by decide) rfl;rw [cF] at this;exact this
  have HH:=aA h
  have HC:=aA hC
  have HX:=aA (CN HH.out ht (HC.out.p2 cF).1 (HC.out.p2 cF).2)
  have HP:=aA cF
  clear h hc hC cF
  first|(have _:Kn 0:=kk;go_enter Tryz.func200,Tryz.ntmps200)|(have _:Kn 1:=kk;go_enter Tryz.func259,Tryz.ntmps259)|(have _:Kn 2:=kk;go_enter Tryz.func333,Tryz.ntmps333)
  go_wp2_with fail
  refine HX.out.mono ?_
  rintro e w1 ⟨rfl,r1,k1⟩
  have HR:=aA (aF.of r1 k1 rfl)
  clear r1 k1
  go_wp2
  refine bodyPost_end (v:=.tuple #[]) (by simp [results,Tryz.results200,Tryz.results259,Tryz.results333,go_sem]) rfl ⟨rfl,HR.out.cast ?_⟩
  unfold M.step
  simp only [HP.out]
theorem int.IJ:mW:=CZ.1
theorem list.IJ:mW:=CZ.2.1
theorem tree.IJ:mW:=CZ.2.2
theorem row.IJ {σ:Type} {R:SR σ} {L:Lt} {S:Nat→Prop} {E:aK σ} {w:World} {t:Nat} {P:M.Plain σ} {fA:Nat} {rv:Value} (_hA:bO R P L fA rv) (h:RE R L S E w) (ht:t<L.n) (hC:cC L E t) (cF:(E.th t).phase=2) :
  Calls Tryz.prog 296 #[.pointer (some ⟨L.g,t*30,none⟩)] w fun e w'=>e = .returned (.tuple #[])∧aF R L S w (M.step P L.n L.cap E t) w':=by
 obtain ⟨cv,cf,pv,hc,-,-,-,-⟩:=h.cells ht rfl
 have c3:w.cell? ⟨L.g,t*30+3,none⟩=some (.int .i64 2):=by have:=hc 3 _ (by decide) rfl;rw [cF] at this;exact this
 have HH:=aA h
 have HC:=aA hC
 have HX:=aA (CN HH.out ht (HC.out.p2 cF).1 (HC.out.p2 cF).2)
 have HP:=aA cF
 clear h hc hC cF
 go_enter Tryz.func296,Tryz.ntmps296
 go_wp2_with fail
 refine HX.out.mono ?_
 rintro e w1 ⟨rfl,r1,k1⟩
 have HR:=aA (aF.of r1 k1 rfl)
 clear r1 k1
 go_wp2
 refine bodyPost_end (v:=.tuple #[]) (by simp [results,Tryz.results296,go_sem]) rfl ⟨rfl,HR.out.cast ?_⟩
 unfold M.step
 simp only [HP.out]
def int.mX:Prop:=∀ {σ:Type} {R:SR σ} {L:Lt} {S:Nat→Prop} {E:aK σ} {w:World} {t:Nat} {P:M.Plain σ} {fA:Nat} {rv:Value} (_kI:bO R P L fA rv) (_h:RE R L S E w) (_ht:t<L.n) (_hC:cC L E t) (_iX:(E.th t).phase=3),Calls Tryz.prog 200 #[.pointer (some ⟨L.g,t*28,none⟩)] w fun e w'=>e = .returned (.tuple #[])∧aF R L S w (M.step P L.n L.cap E t) w'
def list.mX:Prop:=∀ {σ:Type} {R:SR σ} {L:Lt} {S:Nat→Prop} {E:aK σ} {w:World} {t:Nat} {P:M.Plain σ} {fA:Nat} {rv:Value} (_kI:bO R P L fA rv) (_h:RE R L S E w) (_ht:t<L.n) (_hC:cC L E t) (_iX:(E.th t).phase=3),Calls Tryz.prog 259 #[.pointer (some ⟨L.g,t*28,none⟩)] w fun e w'=>e = .returned (.tuple #[])∧aF R L S w (M.step P L.n L.cap E t) w'
def tree.mX:Prop:=∀ {σ:Type} {R:SR σ} {L:Lt} {S:Nat→Prop} {E:aK σ} {w:World} {t:Nat} {P:M.Plain σ} {fA:Nat} {rv:Value} (_kI:bO R P L fA rv) (_h:RE R L S E w) (_ht:t<L.n) (_hC:cC L E t) (_iX:(E.th t).phase=3),Calls Tryz.prog 333 #[.pointer (some ⟨L.g,t*28,none⟩)] w fun e w'=>e = .returned (.tuple #[])∧aF R L S w (M.step P L.n L.cap E t) w'
theorem DC:int.mX∧list.mX∧tree.mX:=by
 refine ⟨@mkK _ 0 ?_,@mkK _ 1 ?_,@mkK _ 2 ?_⟩<;>intro kk σ R L S E w t P fA rv _hA h ht hC cF
 all_goals
  obtain ⟨cv,cf,pv,hc,-,-,-,-⟩:=h.cells ht rfl
  have c3:w.cell? ⟨L.g,t*28+3,none⟩=some (.int .i64 3):=by have:=hc 3 _ (by decide) rfl;rw [cF] at this;exact this
  have c9:=hc 9 _ (by decide) rfl
  have HH:=aA h
  have HC:=aA hC
  have HX:=aA (kD HH.out ht (E.th t).aG 4 (by have:=HC.out.b;have:=HH.out.ok.VQ;omega) (HC.out.p3 cF))
  have HP:=aA cF
  clear h hc hC cF
  first|(have _:Kn 0:=kk;go_enter Tryz.func200,Tryz.ntmps200)|(have _:Kn 1:=kk;go_enter Tryz.func259,Tryz.ntmps259)|(have _:Kn 2:=kk;go_enter Tryz.func333,Tryz.ntmps333)
  go_wp2_with fail
  refine HX.out.mono ?_
  rintro e w1 ⟨rfl,r1,k1⟩
  have HR:=aA (aF.of r1 k1 rfl)
  clear r1 k1
  go_wp2
  refine bodyPost_end (v:=.tuple #[]) (by simp [results,Tryz.results200,Tryz.results259,Tryz.results333,go_sem]) rfl ⟨rfl,HR.out.cast ?_⟩
  unfold M.step
  simp only [HP.out]
theorem int.IK:mX:=DC.1
theorem list.IK:mX:=DC.2.1
theorem tree.IK:mX:=DC.2.2
theorem row.IK {σ:Type} {R:SR σ} {L:Lt} {S:Nat→Prop} {E:aK σ} {w:World} {t:Nat} {P:M.Plain σ} {fA:Nat} {rv:Value} (_hA:bO R P L fA rv) (h:RE R L S E w) (ht:t<L.n) (hC:cC L E t) (cF:(E.th t).phase=3) :
  Calls Tryz.prog 296 #[.pointer (some ⟨L.g,t*30,none⟩)] w fun e w'=>e = .returned (.tuple #[])∧aF R L S w (M.step P L.n L.cap E t) w':=by
 obtain ⟨cv,cf,pv,hc,-,-,-,-⟩:=h.cells ht rfl
 have c3:w.cell? ⟨L.g,t*30+3,none⟩=some (.int .i64 3):=by have:=hc 3 _ (by decide) rfl;rw [cF] at this;exact this
 have c9:=hc 9 _ (by decide) rfl
 have HH:=aA h
 have HC:=aA hC
 have HX:=aA (kD HH.out ht (E.th t).aG 4 (by have:=HC.out.b;have:=HH.out.ok.VQ;omega) (HC.out.p3 cF))
 have HP:=aA cF
 clear h hc hC cF
 go_enter Tryz.func296,Tryz.ntmps296
 go_wp2_with fail
 refine HX.out.mono ?_
 rintro e w1 ⟨rfl,r1,k1⟩
 have HR:=aA (aF.of r1 k1 rfl)
 clear r1 k1
 go_wp2
 refine bodyPost_end (v:=.tuple #[]) (by simp [results,Tryz.results296,go_sem]) rfl ⟨rfl,HR.out.cast ?_⟩
 unfold M.step
 simp only [HP.out]
def int.mY:Prop:=∀ {σ:Type} {R:SR σ} {L:Lt} {S:Nat→Prop} {E:aK σ} {w:World} {t:Nat} {P:M.Plain σ} {fA:Nat} {rv:Value} (_kI:bO R P L fA rv) (_h:RE R L S E w) (_ht:t<L.n) (_hC:cC L E t) (_iX:(E.th t).phase=4),Calls Tryz.prog 200 #[.pointer (some ⟨L.g,t*28,none⟩)] w fun e w'=>e = .returned (.tuple #[])∧aF R L S w (M.step P L.n L.cap E t) w'
def list.mY:Prop:=∀ {σ:Type} {R:SR σ} {L:Lt} {S:Nat→Prop} {E:aK σ} {w:World} {t:Nat} {P:M.Plain σ} {fA:Nat} {rv:Value} (_kI:bO R P L fA rv) (_h:RE R L S E w) (_ht:t<L.n) (_hC:cC L E t) (_iX:(E.th t).phase=4),Calls Tryz.prog 259 #[.pointer (some ⟨L.g,t*28,none⟩)] w fun e w'=>e = .returned (.tuple #[])∧aF R L S w (M.step P L.n L.cap E t) w'
def tree.mY:Prop:=∀ {σ:Type} {R:SR σ} {L:Lt} {S:Nat→Prop} {E:aK σ} {w:World} {t:Nat} {P:M.Plain σ} {fA:Nat} {rv:Value} (_kI:bO R P L fA rv) (_h:RE R L S E w) (_ht:t<L.n) (_hC:cC L E t) (_iX:(E.th t).phase=4),Calls Tryz.prog 333 #[.pointer (some ⟨L.g,t*28,none⟩)] w fun e w'=>e = .returned (.tuple #[])∧aF R L S w (M.step P L.n L.cap E t) w'
theorem DD:int.mY∧list.mY∧tree.mY:=by
 refine ⟨@mkK _ 0 ?_,@mkK _ 1 ?_,@mkK _ 2 ?_⟩<;>intro kk σ R L S E w t P fA rv _hA h ht hC cF
 all_goals
  obtain ⟨cv,cf,pv,hc,-,-,-,-⟩:=h.cells ht rfl
  have c3:w.cell? ⟨L.g,t*28+3,none⟩=some (.int .i64 4):=by have:=hc 3 _ (by decide) rfl;rw [cF] at this;exact this
  have HH:=aA h
  have HC:=aA hC
  have HX:=aA (CI HH.out ht)
  have HP:=aA cF
  clear h hc hC cF
  first|(have _:Kn 0:=kk;go_enter Tryz.func200,Tryz.ntmps200)|(have _:Kn 1:=kk;go_enter Tryz.func259,Tryz.ntmps259)|(have _:Kn 2:=kk;go_enter Tryz.func333,Tryz.ntmps333)
  go_wp2_with fail
  refine HX.out.mono ?_
  rintro e w1 ⟨rfl,r1,k1⟩
  have HR:=aA (aF.of r1 k1 rfl)
  clear r1 k1
  go_wp2
  refine bodyPost_end (v:=.tuple #[]) (by simp [results,Tryz.results200,Tryz.results259,Tryz.results333,go_sem]) rfl ⟨rfl,HR.out.cast ?_⟩
  unfold M.step
  simp only [HP.out]
theorem int.IL:mY:=DD.1
theorem list.IL:mY:=DD.2.1
theorem tree.IL:mY:=DD.2.2
theorem row.IL {σ:Type} {R:SR σ} {L:Lt} {S:Nat→Prop} {E:aK σ} {w:World} {t:Nat} {P:M.Plain σ} {fA:Nat} {rv:Value} (_hA:bO R P L fA rv) (h:RE R L S E w) (ht:t<L.n) (hC:cC L E t) (cF:(E.th t).phase=4) :
  Calls Tryz.prog 296 #[.pointer (some ⟨L.g,t*30,none⟩)] w fun e w'=>e = .returned (.tuple #[])∧aF R L S w (M.step P L.n L.cap E t) w':=by
 obtain ⟨cv,cf,pv,hc,-,-,-,-⟩:=h.cells ht rfl
 have c3:w.cell? ⟨L.g,t*30+3,none⟩=some (.int .i64 4):=by have:=hc 3 _ (by decide) rfl;rw [cF] at this;exact this
 have HH:=aA h
 have HC:=aA hC
 have HX:=aA (CI HH.out ht)
 have HP:=aA cF
 clear h hc hC cF
 go_enter Tryz.func296,Tryz.ntmps296
 go_wp2_with fail
 refine HX.out.mono ?_
 rintro e w1 ⟨rfl,r1,k1⟩
 have HR:=aA (aF.of r1 k1 rfl)
 clear r1 k1
 go_wp2
 refine bodyPost_end (v:=.tuple #[]) (by simp [results,Tryz.results296,go_sem]) rfl ⟨rfl,HR.out.cast ?_⟩
 unfold M.step
 simp only [HP.out]
def int.mZ:Prop:=∀ {σ:Type} {R:SR σ} {L:Lt} {S:Nat→Prop} {E:aK σ} {w:World} {t:Nat} {P:M.Plain σ} {fA:Nat} {rv:Value} (_kI:bO R P L fA rv) (_h:RE R L S E w) (_ht:t<L.n) (_hC:cC L E t) (_iX:(E.th t).phase=5),Calls Tryz.prog 200 #[.pointer (some ⟨L.g,t*28,none⟩)] w fun e w'=>e = .returned (.tuple #[])∧aF R L S w (M.step P L.n L.cap E t) w'
def list.mZ:Prop:=∀ {σ:Type} {R:SR σ} {L:Lt} {S:Nat→Prop} {E:aK σ} {w:World} {t:Nat} {P:M.Plain σ} {fA:Nat} {rv:Value} (_kI:bO R P L fA rv) (_h:RE R L S E w) (_ht:t<L.n) (_hC:cC L E t) (_iX:(E.th t).phase=5),Calls Tryz.prog 259 #[.pointer (some ⟨L.g,t*28,none⟩)] w fun e w'=>e = .returned (.tuple #[])∧aF R L S w (M.step P L.n L.cap E t) w'
def tree.mZ:Prop:=∀ {σ:Type} {R:SR σ} {L:Lt} {S:Nat→Prop} {E:aK σ} {w:World} {t:Nat} {P:M.Plain σ} {fA:Nat} {rv:Value} (_kI:bO R P L fA rv) (_h:RE R L S E w) (_ht:t<L.n) (_hC:cC L E t) (_iX:(E.th t).phase=5),Calls Tryz.prog 333 #[.pointer (some ⟨L.g,t*28,none⟩)] w fun e w'=>e = .returned (.tuple #[])∧aF R L S w (M.step P L.n L.cap E t) w'
theorem DE:int.mZ∧list.mZ∧tree.mZ:=by
 refine ⟨@mkK _ 0 ?_,@mkK _ 1 ?_,@mkK _ 2 ?_⟩<;>intro kk σ R L S E w t P fA rv _hA h ht hC cF
 all_goals
  obtain ⟨cv,cf,pv,hc,-,-,-,-⟩:=h.cells ht rfl
  have c3:w.cell? ⟨L.g,t*28+3,none⟩=some (.int .i64 5):=by have:=hc 3 _ (by decide) rfl;rw [cF] at this;exact this
  have HH:=aA h
  have HC:=aA hC
  have HX:=aA (pI HH.out ht (HC.out.p5 cF).1 (HC.out.p5 cF).2.1 HC.out.st (HC.out.p5 cF).2.2)
  have HP:=aA cF
  clear h hc hC cF
  first|(have _:Kn 0:=kk;go_enter Tryz.func200,Tryz.ntmps200)|(have _:Kn 1:=kk;go_enter Tryz.func259,Tryz.ntmps259)|(have _:Kn 2:=kk;go_enter Tryz.func333,Tryz.ntmps333)
  go_wp2_with fail
  refine HX.out.mono ?_
  rintro e w1 ⟨rfl,L1⟩
  have HR:=aA L1
  clear L1
  go_wp2
  refine bodyPost_end (v:=.tuple #[]) (by simp [results,Tryz.results200,Tryz.results259,Tryz.results333,go_sem]) rfl ⟨rfl,HR.out.cast ?_⟩
  unfold M.step copied
  simp only [HP.out]
  all_goals (split<;>rfl)
theorem int.IM:mZ:=DE.1
theorem list.IM:mZ:=DE.2.1
theorem tree.IM:mZ:=DE.2.2
theorem row.IM {σ:Type} {R:SR σ} {L:Lt} {S:Nat→Prop} {E:aK σ} {w:World} {t:Nat} {P:M.Plain σ} {fA:Nat} {rv:Value} (_hA:bO R P L fA rv) (h:RE R L S E w) (ht:t<L.n) (hC:cC L E t) (cF:(E.th t).phase=5) :
  Calls Tryz.prog 296 #[.pointer (some ⟨L.g,t*30,none⟩)] w fun e w'=>e = .returned (.tuple #[])∧aF R L S w (M.step P L.n L.cap E t) w':=by
 obtain ⟨cv,cf,pv,hc,-,-,-,-⟩:=h.cells ht rfl
 have c3:w.cell? ⟨L.g,t*30+3,none⟩=some (.int .i64 5):=by have:=hc 3 _ (by decide) rfl;rw [cF] at this;exact this
 have HH:=aA h
 have HC:=aA hC
 have HX:=aA (pI HH.out ht (HC.out.p5 cF).1 (HC.out.p5 cF).2.1 HC.out.st (HC.out.p5 cF).2.2)
 have HP:=aA cF
 clear h hc hC cF
 go_enter Tryz.func296,Tryz.ntmps296
 go_wp2_with fail
 refine HX.out.mono ?_
 rintro e w1 ⟨rfl,L1⟩
 have HR:=aA L1
 clear L1
 go_wp2
 refine bodyPost_end (v:=.tuple #[]) (by simp [results,Tryz.results296,go_sem]) rfl ⟨rfl,HR.out.cast ?_⟩
 unfold M.step copied
 simp only [HP.out]
 all_goals (split<;>rfl)
def int.nA:Prop:=∀ {σ:Type} {R:SR σ} {L:Lt} {S:Nat→Prop} {E:aK σ} {w:World} {t:Nat} {P:M.Plain σ} {fA:Nat} {rv:Value} (_kI:bO R P L fA rv) (_h:RE R L S E w) (_ht:t<L.n) (_hC:cC L E t) (_iX:(E.th t).phase=6),Calls Tryz.prog 200 #[.pointer (some ⟨L.g,t*28,none⟩)] w fun e w'=>e = .returned (.tuple #[])∧aF R L S w (M.step P L.n L.cap E t) w'
def list.nA:Prop:=∀ {σ:Type} {R:SR σ} {L:Lt} {S:Nat→Prop} {E:aK σ} {w:World} {t:Nat} {P:M.Plain σ} {fA:Nat} {rv:Value} (_kI:bO R P L fA rv) (_h:RE R L S E w) (_ht:t<L.n) (_hC:cC L E t) (_iX:(E.th t).phase=6),Calls Tryz.prog 259 #[.pointer (some ⟨L.g,t*28,none⟩)] w fun e w'=>e = .returned (.tuple #[])∧aF R L S w (M.step P L.n L.cap E t) w'
def tree.nA:Prop:=∀ {σ:Type} {R:SR σ} {L:Lt} {S:Nat→Prop} {E:aK σ} {w:World} {t:Nat} {P:M.Plain σ} {fA:Nat} {rv:Value} (_kI:bO R P L fA rv) (_h:RE R L S E w) (_ht:t<L.n) (_hC:cC L E t) (_iX:(E.th t).phase=6),Calls Tryz.prog 333 #[.pointer (some ⟨L.g,t*28,none⟩)] w fun e w'=>e = .returned (.tuple #[])∧aF R L S w (M.step P L.n L.cap E t) w'
theorem DF:int.nA∧list.nA∧tree.nA:=by
 refine ⟨@mkK _ 0 ?_,@mkK _ 1 ?_,@mkK _ 2 ?_⟩<;>intro kk σ R L S E w t P fA rv _hA h ht hC cF
 all_goals
  obtain ⟨cv,cf,pv,hc,-,-,-,-⟩:=h.cells ht rfl
  have c3:w.cell? ⟨L.g,t*28+3,none⟩=some (.int .i64 6):=by have:=hc 3 _ (by decide) rfl;rw [cF] at this;exact this
  have HH:=aA h
  have HC:=aA hC
  have HX:=aA (CO HH.out ht (HC.out.p6 cF))
  have HP:=aA cF
  clear h hc hC cF
  first|(have _:Kn 0:=kk;go_enter Tryz.func200,Tryz.ntmps200)|(have _:Kn 1:=kk;go_enter Tryz.func259,Tryz.ntmps259)|(have _:Kn 2:=kk;go_enter Tryz.func333,Tryz.ntmps333)
  go_wp2_with fail
  refine HX.out.mono ?_
  rintro e w1 ⟨rfl,r1,k1⟩
  have HR:=aA (aF.of r1 k1 rfl)
  clear r1 k1
  go_wp2
  refine bodyPost_end (v:=.tuple #[]) (by simp [results,Tryz.results200,Tryz.results259,Tryz.results333,go_sem]) rfl ⟨rfl,HR.out.cast ?_⟩
  unfold M.step
  simp only [HP.out]
theorem int.IP:nA:=DF.1
theorem list.IP:nA:=DF.2.1
theorem tree.IP:nA:=DF.2.2
theorem row.IP {σ:Type} {R:SR σ} {L:Lt} {S:Nat→Prop} {E:aK σ} {w:World} {t:Nat} {P:M.Plain σ} {fA:Nat} {rv:Value} (_hA:bO R P L fA rv) (h:RE R L S E w) (ht:t<L.n) (hC:cC L E t) (cF:(E.th t).phase=6) :
  Calls Tryz.prog 296 #[.pointer (some ⟨L.g,t*30,none⟩)] w fun e w'=>e = .returned (.tuple #[])∧aF R L S w (M.step P L.n L.cap E t) w':=by
 obtain ⟨cv,cf,pv,hc,-,-,-,-⟩:=h.cells ht rfl
 have c3:w.cell? ⟨L.g,t*30+3,none⟩=some (.int .i64 6):=by have:=hc 3 _ (by decide) rfl;rw [cF] at this;exact this
 have HH:=aA h
 have HC:=aA hC
 have HX:=aA (CO HH.out ht (HC.out.p6 cF))
 have HP:=aA cF
 clear h hc hC cF
 go_enter Tryz.func296,Tryz.ntmps296
 go_wp2_with fail
 refine HX.out.mono ?_
 rintro e w1 ⟨rfl,r1,k1⟩
 have HR:=aA (aF.of r1 k1 rfl)
 clear r1 k1
 go_wp2
 refine bodyPost_end (v:=.tuple #[]) (by simp [results,Tryz.results296,go_sem]) rfl ⟨rfl,HR.out.cast ?_⟩
 unfold M.step
 simp only [HP.out]
def int.nB:Prop:=∀ {σ:Type} {R:SR σ} {L:Lt} {S:Nat→Prop} {E:aK σ} {w:World} {t:Nat} {P:M.Plain σ} {fA:Nat} {rv:Value} (_kI:bO R P L fA rv) (_h:RE R L S E w) (_ht:t<L.n) (_hC:cC L E t) (_iX:(E.th t).phase=7),Calls Tryz.prog 200 #[.pointer (some ⟨L.g,t*28,none⟩)] w fun e w'=>e = .returned (.tuple #[])∧aF R L S w (M.step P L.n L.cap E t) w'
def list.nB:Prop:=∀ {σ:Type} {R:SR σ} {L:Lt} {S:Nat→Prop} {E:aK σ} {w:World} {t:Nat} {P:M.Plain σ} {fA:Nat} {rv:Value} (_kI:bO R P L fA rv) (_h:RE R L S E w) (_ht:t<L.n) (_hC:cC L E t) (_iX:(E.th t).phase=7),Calls Tryz.prog 259 #[.pointer (some ⟨L.g,t*28,none⟩)] w fun e w'=>e = .returned (.tuple #[])∧aF R L S w (M.step P L.n L.cap E t) w'
def tree.nB:Prop:=∀ {σ:Type} {R:SR σ} {L:Lt} {S:Nat→Prop} {E:aK σ} {w:World} {t:Nat} {P:M.Plain σ} {fA:Nat} {rv:Value} (_kI:bO R P L fA rv) (_h:RE R L S E w) (_ht:t<L.n) (_hC:cC L E t) (_iX:(E.th t).phase=7),Calls Tryz.prog 333 #[.pointer (some ⟨L.g,t*28,none⟩)] w fun e w'=>e = .returned (.tuple #[])∧aF R L S w (M.step P L.n L.cap E t) w'
theorem DG:int.nB∧list.nB∧tree.nB:=by
 refine ⟨@mkK _ 0 ?_,@mkK _ 1 ?_,@mkK _ 2 ?_⟩<;>intro kk σ R L S E w t P fA rv _hA h ht hC cF
 all_goals
  obtain ⟨cv,cf,pv,hc,-,-,-,-⟩:=h.cells ht rfl
  have c3:w.cell? ⟨L.g,t*28+3,none⟩=some (.int .i64 7):=by have:=hc 3 _ (by decide) rfl;rw [cF] at this;exact this
  have HH:=aA h
  have HC:=aA hC
  have HX:=aA (xN HH.out ht HC.out.N HC.out.st (by have:=HC.out.pr;have:=HH.out.ok.n64;omega) HC.out.sr HC.out.b (HC.out.p7 cF))
  have HP:=aA cF
  clear h hc hC cF
  first|(have _:Kn 0:=kk;go_enter Tryz.func200,Tryz.ntmps200)|(have _:Kn 1:=kk;go_enter Tryz.func259,Tryz.ntmps259)|(have _:Kn 2:=kk;go_enter Tryz.func333,Tryz.ntmps333)
  go_wp2_with fail
  refine HX.out.mono ?_
  rintro e w1 ⟨rfl,L1⟩
  have HR:=aA L1
  clear L1
  go_wp2
  refine bodyPost_end (v:=.tuple #[]) (by simp [results,Tryz.results200,Tryz.results259,Tryz.results333,go_sem]) rfl ⟨rfl,HR.out.cast ?_⟩
  first|(have _:Kn 0:=kk;unfold M.step int.checked)|(have _:Kn 1:=kk;unfold M.step list.checked)|(have _:Kn 2:=kk;unfold M.step tree.checked)
  simp only [HP.out]
theorem int.IQ:nB:=DG.1
theorem list.IQ:nB:=DG.2.1
theorem tree.IQ:nB:=DG.2.2
theorem row.IQ {σ:Type} {R:SR σ} {L:Lt} {S:Nat→Prop} {E:aK σ} {w:World} {t:Nat} {P:M.Plain σ} {fA:Nat} {rv:Value} (_hA:bO R P L fA rv) (h:RE R L S E w) (ht:t<L.n) (hC:cC L E t) (cF:(E.th t).phase=7) :
  Calls Tryz.prog 296 #[.pointer (some ⟨L.g,t*30,none⟩)] w fun e w'=>e = .returned (.tuple #[])∧aF R L S w (M.step P L.n L.cap E t) w':=by
 obtain ⟨cv,cf,pv,hc,-,-,-,-⟩:=h.cells ht rfl
 have c3:w.cell? ⟨L.g,t*30+3,none⟩=some (.int .i64 7):=by have:=hc 3 _ (by decide) rfl;rw [cF] at this;exact this
 have HH:=aA h
 have HC:=aA hC
 have HX:=aA (xN HH.out ht HC.out.N HC.out.st (by have:=HC.out.pr;have:=HH.out.ok.n64;omega) HC.out.sr HC.out.b (HC.out.p7 cF))
 have HP:=aA cF
 clear h hc hC cF
 go_enter Tryz.func296,Tryz.ntmps296
 go_wp2_with fail
 refine HX.out.mono ?_
 rintro e w1 ⟨rfl,L1⟩
 have HR:=aA L1
 clear L1
 go_wp2
 refine bodyPost_end (v:=.tuple #[]) (by simp [results,Tryz.results296,go_sem]) rfl ⟨rfl,HR.out.cast ?_⟩
 unfold M.step checked
 simp only [HP.out]
def int.nC:Prop:=∀ {σ:Type} {R:SR σ} {L:Lt} {S:Nat→Prop} {E:aK σ} {w:World} {t:Nat} {P:M.Plain σ} {fA:Nat} {rv:Value} (_hA:bO R P L fA rv) (_h:RE R L S E w) (_ht:t<L.n) (_hC:cC L E t) (_iX:(E.th t).phase=8) (_hZ:∀ v,(E.th t).now=some v→R.sz v.st≤1000000000000),Calls Tryz.prog 200 #[.pointer (some ⟨L.g,t*28,none⟩)] w fun e w'=>e = .returned (.tuple #[])∧aF R L S w (M.step P L.n L.cap E t) w'
def list.nC:Prop:=∀ {σ:Type} {R:SR σ} {L:Lt} {S:Nat→Prop} {E:aK σ} {w:World} {t:Nat} {P:M.Plain σ} {fA:Nat} {rv:Value} (_hA:bO R P L fA rv) (_h:RE R L S E w) (_ht:t<L.n) (_hC:cC L E t) (_iX:(E.th t).phase=8) (_hZ:∀ v,(E.th t).now=some v→R.sz v.st≤1000000000000),Calls Tryz.prog 259 #[.pointer (some ⟨L.g,t*28,none⟩)] w fun e w'=>e = .returned (.tuple #[])∧aF R L S w (M.step P L.n L.cap E t) w'
def tree.nC:Prop:=∀ {σ:Type} {R:SR σ} {L:Lt} {S:Nat→Prop} {E:aK σ} {w:World} {t:Nat} {P:M.Plain σ} {fA:Nat} {rv:Value} (_hA:bO R P L fA rv) (_h:RE R L S E w) (_ht:t<L.n) (_hC:cC L E t) (_iX:(E.th t).phase=8) (_hZ:∀ v,(E.th t).now=some v→R.sz v.st≤1000000000000),Calls Tryz.prog 333 #[.pointer (some ⟨L.g,t*28,none⟩)] w fun e w'=>e = .returned (.tuple #[])∧aF R L S w (M.step P L.n L.cap E t) w'
theorem DH:int.nC∧list.nC∧tree.nC:=by
 refine ⟨@mkK _ 0 ?_,@mkK _ 1 ?_,@mkK _ 2 ?_⟩<;>intro kk σ R L S E w t P fA rv hA h ht hC cF hZ
 all_goals
  obtain ⟨cv,cf,pv,hc,-,-,-,-⟩:=h.cells ht rfl
  have c3:w.cell? ⟨L.g,t*28+3,none⟩=some (.int .i64 8):=by have:=hc 3 _ (by decide) rfl;rw [cF] at this;exact this
  have HH:=aA h
  have HC:=aA hC
  obtain ⟨⟨v,f,hv,hf⟩,hp,hl,hk⟩:=hC.p8 cF
  have HX:=aA (CX hA HH.out ht HC.out.st HC.out.sr hv hf (hZ v hv) hp hl hk)
  have HP:=aA cF
  clear h hc hC cF hv hf hp hl hk hZ
  first|(have _:Kn 0:=kk;go_enter Tryz.func200,Tryz.ntmps200)|(have _:Kn 1:=kk;go_enter Tryz.func259,Tryz.ntmps259)|(have _:Kn 2:=kk;go_enter Tryz.func333,Tryz.ntmps333)
  go_wp2_with fail
  refine HX.out.mono ?_
  rintro e w1 ⟨rfl,L1⟩
  have HR:=aA L1
  clear L1
  go_wp2
  refine bodyPost_end (v:=.tuple #[]) (by simp [results,Tryz.results200,Tryz.results259,Tryz.results333,go_sem]) rfl ⟨rfl,HR.out.cast ?_⟩
  unfold M.step iC gN rJ
  simp only [HP.out]
theorem int.IU:nC:=DH.1
theorem list.IU:nC:=DH.2.1
theorem tree.IU:nC:=DH.2.2
theorem row.IU {σ:Type} {R:SR σ} {L:Lt} {S:Nat→Prop} {E:aK σ} {w:World} {t:Nat} {P:M.Plain σ} {fA:Nat} {rv:Value} (hA:bO R P L fA rv) (h:RE R L S E w) (ht:t<L.n) (hC:cC L E t) (cF:(E.th t).phase=8) (hZ:∀ v,(E.th t).now=some v→R.sz v.st≤1000000000000) :
  Calls Tryz.prog 296 #[.pointer (some ⟨L.g,t*30,none⟩)] w fun e w'=>e = .returned (.tuple #[])∧aF R L S w (M.step P L.n L.cap E t) w':=by
 obtain ⟨cv,cf,pv,hc,-,-,-,-⟩:=h.cells ht rfl
 have c3:w.cell? ⟨L.g,t*30+3,none⟩=some (.int .i64 8):=by have:=hc 3 _ (by decide) rfl;rw [cF] at this;exact this
 have HH:=aA h
 have HC:=aA hC
 obtain ⟨⟨v,f,hv,hf⟩,hp,hl,hk⟩:=hC.p8 cF
 have HX:=aA (CX hA HH.out ht HC.out.st HC.out.sr hv hf (hZ v hv) hp hl hk)
 have HP:=aA cF
 clear h hc hC cF hv hf hp hl hk hZ
 go_enter Tryz.func296,Tryz.ntmps296
 go_wp2_with fail
 refine HX.out.mono ?_
 rintro e w1 ⟨rfl,L1⟩
 have HR:=aA L1
 clear L1
 go_wp2
 refine bodyPost_end (v:=.tuple #[]) (by simp [results,Tryz.results296,go_sem]) rfl ⟨rfl,HR.out.cast ?_⟩
 unfold M.step iC gN rJ
 simp only [HP.out]
def int.nE:Prop:=∀ {σ:Type} {R:SR σ} {L:Lt} {S:Nat→Prop} {E:aK σ} {w:World} {t:Nat} {P:M.Plain σ} {fA:Nat} {rv:Value} (_kI:bO R P L fA rv) (_h:RE R L S E w) (_ht:t<L.n) (_hC:cC L E t) (_iX:(E.th t).phase=9),Calls Tryz.prog 200 #[.pointer (some ⟨L.g,t*28,none⟩)] w fun e w'=>e = .returned (.tuple #[])∧aF R L S w (M.step P L.n L.cap E t) w'
def list.nE:Prop:=∀ {σ:Type} {R:SR σ} {L:Lt} {S:Nat→Prop} {E:aK σ} {w:World} {t:Nat} {P:M.Plain σ} {fA:Nat} {rv:Value} (_kI:bO R P L fA rv) (_h:RE R L S E w) (_ht:t<L.n) (_hC:cC L E t) (_iX:(E.th t).phase=9),Calls Tryz.prog 259 #[.pointer (some ⟨L.g,t*28,none⟩)] w fun e w'=>e = .returned (.tuple #[])∧aF R L S w (M.step P L.n L.cap E t) w'
def tree.nE:Prop:=∀ {σ:Type} {R:SR σ} {L:Lt} {S:Nat→Prop} {E:aK σ} {w:World} {t:Nat} {P:M.Plain σ} {fA:Nat} {rv:Value} (_kI:bO R P L fA rv) (_h:RE R L S E w) (_ht:t<L.n) (_hC:cC L E t) (_iX:(E.th t).phase=9),Calls Tryz.prog 333 #[.pointer (some ⟨L.g,t*28,none⟩)] w fun e w'=>e = .returned (.tuple #[])∧aF R L S w (M.step P L.n L.cap E t) w'
theorem DI:int.nE∧list.nE∧tree.nE:=by
 refine ⟨@mkK _ 0 ?_,@mkK _ 1 ?_,@mkK _ 2 ?_⟩<;>intro kk σ R L S E w t P fA rv _hA h ht hC cF
 all_goals
  obtain ⟨cv,cf,pv,hc,-,-,-,-⟩:=h.cells ht rfl
  have c3:w.cell? ⟨L.g,t*28+3,none⟩=some (.int .i64 9):=by have:=hc 3 _ (by decide) rfl;rw [cF] at this;exact this
  have HH:=aA h
  have HC:=aA hC
  have HX:=aA (mU HH.out ht (HC.out.p9 cF).1 (HC.out.p9 cF).2.1 (HC.out.p9 cF).2.2)
  have HP:=aA cF
  clear h hc hC cF
  first|(have _:Kn 0:=kk;go_enter Tryz.func200,Tryz.ntmps200)|(have _:Kn 1:=kk;go_enter Tryz.func259,Tryz.ntmps259)|(have _:Kn 2:=kk;go_enter Tryz.func333,Tryz.ntmps333)
  go_wp2_with fail
  refine HX.out.mono ?_
  rintro e w1 ⟨rfl,L1⟩
  have HR:=aA L1
  clear L1
  go_wp2
  refine bodyPost_end (v:=.tuple #[]) (by simp [results,Tryz.results200,Tryz.results259,Tryz.results333,go_sem]) rfl ⟨rfl,HR.out.cast ?_⟩
  first|(have _:Kn 0:=kk;unfold M.step int.wrote)|(have _:Kn 1:=kk;unfold M.step list.wrote)|(have _:Kn 2:=kk;unfold M.step tree.wrote)
  simp only [HP.out]
  all_goals (split<;>rfl)
theorem int.IV:nE:=DI.1
theorem list.IV:nE:=DI.2.1
theorem tree.IV:nE:=DI.2.2
theorem row.IV {σ:Type} {R:SR σ} {L:Lt} {S:Nat→Prop} {E:aK σ} {w:World} {t:Nat} {P:M.Plain σ} {fA:Nat} {rv:Value} (_hA:bO R P L fA rv) (h:RE R L S E w) (ht:t<L.n) (hC:cC L E t) (cF:(E.th t).phase=9) :
  Calls Tryz.prog 296 #[.pointer (some ⟨L.g,t*30,none⟩)] w fun e w'=>e = .returned (.tuple #[])∧aF R L S w (M.step P L.n L.cap E t) w':=by
 obtain ⟨cv,cf,pv,hc,-,-,-,-⟩:=h.cells ht rfl
 have c3:w.cell? ⟨L.g,t*30+3,none⟩=some (.int .i64 9):=by have:=hc 3 _ (by decide) rfl;rw [cF] at this;exact this
 have HH:=aA h
 have HC:=aA hC
 have HX:=aA (mU HH.out ht (HC.out.p9 cF).1 (HC.out.p9 cF).2.1 (HC.out.p9 cF).2.2)
 have HP:=aA cF
 clear h hc hC cF
 go_enter Tryz.func296,Tryz.ntmps296
 go_wp2_with fail
 refine HX.out.mono ?_
 rintro e w1 ⟨rfl,L1⟩
 have HR:=aA L1
 clear L1
 go_wp2
 refine bodyPost_end (v:=.tuple #[]) (by simp [results,Tryz.results296,go_sem]) rfl ⟨rfl,HR.out.cast ?_⟩
 unfold M.step wrote
 simp only [HP.out]
 all_goals (split<;>rfl)
def int.kV:Prop:=∀ {σ:Type} {R:SR σ} {L:Lt} {S:Nat→Prop} {E:aK σ} {w:World} {t:Nat} {P:M.Plain σ} {fA:Nat} {rv:Value} (_kI:bO R P L fA rv) (_h:RE R L S E w) (_ht:t<L.n) (_hC:cC L E t) (_iX:(E.th t).phase=11),Calls Tryz.prog 200 #[.pointer (some ⟨L.g,t*28,none⟩)] w fun e w'=>e = .returned (.tuple #[])∧aF R L S w (M.step P L.n L.cap E t) w'
def list.kV:Prop:=∀ {σ:Type} {R:SR σ} {L:Lt} {S:Nat→Prop} {E:aK σ} {w:World} {t:Nat} {P:M.Plain σ} {fA:Nat} {rv:Value} (_kI:bO R P L fA rv) (_h:RE R L S E w) (_ht:t<L.n) (_hC:cC L E t) (_iX:(E.th t).phase=11),Calls Tryz.prog 259 #[.pointer (some ⟨L.g,t*28,none⟩)] w fun e w'=>e = .returned (.tuple #[])∧aF R L S w (M.step P L.n L.cap E t) w'
def tree.kV:Prop:=∀ {σ:Type} {R:SR σ} {L:Lt} {S:Nat→Prop} {E:aK σ} {w:World} {t:Nat} {P:M.Plain σ} {fA:Nat} {rv:Value} (_kI:bO R P L fA rv) (_h:RE R L S E w) (_ht:t<L.n) (_hC:cC L E t) (_iX:(E.th t).phase=11),Calls Tryz.prog 333 #[.pointer (some ⟨L.g,t*28,none⟩)] w fun e w'=>e = .returned (.tuple #[])∧aF R L S w (M.step P L.n L.cap E t) w'
theorem yO:int.kV∧list.kV∧tree.kV:=by
 refine ⟨@mkK _ 0 ?_,@mkK _ 1 ?_,@mkK _ 2 ?_⟩<;>intro kk σ R L S E w t P fA rv _hA h ht hC cF
 all_goals
  obtain ⟨cv,cf,pv,hc,-,-,-,-⟩:=h.cells ht rfl
  have c3:w.cell? ⟨L.g,t*28+3,none⟩=some (.int .i64 11):=by have:=hc 3 _ (by decide) rfl;rw [cF] at this;exact this
  have HH:=aA h
  have HC:=aA hC
  have HX:=aA (xJ HH.out ht HC.out.pr (by have:=HC.out.N;omega))
  have HP:=aA cF
  clear h hc hC cF
  first|(have _:Kn 0:=kk;go_enter Tryz.func200,Tryz.ntmps200)|(have _:Kn 1:=kk;go_enter Tryz.func259,Tryz.ntmps259)|(have _:Kn 2:=kk;go_enter Tryz.func333,Tryz.ntmps333)
  go_wp2_with fail
  refine HX.out.mono ?_
  rintro e w1 ⟨rfl,r1,k1⟩
  have HR:=aA (aF.of r1 k1 rfl)
  clear r1 k1
  go_wp2
  refine bodyPost_end (v:=.tuple #[]) (by simp [results,Tryz.results200,Tryz.results259,Tryz.results333,go_sem]) rfl ⟨rfl,HR.out.cast ?_⟩
  unfold M.step
  simp only [HP.out]
theorem int.AQ:kV:=yO.1
theorem list.AQ:kV:=yO.2.1
theorem tree.AQ:kV:=yO.2.2
theorem row.AQ {σ:Type} {R:SR σ} {L:Lt} {S:Nat→Prop} {E:aK σ} {w:World} {t:Nat} {P:M.Plain σ} {fA:Nat} {rv:Value} (_hA:bO R P L fA rv) (h:RE R L S E w) (ht:t<L.n) (hC:cC L E t) (cF:(E.th t).phase=11) :
  Calls Tryz.prog 296 #[.pointer (some ⟨L.g,t*30,none⟩)] w fun e w'=>e = .returned (.tuple #[])∧aF R L S w (M.step P L.n L.cap E t) w':=by
 obtain ⟨cv,cf,pv,hc,-,-,-,-⟩:=h.cells ht rfl
 have c3:w.cell? ⟨L.g,t*30+3,none⟩=some (.int .i64 11):=by have:=hc 3 _ (by decide) rfl;rw [cF] at this;exact this
 have HH:=aA h
 have HC:=aA hC
 have HX:=aA (xJ HH.out ht HC.out.pr (by have:=HC.out.N;omega))
 have HP:=aA cF
 clear h hc hC cF
 go_enter Tryz.func296,Tryz.ntmps296
 go_wp2_with fail
 refine HX.out.mono ?_
 rintro e w1 ⟨rfl,r1,k1⟩
 have HR:=aA (aF.of r1 k1 rfl)
 clear r1 k1
 go_wp2
 refine bodyPost_end (v:=.tuple #[]) (by simp [results,Tryz.results296,go_sem]) rfl ⟨rfl,HR.out.cast ?_⟩
 unfold M.step
 simp only [HP.out]
def int.kW:Prop:=∀ {σ:Type} {R:SR σ} {L:Lt} {S:Nat→Prop} {E:aK σ} {w:World} {t:Nat} {P:M.Plain σ} {fA:Nat} {rv:Value} (_kI:bO R P L fA rv) (_h:RE R L S E w) (_ht:t<L.n) (_hC:cC L E t) (_iX:(E.th t).phase=12),Calls Tryz.prog 200 #[.pointer (some ⟨L.g,t*28,none⟩)] w fun e w'=>e = .returned (.tuple #[])∧aF R L S w (M.step P L.n L.cap E t) w'
def list.kW:Prop:=∀ {σ:Type} {R:SR σ} {L:Lt} {S:Nat→Prop} {E:aK σ} {w:World} {t:Nat} {P:M.Plain σ} {fA:Nat} {rv:Value} (_kI:bO R P L fA rv) (_h:RE R L S E w) (_ht:t<L.n) (_hC:cC L E t) (_iX:(E.th t).phase=12),Calls Tryz.prog 259 #[.pointer (some ⟨L.g,t*28,none⟩)] w fun e w'=>e = .returned (.tuple #[])∧aF R L S w (M.step P L.n L.cap E t) w'
def tree.kW:Prop:=∀ {σ:Type} {R:SR σ} {L:Lt} {S:Nat→Prop} {E:aK σ} {w:World} {t:Nat} {P:M.Plain σ} {fA:Nat} {rv:Value} (_kI:bO R P L fA rv) (_h:RE R L S E w) (_ht:t<L.n) (_hC:cC L E t) (_iX:(E.th t).phase=12),Calls Tryz.prog 333 #[.pointer (some ⟨L.g,t*28,none⟩)] w fun e w'=>e = .returned (.tuple #[])∧aF R L S w (M.step P L.n L.cap E t) w'
theorem yP:int.kW∧list.kW∧tree.kW:=by
 refine ⟨@mkK _ 0 ?_,@mkK _ 1 ?_,@mkK _ 2 ?_⟩<;>intro kk σ R L S E w t P fA rv _hA h ht hC cF
 all_goals
  obtain ⟨cv,cf,pv,hc,-,-,-,-⟩:=h.cells ht rfl
  have c3:w.cell? ⟨L.g,t*28+3,none⟩=some (.int .i64 12):=by have:=hc 3 _ (by decide) rfl;rw [cF] at this;exact this
  have HH:=aA h
  have HC:=aA hC
  have HX:=aA (lM HH.out ht (HC.out.p12 (.inl cF)))
  have HP:=aA cF
  clear h hc hC cF
  first|(have _:Kn 0:=kk;go_enter Tryz.func200,Tryz.ntmps200)|(have _:Kn 1:=kk;go_enter Tryz.func259,Tryz.ntmps259)|(have _:Kn 2:=kk;go_enter Tryz.func333,Tryz.ntmps333)
  go_wp2_with fail
  refine HX.out.mono ?_
  rintro e w1 ⟨rfl,L1⟩
  have HR:=aA L1
  clear L1
  go_wp2
  refine bodyPost_end (v:=.tuple #[]) (by simp [results,Tryz.results200,Tryz.results259,Tryz.results333,go_sem]) rfl ⟨rfl,HR.out.cast ?_⟩
  unfold M.step
  simp only [HP.out]
theorem int.AR:kW:=yP.1
theorem list.AR:kW:=yP.2.1
theorem tree.AR:kW:=yP.2.2
theorem row.AR {σ:Type} {R:SR σ} {L:Lt} {S:Nat→Prop} {E:aK σ} {w:World} {t:Nat} {P:M.Plain σ} {fA:Nat} {rv:Value} (_hA:bO R P L fA rv) (h:RE R L S E w) (ht:t<L.n) (hC:cC L E t) (cF:(E.th t).phase=12) :
  Calls Tryz.prog 296 #[.pointer (some ⟨L.g,t*30,none⟩)] w fun e w'=>e = .returned (.tuple #[])∧aF R L S w (M.step P L.n L.cap E t) w':=by
 obtain ⟨cv,cf,pv,hc,-,-,-,-⟩:=h.cells ht rfl
 have c3:w.cell? ⟨L.g,t*30+3,none⟩=some (.int .i64 12):=by have:=hc 3 _ (by decide) rfl;rw [cF] at this;exact this
 have HH:=aA h
 have HC:=aA hC
 have HX:=aA (lM HH.out ht (HC.out.p12 (.inl cF)))
 have HP:=aA cF
 clear h hc hC cF
 go_enter Tryz.func296,Tryz.ntmps296
 go_wp2_with fail
 refine HX.out.mono ?_
 rintro e w1 ⟨rfl,L1⟩
 have HR:=aA L1
 clear L1
 go_wp2
 refine bodyPost_end (v:=.tuple #[]) (by simp [results,Tryz.results296,go_sem]) rfl ⟨rfl,HR.out.cast ?_⟩
 unfold M.step
 simp only [HP.out]
def int.kX:Prop:=∀ {σ:Type} {R:SR σ} {L:Lt} {S:Nat→Prop} {E:aK σ} {w:World} {t:Nat} {P:M.Plain σ} {fA:Nat} {rv:Value} (_kI:bO R P L fA rv) (_h:RE R L S E w) (_ht:t<L.n) (_hC:cC L E t) (_iX:(E.th t).phase=13),Calls Tryz.prog 200 #[.pointer (some ⟨L.g,t*28,none⟩)] w fun e w'=>e = .returned (.tuple #[])∧aF R L S w (M.step P L.n L.cap E t) w'
def list.kX:Prop:=∀ {σ:Type} {R:SR σ} {L:Lt} {S:Nat→Prop} {E:aK σ} {w:World} {t:Nat} {P:M.Plain σ} {fA:Nat} {rv:Value} (_kI:bO R P L fA rv) (_h:RE R L S E w) (_ht:t<L.n) (_hC:cC L E t) (_iX:(E.th t).phase=13),Calls Tryz.prog 259 #[.pointer (some ⟨L.g,t*28,none⟩)] w fun e w'=>e = .returned (.tuple #[])∧aF R L S w (M.step P L.n L.cap E t) w'
def tree.kX:Prop:=∀ {σ:Type} {R:SR σ} {L:Lt} {S:Nat→Prop} {E:aK σ} {w:World} {t:Nat} {P:M.Plain σ} {fA:Nat} {rv:Value} (_kI:bO R P L fA rv) (_h:RE R L S E w) (_ht:t<L.n) (_hC:cC L E t) (_iX:(E.th t).phase=13),Calls Tryz.prog 333 #[.pointer (some ⟨L.g,t*28,none⟩)] w fun e w'=>e = .returned (.tuple #[])∧aF R L S w (M.step P L.n L.cap E t) w'
theorem yQ:int.kX∧list.kX∧tree.kX:=by
 refine ⟨@mkK _ 0 ?_,@mkK _ 1 ?_,@mkK _ 2 ?_⟩<;>intro kk σ R L S E w t P fA rv _hA h ht hC cF
 all_goals
  obtain ⟨cv,cf,pv,hc,-,-,-,-⟩:=h.cells ht rfl
  have c3:w.cell? ⟨L.g,t*28+3,none⟩=some (.int .i64 13):=by have:=hc 3 _ (by decide) rfl;rw [cF] at this;exact this
  have HH:=aA h
  have HC:=aA hC
  have HX:=aA (mT HH.out ht (HC.out.p12 (.inr cF)))
  have HP:=aA cF
  clear h hc hC cF
  first|(have _:Kn 0:=kk;go_enter Tryz.func200,Tryz.ntmps200)|(have _:Kn 1:=kk;go_enter Tryz.func259,Tryz.ntmps259)|(have _:Kn 2:=kk;go_enter Tryz.func333,Tryz.ntmps333)
  go_wp2_with fail
  refine HX.out.mono ?_
  rintro e w1 ⟨rfl,L1⟩
  have HR:=aA L1
  clear L1
  go_wp2
  refine bodyPost_end (v:=.tuple #[]) (by simp [results,Tryz.results200,Tryz.results259,Tryz.results333,go_sem]) rfl ⟨rfl,HR.out.cast ?_⟩
  unfold M.step
  simp only [HP.out]
theorem int.AU:kX:=yQ.1
theorem list.AU:kX:=yQ.2.1
theorem tree.AU:kX:=yQ.2.2
theorem row.AU {σ:Type} {R:SR σ} {L:Lt} {S:Nat→Prop} {E:aK σ} {w:World} {t:Nat} {P:M.Plain σ} {fA:Nat} {rv:Value} (_hA:bO R P L fA rv) (h:RE R L S E w) (ht:t<L.n) (hC:cC L E t) (cF:(E.th t).phase=13) :
  Calls Tryz.prog 296 #[.pointer (some ⟨L.g,t*30,none⟩)] w fun e w'=>e = .returned (.tuple #[])∧aF R L S w (M.step P L.n L.cap E t) w':=by
 obtain ⟨cv,cf,pv,hc,-,-,-,-⟩:=h.cells ht rfl
 have c3:w.cell? ⟨L.g,t*30+3,none⟩=some (.int .i64 13):=by have:=hc 3 _ (by decide) rfl;rw [cF] at this;exact this
 have HH:=aA h
 have HC:=aA hC
 have HX:=aA (mT HH.out ht (HC.out.p12 (.inr cF)))
 have HP:=aA cF
 clear h hc hC cF
 go_enter Tryz.func296,Tryz.ntmps296
 go_wp2_with fail
 refine HX.out.mono ?_
 rintro e w1 ⟨rfl,L1⟩
 have HR:=aA L1
 clear L1
 go_wp2
 refine bodyPost_end (v:=.tuple #[]) (by simp [results,Tryz.results296,go_sem]) rfl ⟨rfl,HR.out.cast ?_⟩
 unfold M.step
 simp only [HP.out]
def int.iD:Prop:=∀ {σ:Type} {R:SR σ} {L:Lt} {S:Nat→Prop} {E:aK σ} {w:World} {t:Nat} {P:M.Plain σ} (_h:RE R L S E w) (_ht:t<L.n) (_hC:cC L E t) (_iX:(E.th t).phase=10),Calls Tryz.prog 200 #[.pointer (some ⟨L.g,t*28,none⟩)] w fun e w'=>e = .returned (.tuple #[])∧aF R L S w (M.step P L.n L.cap E t) w'
def list.iD:Prop:=∀ {σ:Type} {R:SR σ} {L:Lt} {S:Nat→Prop} {E:aK σ} {w:World} {t:Nat} {P:M.Plain σ} (_h:RE R L S E w) (_ht:t<L.n) (_hC:cC L E t) (_iX:(E.th t).phase=10),Calls Tryz.prog 259 #[.pointer (some ⟨L.g,t*28,none⟩)] w fun e w'=>e = .returned (.tuple #[])∧aF R L S w (M.step P L.n L.cap E t) w'
def tree.iD:Prop:=∀ {σ:Type} {R:SR σ} {L:Lt} {S:Nat→Prop} {E:aK σ} {w:World} {t:Nat} {P:M.Plain σ} (_h:RE R L S E w) (_ht:t<L.n) (_hC:cC L E t) (_iX:(E.th t).phase=10),Calls Tryz.prog 333 #[.pointer (some ⟨L.g,t*28,none⟩)] w fun e w'=>e = .returned (.tuple #[])∧aF R L S w (M.step P L.n L.cap E t) w'
def row.iD:Prop:=∀ {σ:Type} {R:SR σ} {L:Lt} {S:Nat→Prop} {E:aK σ} {w:World} {t:Nat} {P:M.Plain σ} (_h:RE R L S E w) (_ht:t<L.n) (_hC:cC L E t) (_iX:(E.th t).phase=10),Calls Tryz.prog 296 #[.pointer (some ⟨L.g,t*30,none⟩)] w fun e w'=>e = .returned (.tuple #[])∧aF R L S w (M.step P L.n L.cap E t) w'
open row in
theorem uZ:int.iD∧list.iD∧tree.iD∧row.iD:=by
 refine ⟨@mkK _ 0 ?_,@mkK _ 1 ?_,@mkK _ 2 ?_,@mkK _ 3 ?_⟩<;>intro kk σ R L S E w t P h ht hC cF
 all_goals
  obtain ⟨cv,cf,pv,hc,-,-,-,-⟩:=h.cells ht rfl
  first|(have _:Kn 0:=kk;have c3:w.cell? ⟨L.g,t*28+3,none⟩=some (.int .i64 10):=by have:=hc 3 _ (by decide) rfl;rw [cF] at this;exact this)|(have _:Kn 1:=kk;have c3:w.cell? ⟨L.g,t*28+3,none⟩=some (.int .i64 10):=by have:=hc 3 _ (by decide) rfl;rw [cF] at this;exact this)|(have _:Kn 2:=kk;have c3:w.cell? ⟨L.g,t*28+3,none⟩=some (.int .i64 10):=by have:=hc 3 _ (by decide) rfl;rw [cF] at this;exact this)|(have _:Kn 3:=kk;have c3:w.cell? ⟨L.g,t*30+3,none⟩=some (.int .i64 10):=by have:=hc 3 _ (by decide) rfl;rw [cF] at this;exact this)
  have hn:=h.ok.n64
  have aAb:=h.ok.VQ
  first|(have _:Kn 0:=kk;refine (have HX:Calls Tryz.prog 213 #[.pointer (some ⟨L.g,t*28,none⟩)] w fun e w'=>e = .returned (.tuple #[])∧int.aF R L S w (M.step P L.n L.cap E t) w':=?_;?_))|(have _:Kn 1:=kk;refine (have HX:Calls Tryz.prog 272 #[.pointer (some ⟨L.g,t*28,none⟩)] w fun e w'=>e = .returned (.tuple #[])∧list.aF R L S w (M.step P L.n L.cap E t) w':=?_;?_))|(have _:Kn 2:=kk;refine (have HX:Calls Tryz.prog 346 #[.pointer (some ⟨L.g,t*28,none⟩)] w fun e w'=>e = .returned (.tuple #[])∧tree.aF R L S w (M.step P L.n L.cap E t) w':=?_;?_))|(have _:Kn 3:=kk;refine (have HX:Calls Tryz.prog 309 #[.pointer (some ⟨L.g,t*30,none⟩)] w fun e w'=>e = .returned (.tuple #[])∧row.aF R L S w (M.step P L.n L.cap E t) w':=?_;?_))
  ·by_cases q:E.cZ=(E.th t).stamp∧E.prec=(E.th t).aR
   ·refine (qE h ht hC.N q.1 q.2 hC.sr (by have:=hC.sp;omega) (by have:=hC.b;omega)).mono ?_
    rintro e w1 ⟨rfl,r1,k1⟩
    refine ⟨rfl,(aF.of r1 k1 rfl).cast ?_⟩
    unfold M.step
    simp only [cF]
    rw [if_pos q]
   ·refine (oD h ht hC.st (by have:=hC.pr;omega) q hC.sr (by have:=hC.sp;omega) hC.b).mono ?_
    rintro e w1 ⟨rfl,r1,k1⟩
    refine ⟨rfl,(aF.of r1 k1 rfl).cast ?_⟩
    unfold M.step
    simp only [cF]
    rw [if_neg q]
  have HX:=aA HX
  clear h hc hC cF
  first|(have _:Kn 0:=kk;go_enter Tryz.func200,Tryz.ntmps200)|(have _:Kn 1:=kk;go_enter Tryz.func259,Tryz.ntmps259)|(have _:Kn 2:=kk;go_enter Tryz.func333,Tryz.ntmps333)|(have _:Kn 3:=kk;go_enter Tryz.func296,Tryz.ntmps296)
  go_wp2_with fail
  refine HX.out.mono ?_
  rintro e w1 ⟨rfl,L1⟩
  have HR:=aA L1
  clear L1
  go_wp2
  exact bodyPost_end (v:=.tuple #[]) (by simp [results,Tryz.results200,Tryz.results259,Tryz.results333,Tryz.results296,go_sem]) rfl ⟨rfl,HR.out⟩
theorem int.AV:iD:=uZ.1
theorem list.AV:iD:=uZ.2.1
theorem tree.AV:iD:=uZ.2.2.1
theorem row.AV:iD:=uZ.2.2.2
def int.jU:Prop:=∀ {σ:Type} {R:SR σ} {L:Lt} {S:Nat→Prop} {E:aK σ} {w:World} {t:Nat} {P:M.Plain σ} {fA:Nat} {rv:Value} (_hA:bO R P L fA rv) (_h:RE R L S E w) (_ht:t<L.n) (_hC:cC L E t) (_hZ:(E.th t).phase=8→∀ v,(E.th t).now=some v→R.sz v.st≤1000000000000) (_h1:1≤(E.th t).phase) (_OE:(E.th t).phase≤13),Calls Tryz.prog 200 #[.pointer (some ⟨L.g,t*28,none⟩)] w fun e w'=>e = .returned (.tuple #[])∧aF R L S w (M.step P L.n L.cap E t) w'
def list.jU:Prop:=∀ {σ:Type} {R:SR σ} {L:Lt} {S:Nat→Prop} {E:aK σ} {w:World} {t:Nat} {P:M.Plain σ} {fA:Nat} {rv:Value} (_hA:bO R P L fA rv) (_h:RE R L S E w) (_ht:t<L.n) (_hC:cC L E t) (_hZ:(E.th t).phase=8→∀ v,(E.th t).now=some v→R.sz v.st≤1000000000000) (_h1:1≤(E.th t).phase) (_OE:(E.th t).phase≤13),Calls Tryz.prog 259 #[.pointer (some ⟨L.g,t*28,none⟩)] w fun e w'=>e = .returned (.tuple #[])∧aF R L S w (M.step P L.n L.cap E t) w'
def tree.jU:Prop:=∀ {σ:Type} {R:SR σ} {L:Lt} {S:Nat→Prop} {E:aK σ} {w:World} {t:Nat} {P:M.Plain σ} {fA:Nat} {rv:Value} (_hA:bO R P L fA rv) (_h:RE R L S E w) (_ht:t<L.n) (_hC:cC L E t) (_hZ:(E.th t).phase=8→∀ v,(E.th t).now=some v→R.sz v.st≤1000000000000) (_h1:1≤(E.th t).phase) (_OE:(E.th t).phase≤13),Calls Tryz.prog 333 #[.pointer (some ⟨L.g,t*28,none⟩)] w fun e w'=>e = .returned (.tuple #[])∧aF R L S w (M.step P L.n L.cap E t) w'
def row.jU:Prop:=∀ {σ:Type} {R:SR σ} {L:Lt} {S:Nat→Prop} {E:aK σ} {w:World} {t:Nat} {P:M.Plain σ} {fA:Nat} {rv:Value} (_hA:bO R P L fA rv) (_h:RE R L S E w) (_ht:t<L.n) (_hC:cC L E t) (_hZ:(E.th t).phase=8→∀ v,(E.th t).now=some v→R.sz v.st≤1000000000000) (_h1:1≤(E.th t).phase) (_OE:(E.th t).phase≤13),Calls Tryz.prog 296 #[.pointer (some ⟨L.g,t*30,none⟩)] w fun e w'=>e = .returned (.tuple #[])∧aF R L S w (M.step P L.n L.cap E t) w'
open row in
theorem xR:int.jU∧list.jU∧tree.jU∧row.jU:=by
 refine ⟨?_,?_,?_,?_⟩<;>intro σ R L S E w t P fA rv hA h ht hC hZ h1 h13
 all_goals
  rcases (by omega:(E.th t).phase=1∨(E.th t).phase=2∨(E.th t).phase=3∨(E.th t).phase=4∨(E.th t).phase=5∨(E.th t).phase=6∨(E.th t).phase=7∨(E.th t).phase=8∨(E.th t).phase=9∨(E.th t).phase=10∨(E.th t).phase=11∨(E.th t).phase=12∨(E.th t).phase=13) with q|q|q|q|q|q|q|q|q|q|q|q|q
  ·exact II hA h ht hC q
  ·exact IJ hA h ht hC q
  ·exact IK hA h ht hC q
  ·exact IL hA h ht hC q
  ·exact IM hA h ht hC q
  ·exact IP hA h ht hC q
  ·exact IQ hA h ht hC q
  ·exact IU hA h ht hC q (hZ q)
  ·exact IV hA h ht hC q
  ·exact AV h ht hC q
  ·exact AQ hA h ht hC q
  ·exact AR hA h ht hC q
  ·exact AU hA h ht hC q
theorem int.DJ:jU:=xR.1
theorem list.DJ:jU:=xR.2.1
theorem tree.DJ:jU:=xR.2.2.1
theorem row.DJ:jU:=xR.2.2.2
end Go.Proofs.YtefjhnhdagolhaaGreat
