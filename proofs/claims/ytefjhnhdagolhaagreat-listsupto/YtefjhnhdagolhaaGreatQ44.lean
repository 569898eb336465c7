import Derived.Test.YtefjhnhdagolhaaGreatQ43
import Derived.Test.YtefjhnhdagolhaaGreatQ03
import Derived.Test.YtefjhnhdagolhaaGreatQ15
namespace Go.Proofs.YtefjhnhdagolhaaGreat.row
open Go.RowKit
open M (aI aC aD Op dA aS cA aO aG aJ)
attribute [local go_sem ↓] Go.wp_at_zero Go.wp_at_succ
section
variable {σ:Type} {R:SR σ} {L:Lt} {S:Nat→Prop} {E E':cA σ} {w:World} {t:Nat}
structure Can (L:Lt) (E:cA σ) (t:Nat):Prop where
 N:E.dZ≤1000000000
 st:(E.th t).stamp≤1000000000
 pr:E.prec<2*L.n+1
 sr:(E.th t).aW<129
 sp:(E.th t).spare<2*L.n+1
 b:(E.th t).aE≤L.cap
 p1:(E.th t).phase=1→(E.th t).past<3
 p2:(E.th t).phase=2→0≤E.cC (t / 16)∧E.cC (t / 16)<65536
 p3:(E.th t).phase=3→(E.th t).past≤1000000
 p5:(E.th t).phase=5→(E.th t).aW<2*L.n+1∧(E.th t).past≤aO L.n∧(E.gC (E.th t).aW).isSome
 p6:(E.th t).phase=6→(E.th t).past<M.tw L.n
 p7:(E.th t).phase=7→E.dZ=(E.th t).stamp→∀ k,k<M.tw L.n→jB ((E.th t).tg k)∧jB ((E.th t).dw k)
 p8:(E.th t).phase=8→(∃ v f,(E.th t).now=some v∧(E.th t).dM=some f)∧(E.th t).past<3*(E.th t).aK.length∧(E.th t).aK.length≤64∧(E.th t).aK.getD ((E.th t).past / 3) 0<L.n
 p9:(E.th t).phase=9→(E.th t).spare<2*L.n+1∧(E.th t).past≤aO L.n∧(E.th t).now.isSome∧(E.th t).dM.isSome
 p12:(E.th t).phase=12∨(E.th t).phase=13→(E.th t).found<2*L.n+1
set_option maxRecDepth 20000 in
set_option maxHeartbeats 1000000 in
theorem KI {P:M.Plain σ} {fA:Nat} {rv:Value} (_hA:eV R P L fA rv) (h:RE R L S E w) (ht:t<L.n) (hC:Can L E t) (cD:(E.th t).phase=1) :
  Calls Tryz.prog 296 #[.pointer (some ⟨L.g,t*30,none⟩)] w fun e w'=>e = .returned (.tuple #[])∧Left R L S w (M.step P L.n L.cap E t) w':=by
 obtain ⟨cv,cf,pv,hc,-,-,-,-⟩:=h.cells ht rfl
 have c3:w.cell? ⟨L.g,t*30+3,none⟩=some (.int .i64 1):=by have:=hc 3 _ (by decide) rfl;rw [cD] at this;exact this
 have HH:=aA h
 have HC:=aA hC
 have HX:=aA (rE HH.out ht (HC.out.p1 cD))
 have HP:=aA cD
 clear h hc hC cD
 go_enter Tryz.func296,Tryz.ntmps296
 go_wp2_with fail
 refine HX.out.mono ?_
 rintro e w1 ⟨rfl,r1,k1⟩
 have HR:=aA (Left.of r1 k1 rfl)
 clear r1 k1
 go_wp2
 refine bodyPost_end (v:=.tuple #[]) (by simp [results,Tryz.results296,go_sem]) rfl ⟨rfl,HR.out.cast ?_⟩
 unfold M.step
 simp only [HP.out]
set_option maxRecDepth 20000 in
set_option maxHeartbeats 1000000 in
theorem KJ {P:M.Plain σ} {fA:Nat} {rv:Value} (_hA:eV R P L fA rv) (h:RE R L S E w) (ht:t<L.n) (hC:Can L E t) (cD:(E.th t).phase=2) :
  Calls Tryz.prog 296 #[.pointer (some ⟨L.g,t*30,none⟩)] w fun e w'=>e = .returned (.tuple #[])∧Left R L S w (M.step P L.n L.cap E t) w':=by
 obtain ⟨cv,cf,pv,hc,-,-,-,-⟩:=h.cells ht rfl
 have c3:w.cell? ⟨L.g,t*30+3,none⟩=some (.int .i64 2):=by have:=hc 3 _ (by decide) rfl;rw [cD] at this;exact this
 have HH:=aA h
 have HC:=aA hC
 have HX:=aA (JU HH.out ht (HC.out.p2 cD).1 (HC.out.p2 cD).2)
 have HP:=aA cD
 clear h hc hC cD
 go_enter Tryz.func296,Tryz.ntmps296
 go_wp2_with fail
 refine HX.out.mono ?_
 rintro e w1 ⟨rfl,r1,k1⟩
 have HR:=aA (Left.of r1 k1 rfl)
 clear r1 k1
 go_wp2
 refine bodyPost_end (v:=.tuple #[]) (by simp [results,Tryz.results296,go_sem]) rfl ⟨rfl,HR.out.cast ?_⟩
 unfold M.step
 simp only [HP.out]
set_option maxRecDepth 20000 in
set_option maxHeartbeats 1000000 in
theorem KK {P:M.Plain σ} {fA:Nat} {rv:Value} (_hA:eV R P L fA rv) (h:RE R L S E w) (ht:t<L.n) (hC:Can L E t) (cD:(E.th t).phase=3) :
  Calls Tryz.prog 296 #[.pointer (some ⟨L.g,t*30,none⟩)] w fun e w'=>e = .returned (.tuple #[])∧Left R L S w (M.step P L.n L.cap E t) w':=by
 obtain ⟨cv,cf,pv,hc,-,-,-,-⟩:=h.cells ht rfl
 have c3:w.cell? ⟨L.g,t*30+3,none⟩=some (.int .i64 3):=by have:=hc 3 _ (by decide) rfl;rw [cD] at this;exact this
 have c9:=hc 9 _ (by decide) rfl
 have HH:=aA h
 have HC:=aA hC
 have HX:=aA (fN HH.out ht (E.th t).aE 4 (by have:=HC.out.b;have:=HH.out.ok.vD;omega) (HC.out.p3 cD))
 have HP:=aA cD
 clear h hc hC cD
 go_enter Tryz.func296,Tryz.ntmps296
 go_wp2_with fail
 refine HX.out.mono ?_
 rintro e w1 ⟨rfl,r1,k1⟩
 have HR:=aA (Left.of r1 k1 rfl)
 clear r1 k1
 go_wp2
 refine bodyPost_end (v:=.tuple #[]) (by simp [results,Tryz.results296,go_sem]) rfl ⟨rfl,HR.out.cast ?_⟩
 unfold M.step
 simp only [HP.out]
set_option maxRecDepth 20000 in
set_option maxHeartbeats 1000000 in
theorem KL {P:M.Plain σ} {fA:Nat} {rv:Value} (_hA:eV R P L fA rv) (h:RE R L S E w) (ht:t<L.n) (hC:Can L E t) (cD:(E.th t).phase=4) :
  Calls Tryz.prog 296 #[.pointer (some ⟨L.g,t*30,none⟩)] w fun e w'=>e = .returned (.tuple #[])∧Left R L S w (M.step P L.n L.cap E t) w':=by
 obtain ⟨cv,cf,pv,hc,-,-,-,-⟩:=h.cells ht rfl
 have c3:w.cell? ⟨L.g,t*30+3,none⟩=some (.int .i64 4):=by have:=hc 3 _ (by decide) rfl;rw [cD] at this;exact this
 have HH:=aA h
 have HC:=aA hC
 have HX:=aA (JN HH.out ht)
 have HP:=aA cD
 clear h hc hC cD
 go_enter Tryz.func296,Tryz.ntmps296
 go_wp2_with fail
 refine HX.out.mono ?_
 rintro e w1 ⟨rfl,r1,k1⟩
 have HR:=aA (Left.of r1 k1 rfl)
 clear r1 k1
 go_wp2
 refine bodyPost_end (v:=.tuple #[]) (by simp [results,Tryz.results296,go_sem]) rfl ⟨rfl,HR.out.cast ?_⟩
 unfold M.step
 simp only [HP.out]
set_option maxRecDepth 20000 in
set_option maxHeartbeats 1000000 in
theorem KM {P:M.Plain σ} {fA:Nat} {rv:Value} (_hA:eV R P L fA rv) (h:RE R L S E w) (ht:t<L.n) (hC:Can L E t) (cD:(E.th t).phase=5) :
  Calls Tryz.prog 296 #[.pointer (some ⟨L.g,t*30,none⟩)] w fun e w'=>e = .returned (.tuple #[])∧Left R L S w (M.step P L.n L.cap E t) w':=by
 obtain ⟨cv,cf,pv,hc,-,-,-,-⟩:=h.cells ht rfl
 have c3:w.cell? ⟨L.g,t*30+3,none⟩=some (.int .i64 5):=by have:=hc 3 _ (by decide) rfl;rw [cD] at this;exact this
 have HH:=aA h
 have HC:=aA hC
 have HX:=aA (rF HH.out ht (HC.out.p5 cD).1 (HC.out.p5 cD).2.1 HC.out.st (HC.out.p5 cD).2.2)
 have HP:=aA cD
 clear h hc hC cD
 go_enter Tryz.func296,Tryz.ntmps296
 go_wp2_with fail
 refine HX.out.mono ?_
 rintro e w1 ⟨rfl,L1⟩
 have HR:=aA L1
 clear L1
 go_wp2
 refine bodyPost_end (v:=.tuple #[]) (by simp [results,Tryz.results296,go_sem]) rfl ⟨rfl,HR.out.cast ?_⟩
 unfold M.step copied
 simp only [HP.out]
 all_goals (split<;>rfl)
set_option maxRecDepth 20000 in
set_option maxHeartbeats 1000000 in
theorem KN {P:M.Plain σ} {fA:Nat} {rv:Value} (_hA:eV R P L fA rv) (h:RE R L S E w) (ht:t<L.n) (hC:Can L E t) (cD:(E.th t).phase=6) :
  Calls Tryz.prog 296 #[.pointer (some ⟨L.g,t*30,none⟩)] w fun e w'=>e = .returned (.tuple #[])∧Left R L S w (M.step P L.n L.cap E t) w':=by
 obtain ⟨cv,cf,pv,hc,-,-,-,-⟩:=h.cells ht rfl
 have c3:w.cell? ⟨L.g,t*30+3,none⟩=some (.int .i64 6):=by have:=hc 3 _ (by decide) rfl;rw [cD] at this;exact this
 have HH:=aA h
 have HC:=aA hC
 have HX:=aA (JV HH.out ht (HC.out.p6 cD))
 have HP:=aA cD
 clear h hc hC cD
 go_enter Tryz.func296,Tryz.ntmps296
 go_wp2_with fail
 refine HX.out.mono ?_
 rintro e w1 ⟨rfl,r1,k1⟩
 have HR:=aA (Left.of r1 k1 rfl)
 clear r1 k1
 go_wp2
 refine bodyPost_end (v:=.tuple #[]) (by simp [results,Tryz.results296,go_sem]) rfl ⟨rfl,HR.out.cast ?_⟩
 unfold M.step
 simp only [HP.out]
set_option maxRecDepth 20000 in
set_option maxHeartbeats 1000000 in
theorem KO {P:M.Plain σ} {fA:Nat} {rv:Value} (_hA:eV R P L fA rv) (h:RE R L S E w) (ht:t<L.n) (hC:Can L E t) (cD:(E.th t).phase=7) :
  Calls Tryz.prog 296 #[.pointer (some ⟨L.g,t*30,none⟩)] w fun e w'=>e = .returned (.tuple #[])∧Left R L S w (M.step P L.n L.cap E t) w':=by
 obtain ⟨cv,cf,pv,hc,-,-,-,-⟩:=h.cells ht rfl
 have c3:w.cell? ⟨L.g,t*30+3,none⟩=some (.int .i64 7):=by have:=hc 3 _ (by decide) rfl;rw [cD] at this;exact this
 have HH:=aA h
 have HC:=aA hC
 have HX:=aA (CY HH.out ht HC.out.N HC.out.st (by have:=HC.out.pr;have:=HH.out.ok.n64;omega) HC.out.sr HC.out.b (HC.out.p7 cD))
 have HP:=aA cD
 clear h hc hC cD
 go_enter Tryz.func296,Tryz.ntmps296
 go_wp2_with fail
 refine HX.out.mono ?_
 rintro e w1 ⟨rfl,L1⟩
 have HR:=aA L1
 clear L1
 go_wp2
 refine bodyPost_end (v:=.tuple #[]) (by simp [results,Tryz.results296,go_sem]) rfl ⟨rfl,HR.out.cast ?_⟩
 unfold M.step checked
 simp only [HP.out]
set_option maxRecDepth 20000 in
set_option maxHeartbeats 1000000 in
theorem KP {P:M.Plain σ} {fA:Nat} {rv:Value} (hA:eV R P L fA rv) (h:RE R L S E w) (ht:t<L.n) (hC:Can L E t) (cD:(E.th t).phase=8) (hZ:∀ v,(E.th t).now=some v→R.sz v.st≤1000000000000) :
  Calls Tryz.prog 296 #[.pointer (some ⟨L.g,t*30,none⟩)] w fun e w'=>e = .returned (.tuple #[])∧Left R L S w (M.step P L.n L.cap E t) w':=by
 obtain ⟨cv,cf,pv,hc,-,-,-,-⟩:=h.cells ht rfl
 have c3:w.cell? ⟨L.g,t*30+3,none⟩=some (.int .i64 8):=by have:=hc 3 _ (by decide) rfl;rw [cD] at this;exact this
 have HH:=aA h
 have HC:=aA hC
 obtain ⟨⟨v,f,hv,hf⟩,hp,hl,hk⟩:=hC.p8 cD
 have HX:=aA (KG hA HH.out ht HC.out.st HC.out.sr hv hf (hZ v hv) hp hl hk)
 have HP:=aA cD
 clear h hc hC cD hv hf hp hl hk hZ
 go_enter Tryz.func296,Tryz.ntmps296
 go_wp2_with fail
 refine HX.out.mono ?_
 rintro e w1 ⟨rfl,L1⟩
 have HR:=aA L1
 clear L1
 go_wp2
 refine bodyPost_end (v:=.tuple #[]) (by simp [results,Tryz.results296,go_sem]) rfl ⟨rfl,HR.out.cast ?_⟩
 unfold M.step cY cK fP
 simp only [HP.out]
set_option maxRecDepth 20000 in
set_option maxHeartbeats 1000000 in
theorem KQ {P:M.Plain σ} {fA:Nat} {rv:Value} (_hA:eV R P L fA rv) (h:RE R L S E w) (ht:t<L.n) (hC:Can L E t) (cD:(E.th t).phase=9) :
  Calls Tryz.prog 296 #[.pointer (some ⟨L.g,t*30,none⟩)] w fun e w'=>e = .returned (.tuple #[])∧Left R L S w (M.step P L.n L.cap E t) w':=by
 obtain ⟨cv,cf,pv,hc,-,-,-,-⟩:=h.cells ht rfl
 have c3:w.cell? ⟨L.g,t*30+3,none⟩=some (.int .i64 9):=by have:=hc 3 _ (by decide) rfl;rw [cD] at this;exact this
 have HH:=aA h
 have HC:=aA hC
 have HX:=aA (oR HH.out ht (HC.out.p9 cD).1 (HC.out.p9 cD).2.1 (HC.out.p9 cD).2.2)
 have HP:=aA cD
 clear h hc hC cD
 go_enter Tryz.func296,Tryz.ntmps296
 go_wp2_with fail
 refine HX.out.mono ?_
 rintro e w1 ⟨rfl,L1⟩
 have HR:=aA L1
 clear L1
 go_wp2
 refine bodyPost_end (v:=.tuple #[]) (by simp [results,Tryz.results296,go_sem]) rfl ⟨rfl,HR.out.cast ?_⟩
 unfold M.step wrote
 simp only [HP.out]
 all_goals (split<;>rfl)
set_option maxRecDepth 20000 in
set_option maxHeartbeats 1000000 in
theorem DF {P:M.Plain σ} {fA:Nat} {rv:Value} (_hA:eV R P L fA rv) (h:RE R L S E w) (ht:t<L.n) (hC:Can L E t) (cD:(E.th t).phase=11) :
  Calls Tryz.prog 296 #[.pointer (some ⟨L.g,t*30,none⟩)] w fun e w'=>e = .returned (.tuple #[])∧Left R L S w (M.step P L.n L.cap E t) w':=by
 obtain ⟨cv,cf,pv,hc,-,-,-,-⟩:=h.cells ht rfl
 have c3:w.cell? ⟨L.g,t*30+3,none⟩=some (.int .i64 11):=by have:=hc 3 _ (by decide) rfl;rw [cD] at this;exact this
 have HH:=aA h
 have HC:=aA hC
 have HX:=aA (JO HH.out ht HC.out.pr (by have:=HC.out.N;omega))
 have HP:=aA cD
 clear h hc hC cD
 go_enter Tryz.func296,Tryz.ntmps296
 go_wp2_with fail
 refine HX.out.mono ?_
 rintro e w1 ⟨rfl,r1,k1⟩
 have HR:=aA (Left.of r1 k1 rfl)
 clear r1 k1
 go_wp2
 refine bodyPost_end (v:=.tuple #[]) (by simp [results,Tryz.results296,go_sem]) rfl ⟨rfl,HR.out.cast ?_⟩
 unfold M.step
 simp only [HP.out]
set_option maxRecDepth 20000 in
set_option maxHeartbeats 1000000 in
theorem DG {P:M.Plain σ} {fA:Nat} {rv:Value} (_hA:eV R P L fA rv) (h:RE R L S E w) (ht:t<L.n) (hC:Can L E t) (cD:(E.th t).phase=12) :
  Calls Tryz.prog 296 #[.pointer (some ⟨L.g,t*30,none⟩)] w fun e w'=>e = .returned (.tuple #[])∧Left R L S w (M.step P L.n L.cap E t) w':=by
 obtain ⟨cv,cf,pv,hc,-,-,-,-⟩:=h.cells ht rfl
 have c3:w.cell? ⟨L.g,t*30+3,none⟩=some (.int .i64 12):=by have:=hc 3 _ (by decide) rfl;rw [cD] at this;exact this
 have HH:=aA h
 have HC:=aA hC
 have HX:=aA (nA HH.out ht (HC.out.p12 (.inl cD)))
 have HP:=aA cD
 clear h hc hC cD
 go_enter Tryz.func296,Tryz.ntmps296
 go_wp2_with fail
 refine HX.out.mono ?_
 rintro e w1 ⟨rfl,L1⟩
 have HR:=aA L1
 clear L1
 go_wp2
 refine bodyPost_end (v:=.tuple #[]) (by simp [results,Tryz.results296,go_sem]) rfl ⟨rfl,HR.out.cast ?_⟩
 unfold M.step
 simp only [HP.out]
set_option maxRecDepth 20000 in
set_option maxHeartbeats 1000000 in
theorem DH {P:M.Plain σ} {fA:Nat} {rv:Value} (_hA:eV R P L fA rv) (h:RE R L S E w) (ht:t<L.n) (hC:Can L E t) (cD:(E.th t).phase=13) :
  Calls Tryz.prog 296 #[.pointer (some ⟨L.g,t*30,none⟩)] w fun e w'=>e = .returned (.tuple #[])∧Left R L S w (M.step P L.n L.cap E t) w':=by
 obtain ⟨cv,cf,pv,hc,-,-,-,-⟩:=h.cells ht rfl
 have c3:w.cell? ⟨L.g,t*30+3,none⟩=some (.int .i64 13):=by have:=hc 3 _ (by decide) rfl;rw [cD] at this;exact this
 have HH:=aA h
 have HC:=aA hC
 have HX:=aA (oO HH.out ht (HC.out.p12 (.inr cD)))
 have HP:=aA cD
 clear h hc hC cD
 go_enter Tryz.func296,Tryz.ntmps296
 go_wp2_with fail
 refine HX.out.mono ?_
 rintro e w1 ⟨rfl,L1⟩
 have HR:=aA L1
 clear L1
 go_wp2
 refine bodyPost_end (v:=.tuple #[]) (by simp [results,Tryz.results296,go_sem]) rfl ⟨rfl,HR.out.cast ?_⟩
 unfold M.step
 simp only [HP.out]
set_option maxRecDepth 20000 in
set_option maxHeartbeats 1000000 in
theorem DI {P:M.Plain σ} (h:RE R L S E w) (ht:t<L.n) (hC:Can L E t) (cD:(E.th t).phase=10) :
  Calls Tryz.prog 296 #[.pointer (some ⟨L.g,t*30,none⟩)] w fun e w'=>e = .returned (.tuple #[])∧Left R L S w (M.step P L.n L.cap E t) w':=by
 obtain ⟨cv,cf,pv,hc,-,-,-,-⟩:=h.cells ht rfl
 have c3:w.cell? ⟨L.g,t*30+3,none⟩=some (.int .i64 10):=by have:=hc 3 _ (by decide) rfl;rw [cD] at this;exact this
 have hn:=h.ok.n64
 have xQ:=h.ok.vD
 have HX:Calls Tryz.prog 309 #[.pointer (some ⟨L.g,t*30,none⟩)] w fun e w'=>e = .returned (.tuple #[])∧Left R L S w (M.step P L.n L.cap E t) w':=by
  by_cases q:E.dZ=(E.th t).stamp∧E.prec=(E.th t).aW
  ·refine (oP h ht hC.N q.1 q.2 hC.sr (by have:=hC.sp;omega) (by have:=hC.b;omega)).mono ?_
   rintro e w1 ⟨rfl,r1,k1⟩
   refine ⟨rfl,(Left.of r1 k1 rfl).cast ?_⟩
   unfold M.step
   simp only [cD]
   rw [if_pos q]
  ·refine (nB h ht hC.st (by have:=hC.pr;omega) q hC.sr (by have:=hC.sp;omega) hC.b).mono ?_
   rintro e w1 ⟨rfl,r1,k1⟩
   refine ⟨rfl,(Left.of r1 k1 rfl).cast ?_⟩
   unfold M.step
   simp only [cD]
   rw [if_neg q]
 have HX:=aA HX
 clear h hc hC cD
 go_enter Tryz.func296,Tryz.ntmps296
 go_wp2_with fail
 refine HX.out.mono ?_
 rintro e w1 ⟨rfl,L1⟩
 have HR:=aA L1
 clear L1
 go_wp2
 exact bodyPost_end (v:=.tuple #[]) (by simp [results,Tryz.results296,go_sem]) rfl ⟨rfl,HR.out⟩
theorem xR {P:M.Plain σ} {fA:Nat} {rv:Value} (hA:eV R P L fA rv) (h:RE R L S E w) (ht:t<L.n) (hC:Can L E t) (hZ:(E.th t).phase=8→∀ v,(E.th t).now=some v→R.sz v.st≤1000000000000) (h1:1≤(E.th t).phase) (JB:(E.th t).phase≤13) :
  Calls Tryz.prog 296 #[.pointer (some ⟨L.g,t*30,none⟩)] w fun e w'=>e = .returned (.tuple #[])∧Left R L S w (M.step P L.n L.cap E t) w':=by
 rcases (by omega:(E.th t).phase=1∨(E.th t).phase=2∨(E.th t).phase=3∨(E.th t).phase=4∨(E.th t).phase=5∨(E.th t).phase=6∨(E.th t).phase=7∨(E.th t).phase=8∨(E.th t).phase=9∨(E.th t).phase=10∨(E.th t).phase=11∨(E.th t).phase=12∨(E.th t).phase=13) with q|q|q|q|q|q|q|q|q|q|q|q|q
 ·exact KI hA h ht hC q
 ·exact KJ hA h ht hC q
 ·exact KK hA h ht hC q
 ·exact KL hA h ht hC q
 ·exact KM hA h ht hC q
 ·exact KN hA h ht hC q
 ·exact KO hA h ht hC q
 ·exact KP hA h ht hC q (hZ q)
 ·exact KQ hA h ht hC q
 ·exact DI h ht hC q
 ·exact DF hA h ht hC q
 ·exact DG hA h ht hC q
 ·exact DH hA h ht hC q
end
end Go.Proofs.YtefjhnhdagolhaaGreat.row
namespace Go.Proofs.YtefjhnhdagolhaaGreat.row
open Go.RowKit
open M (aI aC aD Op dA aS cA aR aT aO aG aJ)
section
variable {σ:Type} {R:SR σ} {L:Lt} {S:Nat→Prop} {E:cA σ} {Y:aR} {w:World} {t:Nat} {P:M.Plain σ}
theorem Can.of (hn:L.n≤64) (hc:L.cap≤64) (h:M.Inv P L.n L.cap E Y) (hB:M.IL L.n E) (hN:E.dZ≤1000000000) (ht:t<L.n):Can L E t:=by
 obtain ⟨pb,nf,hp,G,T⟩:=h
 have X:=T t ht
 obtain ⟨b1,b2,b3⟩:=hB.th t ht
 have part:∀ p,1≤p→p≤10→(E.th t).phase=p→(Y.th t).part=p:=by
  intro p h1 FF hq
  by_cases q:(Y.th t).part=11
  ·have:=X.p4 q;omega
  ·have:=X.p2 (by have:=X.p1;omega);omega
 have len:∀ p,1≤p→p≤10→(E.th t).phase=p→(E.th t).past<(Y.th t).len L.n p:=by
  intro p h1 FF hq
  have a:=part p h1 FF hq
  have:=X.p3 (by omega) (by omega)
  rw [a] at this
  omega
 have hsp:(E.th t).spare<2*L.n+1:=by rcases X.sp with q|q<;>omega
 refine {N:=hN,st:=Nat.le_trans b3 hN,pr:=hB.pr,sr:=by omega,sp:=hsp,b:=by rw [X.bk];exact X.bc,p1:=?_,p2:=?_,p3:=?_,p5:=?_,p6:=?_,p7:=?_,p8:=?_,p9:=?_,p12:=fun _=>b2}
 ·intro q;have:=len 1 (by omega) (by omega) q;simpa [aT.len] using this
 ·intro q
  have e:E.cC (t / 16)=M.bits L.n (fun k=>(Y.th k).aL) (t / 16):=G.cC (t / 16) (by unfold M.tw;omega)
  rw [e]
  exact ⟨M.iI _ _ _,M.pS _ _ _⟩
 ·intro q
  have:=len 3 (by omega) (by omega) q
  have e:(Y.th t).len L.n 3=(Y.th t).aE:=by simp [aT.len]
  have:=X.bc
  omega
 ·intro q
  have:=len 5 (by omega) (by omega) q
  have e:(Y.th t).len L.n 5=aO L.n+1:=by simp [aT.len]
  have a:=part 5 (by omega) (by omega) q
  exact ⟨b1,by omega,(X.s1 (by omega) (by omega)).2.2.2.2.2.2.2⟩
 ·intro q
  have:=len 6 (by omega) (by omega) q
  have e:(Y.th t).len L.n 6=M.tw L.n:=by simp [aT.len]
  omega
 ·intro q hs k hk
  have a:=part 7 (by omega) (by omega) q
  have hs':(E.th t).stamp=(M.view E Y pb nf).N:=by rw [←hs,hp];rfl
  have t7:=(X.t7 (by omega) (by omega)).1 k hk
  have d7:=(X.d7 (.inr a) hs').1 k (by unfold aO;omega)
  have c7:=G.IY k hk
  rw [t7,d7,c7]
  exact ⟨⟨M.iI _ _ _,M.pS _ _ _⟩,M.iI _ _ _,M.pS _ _ _⟩
 ·intro q
  have a:=part 8 (by omega) (by omega) q
  have l:=len 8 (by omega) (by omega) q
  have e:(Y.th t).len L.n 8=3*(Y.th t).aK.length:=by simp [aT.len]
  obtain ⟨-,d1,d2⟩:=X.d6 (by omega) (by omega)
  obtain ⟨h1,h2,-⟩:=X.h8 (by omega) (by omega)
  have hl:(E.th t).past<3*(E.th t).aK.length:=by rw [h1];omega
  have hm:∀ k∈(E.th t).aK,k<L.n:=by
   intro k hk
   rw [h2] at hk
   exact List.mem_range.mp (List.mem_filter.mp hk).1
  refine ⟨?_,hl,?_,?_⟩
  ·obtain ⟨v,hv⟩:=Option.isSome_iff_exists.mp d1
   obtain ⟨f,hf⟩:=Option.isSome_iff_exists.mp d2
   exact ⟨v,f,hv,hf⟩
  ·rw [h2]
   refine Nat.le_trans (List.length_filter_le _ _) ?_
   rw [List.length_range]
   exact hn
  ·have hi:(E.th t).past / 3<(E.th t).aK.length:=by omega
   rw [List.getD_eq_getElem?_getD,List.getElem?_eq_getElem hi]
   exact hm _ (List.getElem_mem hi)
 ·intro q
  have:=len 9 (by omega) (by omega) q
  have e:(Y.th t).len L.n 9=aO L.n+1:=by simp [aT.len]
  have a:=part 9 (by omega) (by omega) q
  obtain ⟨-,d1,d2⟩:=X.d6 (by omega) (by omega)
  exact ⟨hsp,by omega,d1,d2⟩
end
end Go.Proofs.YtefjhnhdagolhaaGreat.row
namespace Go.Proofs.YtefjhnhdagolhaaGreat.row
open Go.RowKit
open M (aI aC aD Op dA aS cA aR aT aO aG aJ)
attribute [local go_sem ↓] Go.wp_at_zero Go.wp_at_succ
section
variable {σ:Type} {R:SR σ} {L:Lt} {S:Nat→Prop} {E:cA σ} {w:World} {t:Nat}
set_option maxHeartbeats 1000000 in
theorem fQ (h:RE R L S E w) (ht:t<L.n) :
  Calls Tryz.prog 294 #[.pointer (some ⟨L.g,t*30,none⟩)] w fun e w'=>e = .returned (.bool (decide ((E.th t).phase≠0)))∧w'=w:=by
 obtain ⟨cv,cf,pv,hc,-,-,-,hf⟩:=h.cells ht rfl
 have c3:=hc 3 _ (by decide) rfl
 clear h hc hf
 go_enter Tryz.func294,Tryz.ntmps294
 go_wp2
 go_ret
 refine ⟨dR ?_,rfl⟩
 rw [Bool.eq_iff_iff]
 simp
set_option maxHeartbeats 1000000 in
theorem gZ (h:RE R L S E w) (x:Int) :
  Calls Tryz.prog 293 #[.pointer (some ⟨L.bE,0,none⟩),.int .i64 x] w fun e w'=>e = .returned (.bool (decide (0≤x∧x<L.n)))∧w'=w:=by
 have c1:w.cell? ⟨L.bE,1,none⟩=some (.slice (some ⟨L.g,0,none⟩) L.n L.gc):=h.fL.cell_of rfl
 clear h
 by_cases q:0≤x
 ·have hg:decide (x≥0)=true:=by simp [q]
  go_enter Tryz.func293,Tryz.ntmps293
  go_wp2
  go_ret
  refine ⟨dR ?_,rfl⟩
  simp [q]
 ·go_enter Tryz.func293,Tryz.ntmps293
  go_wp2
  go_ret
  refine ⟨dR ?_,rfl⟩
  simp
  omega
set_option maxRecDepth 20000 in
set_option maxHeartbeats 1000000 in
theorem DJ (h:RE R L S E w) (ht:t<L.n) (o:M.Op) :
  Calls Tryz.prog 295 #[.pointer (some ⟨L.g,t*30,none⟩),.agg #[.int .i64 o.c,.int .i64 o.a,.int .i64 o.b]] w fun e w'=>e = .returned (.tuple #[])∧Left R L S w (M.begin E t o) w':=by
 have HH:=aA h
 clear h
 go_enter Tryz.func295,Tryz.ntmps295
 go_upto_region 1 with fail
 generalize gJ:World.alloc w _=W1
 have dU:Below w.heap.size w W1:=by rw [←gJ];exact aB w _
 have hro:Row W1 w.heap.size 36 [.int .i64 o.c,.int .i64 o.a,.int .i64 o.b]:=by rw [←gJ];exact Row.new w [_,_,_] _
 have o0:W1.cell? ⟨w.heap.size,0,none⟩=some (.int .i64 o.c):=hro.cell_of rfl
 have o1:W1.cell? ⟨w.heap.size,1,none⟩=some (.int .i64 o.a):=hro.cell_of rfl
 have o2:W1.cell? ⟨w.heap.size,2,none⟩=some (.int .i64 o.b):=hro.cell_of rfl
 have HL:=aA (Left.below HH.out dU)
 obtain ⟨cv,cf,pv,hc,-,-,-,hf⟩:=HL.out.re.cells ht rfl
 have c5:=hc 5 _ (by decide) rfl
 have c6:W1.cell? ⟨L.g,t*30+5+1,none⟩=some (.int .i64 (E.th t).op.a):=hc 6 _ (by decide) rfl
 have c7:W1.cell? ⟨L.g,t*30+5+2,none⟩=some (.int .i64 (E.th t).op.b):=hc 7 _ (by decide) rfl
 have c10:=hc 10 _ (by decide) rfl
 have f5:=hf (t*30+5)
 have f6:=hf (t*30+5+1)
 have f7:=hf (t*30+5+2)
 have f10:=hf (t*30+10)
 obtain ⟨h1,k1⟩:=HL.out.re.dO ht 5 (by decide) (.int .i64 o.c) {E.th t with op:=⟨o.c,(E.th t).op.a,(E.th t).op.b⟩} rfl rfl rfl rfl rfl (by intros;rfl)
 obtain ⟨h2,k2⟩:=h1.dO ht 6 (by decide) (.int .i64 o.a) {E.th t with op:=⟨o.c,o.a,(E.th t).op.b⟩} (by simp [aC]) (by simp [aC]) (by simp [aC]) (by simp [aC]) (by simp [aC]) (by intros;simp only [aC];rfl)
 obtain ⟨h3,k3⟩:=h2.dO ht 7 (by decide) (.int .i64 o.b) {E.th t with op:=⟨o.c,o.a,o.b⟩} (by simp [aC]) (by simp [aC]) (by simp [aC]) (by simp [aC]) (by simp [aC]) (by intros;simp only [aC];rfl)
 obtain ⟨h4,k4⟩:=h3.dO ht 10 (by decide) (.bool false) {E.th t with op:=⟨o.c,o.a,o.b⟩,again:=false} (by simp [aC]) (by simp [aC]) (by simp [aC]) (by simp [aC]) (by simp [aC]) (by intros;simp only [aC];rfl)
 have H4:=aA h4
 have K4:=aA (((k1.trans k2).trans k3).trans k4)
 clear gJ dU hro hc hf h1 h2 h3 h4 k1 k2 k3 k4
 go_wp2_with fail
 refine (dI H4.out ht 1).mono ?_
 rintro e w5 ⟨rfl,r5,k5⟩
 have HR:=aA (HL.out.next (Left.of r5 (K4.out.trans k5) rfl))
 clear r5 k5
 go_wp2
 refine bodyPost_end (v:=.tuple #[]) (by simp [results,Tryz.results295,go_sem]) rfl ⟨rfl,HR.out.cast ?_⟩
 unfold M.begin
 simp only [aV,aC]
end
end Go.Proofs.YtefjhnhdagolhaaGreat.row
namespace Go.Proofs.YtefjhnhdagolhaaGreat.row
open Go.RowKit
open M (aI aC aD dA aS cA aR aT aO aG aJ)
attribute [local go_sem ↓] Go.wp_at_zero Go.wp_at_succ
section
variable {σ:Type} {R:SR σ} {L:Lt} {S:Nat→Prop} {E:cA σ} {w:World} {t:Nat}
set_option maxRecDepth 20000 in
set_option maxHeartbeats 1000000 in
theorem tX (h:RE R L S E w) (x:Int) (hx:¬(0≤x∧x<L.n)) (o:M.Op) :
  Calls Tryz.prog 287 #[.pointer (some ⟨L.bE,0,none⟩),.int .i64 x,.agg #[.int .i64 o.c,.int .i64 o.a,.int .i64 o.b]] w fun e w'=>e = .returned (.int .i64 3)∧Left R L S w E w':=by
 have HH:=aA h
 have HX:=aA (show decide (0≤x∧x<(L.n:Int))=false by simpa using hx)
 clear h hx
 go_enter Tryz.func287,Tryz.ntmps287
 go_upto_region 1 with fail
 generalize gJ:World.alloc w _=W1
 have dU:Below w.heap.size w W1:=by rw [←gJ];exact aB w _
 have HL:=aA (Left.below HH.out dU)
 clear gJ dU
 go_wp2_with fail
 refine (gZ HL.out.re x).mono ?_
 rintro e w2 ⟨rfl,rfl⟩
 rw [HX.out]
 go_wp2
 go_ret
 exact ⟨rfl,HL.out⟩
set_option maxRecDepth 20000 in
set_option maxHeartbeats 1000000 in
theorem rJ (h:RE R L S E w) (ht:t<L.n) (hp:(E.th t).phase≠0) (o:M.Op) :
  Calls Tryz.prog 287 #[.pointer (some ⟨L.bE,0,none⟩),.int .i64 (t:Int),.agg #[.int .i64 o.c,.int .i64 o.a,.int .i64 o.b]] w fun e w'=>e = .returned (.int .i64 4)∧Left R L S w E w':=by
 have HH:=aA h
 have HX:=aA (show decide (0≤(t:Int)∧(t:Int)<(L.n:Int))=true by simp;omega)
 have HP:=aA (show decide ((E.th t).phase≠0)=true by simpa using hp)
 have ht':(t:Int)<(L.n:Int):=by omega
 clear h hp
 go_enter Tryz.func287,Tryz.ntmps287
 go_upto_region 1 with fail
 generalize gJ:World.alloc w _=W1
 have dU:Below w.heap.size w W1:=by rw [←gJ];exact aB w _
 have HL:=aA (Left.below HH.out dU)
 have c1:W1.cell? ⟨L.bE,1,none⟩=some (.slice (some ⟨L.g,0,none⟩) L.n L.gc):=HL.out.re.fL.cell_of rfl
 clear gJ dU
 go_wp2_with fail
 refine (gZ HL.out.re (t:Int)).mono ?_
 rintro e w2 ⟨rfl,rfl⟩
 rw [HX.out]
 go_wp2_with fail
 refine (fQ HL.out.re ht).mono ?_
 rintro e w3 ⟨rfl,rfl⟩
 rw [HP.out]
 go_wp2
 go_ret
 exact ⟨rfl,HL.out⟩
set_option maxRecDepth 20000 in
set_option maxHeartbeats 1000000 in
theorem rK (h:RE R L S E w) (ht:t<L.n) (hp:(E.th t).phase=0) (o:M.Op) :
  Calls Tryz.prog 287 #[.pointer (some ⟨L.bE,0,none⟩),.int .i64 (t:Int),.agg #[.int .i64 o.c,.int .i64 o.a,.int .i64 o.b]] w fun e w'=>e = .returned (.int .i64 0)∧Left R L S w (M.begin E t o) w':=by
 have HH:=aA h
 have HX:=aA (show decide (0≤(t:Int)∧(t:Int)<(L.n:Int))=true by simp;omega)
 have HP:=aA (show decide ((E.th t).phase≠0)=false by simpa using hp)
 have ht':(t:Int)<(L.n:Int):=by omega
 clear h hp
 go_enter Tryz.func287,Tryz.ntmps287
 go_upto_region 1 with fail
 generalize gJ:World.alloc w _=W1
 have dU:Below w.heap.size w W1:=by rw [←gJ];exact aB w _
 have hro:Row W1 w.heap.size 36 [.int .i64 o.c,.int .i64 o.a,.int .i64 o.b]:=by rw [←gJ];exact Row.new w [_,_,_] _
 have o0:W1.cell? ⟨w.heap.size,0,none⟩=some (.int .i64 o.c):=hro.cell_of rfl
 have o1:W1.cell? ⟨w.heap.size,1,none⟩=some (.int .i64 o.a):=hro.cell_of rfl
 have o2:W1.cell? ⟨w.heap.size,2,none⟩=some (.int .i64 o.b):=hro.cell_of rfl
 have HL:=aA (Left.below HH.out dU)
 have c1:W1.cell? ⟨L.bE,1,none⟩=some (.slice (some ⟨L.g,0,none⟩) L.n L.gc):=HL.out.re.fL.cell_of rfl
 clear gJ dU hro
 go_wp2_with fail
 refine (gZ HL.out.re (t:Int)).mono ?_
 rintro e w2 ⟨rfl,rfl⟩
 rw [HX.out]
 go_wp2_with fail
 refine (fQ HL.out.re ht).mono ?_
 rintro e w3 ⟨rfl,rfl⟩
 rw [HP.out]
 go_upto_region 5 with fail
 have HB:=aA (DJ (HL.out.re.drew) ht o)
 go_region_with (go_at_call 295;refine HB.out.mono ?_;rintro e w4 ⟨rfl,hr⟩;have HR:=aA hr;clear hr)
 all_goals go_wp2
 all_goals go_ret
 all_goals exact ⟨rfl,HL.out.next ⟨HR.out.re,(Fr.refl _ _).drew.trans HR.out.fr⟩⟩
end
end Go.Proofs.YtefjhnhdagolhaaGreat.row
namespace Go.Proofs.YtefjhnhdagolhaaGreat.row
open Go.RowKit
open M (aI aC aD dA aS cA aR aT aO aG aJ)
attribute [local go_sem ↓] Go.wp_at_zero Go.wp_at_succ
section
variable {σ:Type} {R:SR σ} {L:Lt} {S:Nat→Prop} {E:cA σ} {w:World} {t:Nat}
set_option maxRecDepth 20000 in
set_option maxHeartbeats 1000000 in
theorem xS (h:RE R L S E w) (x:Int) (hx:¬(0≤x∧x<L.n)) :
  Calls Tryz.prog 292 #[.pointer (some ⟨L.bE,0,none⟩),.int .i64 x] w fun e w'=>e = .returned (.tuple #[.int .i64 0,.int .i64 3])∧w'=w:=by
 have HH:=aA h
 have HX:=aA (show decide (0≤x∧x<(L.n:Int))=false by simpa using hx)
 clear h hx
 go_enter Tryz.func292,Tryz.ntmps292
 go_wp2_with fail
 refine (gZ HH.out x).mono ?_
 rintro e w2 ⟨rfl,rfl⟩
 rw [HX.out]
 go_wp2
 refine bodyPost_ret (v:=.tuple #[.int .i64 0,.int .i64 3]) (by simp [results,Tryz.results292,go_sem]) rfl ⟨rfl,rfl⟩
set_option maxRecDepth 20000 in
set_option maxHeartbeats 1000000 in
theorem tY (h:RE R L S E w) (ht:t<L.n) (hp:(E.th t).phase=0) :
  Calls Tryz.prog 292 #[.pointer (some ⟨L.bE,0,none⟩),.int .i64 (t:Int)] w fun e w'=>e = .returned (.tuple #[.int .i64 0,.int .i64 5])∧w'=w:=by
 have HH:=aA h
 have HX:=aA (show decide (0≤(t:Int)∧(t:Int)<(L.n:Int))=true by simp;omega)
 have HP:=aA (show decide ((E.th t).phase≠0)=false by simpa using hp)
 have ht':(t:Int)<(L.n:Int):=by omega
 have c1:w.cell? ⟨L.bE,1,none⟩=some (.slice (some ⟨L.g,0,none⟩) L.n L.gc):=h.fL.cell_of rfl
 clear h hp
 go_enter Tryz.func292,Tryz.ntmps292
 go_wp2_with fail
 refine (gZ HH.out (t:Int)).mono ?_
 rintro e w2 ⟨rfl,rfl⟩
 rw [HX.out]
 go_wp2_with fail
 refine (fQ HH.out ht).mono ?_
 rintro e w3 ⟨rfl,rfl⟩
 rw [HP.out]
 go_wp2
 refine bodyPost_ret (v:=.tuple #[.int .i64 0,.int .i64 5]) (by simp [results,Tryz.results292,go_sem]) rfl ⟨rfl,rfl⟩
set_option maxRecDepth 20000 in
set_option maxHeartbeats 1000000 in
theorem tZ {P:M.Plain σ} {fA:Nat} {rv:Value} (hA:eV R P L fA rv) (h:RE R L S E w) (ht:t<L.n) (hC:Can L E t) (hZ:(E.th t).phase=8→∀ v,(E.th t).now=some v→R.sz v.st≤1000000000000) (h1:1≤(E.th t).phase) (JB:(E.th t).phase≤13) :
  Calls Tryz.prog 292 #[.pointer (some ⟨L.bE,0,none⟩),.int .i64 (t:Int)] w fun e w'=>e = .returned (.tuple #[.int .i64 (if ((M.step P L.n L.cap E t).th t).phase=0 then 2 else 1),.int .i64 0])∧Left R L S w (M.step P L.n L.cap E t) w':=by
 have HH:=aA h
 have HX:=aA (show decide (0≤(t:Int)∧(t:Int)<(L.n:Int))=true by simp;omega)
 have HP:=aA (show decide ((E.th t).phase≠0)=true by simp;omega)
 have HS:=aA (xR hA h ht hC hZ h1 JB)
 have ht':(t:Int)<(L.n:Int):=by omega
 have c1:w.cell? ⟨L.bE,1,none⟩=some (.slice (some ⟨L.g,0,none⟩) L.n L.gc):=h.fL.cell_of rfl
 clear h hA hC hZ h1 JB
 go_enter Tryz.func292,Tryz.ntmps292
 go_wp2_with fail
 refine (gZ HH.out (t:Int)).mono ?_
 rintro e w2 ⟨rfl,rfl⟩
 rw [HX.out]
 go_wp2_with fail
 refine (fQ HH.out ht).mono ?_
 rintro e w3 ⟨rfl,rfl⟩
 rw [HP.out]
 go_wp2_with fail
 refine HS.out.mono ?_
 rintro e w4 ⟨rfl,hr⟩
 have HR:=aA hr
 have d1:w4.cell? ⟨L.bE,1,none⟩=some (.slice (some ⟨L.g,0,none⟩) L.n L.gc):=hr.re.fL.cell_of rfl
 clear hr
 go_wp2_with fail
 refine (fQ HR.out.re ht).mono ?_
 rintro e w5 ⟨rfl,rfl⟩
 by_cases q:((M.step P L.n L.cap E t).th t).phase=0
 ·have HQ:=aA (show decide (((M.step P L.n L.cap E t).th t).phase≠0)=false by simpa using q)
  rw [HQ.out]
  have HI:=aA q
  clear q
  go_wp2
  refine bodyPost_ret (v:=.tuple #[.int .i64 2,.int .i64 0]) (by simp [results,Tryz.results292,go_sem]) rfl ⟨rfl,HR.out⟩
 ·have HQ:=aA (show decide (((M.step P L.n L.cap E t).th t).phase≠0)=true by simpa using q)
  rw [HQ.out]
  have HI:=aA q
  clear q
  go_wp2
  refine bodyPost_ret (v:=.tuple #[.int .i64 1,.int .i64 0]) (by simp [results,Tryz.results292,go_sem]) rfl ⟨rfl,HR.out⟩
end
end Go.Proofs.YtefjhnhdagolhaaGreat.row
namespace Go.Proofs.YtefjhnhdagolhaaGreat.row
open Go.RowKit
open M (aI aC aD dA aS cA aR aT aO aG aJ)
attribute [local go_sem ↓] Go.wp_at_zero Go.wp_at_succ
section
variable {σ:Type} {R:SR σ} {L:Lt} {S:Nat→Prop} {E:cA σ} {w:World} {t:Nat}
set_option maxRecDepth 20000 in
set_option maxHeartbeats 1000000 in
theorem rL (h:RE R L S E w) (x:Int) (hx:¬(0≤x∧x<L.n)) :
  Calls Tryz.prog 286 #[.pointer (some ⟨L.bE,0,none⟩),.int .i64 x] w fun e w'=>e = .returned (.tuple #[.agg #[.int .i64 0,.int .i64 0],.int .i64 3])∧Below w.heap.size w w':=by
 have HH:=aA (fun ob=>gZ (h.below (aB w ob)) x)
 have HX:=aA (show decide (0≤x∧x<(L.n:Int))=false by simpa using hx)
 clear h hx
 go_enter Tryz.func286,Tryz.ntmps286
 go_wp2_with fail
 refine (HH.out _).mono ?_
 rintro e w1 ⟨rfl,rfl⟩
 rw [HX.out]
 go_wp2_with fail
 exact bodyPost_ret (v:=.tuple #[.agg #[.int .i64 0,.int .i64 0],.int .i64 3]) (by simp [results,Tryz.results286,go_sem]) rfl ⟨rfl,(by repeat (first|exact Below.refl _ _|assumption|refine Below.drewN ?_ _|refine Below.alloc ?_ (by simp) _))⟩
set_option maxRecDepth 20000 in
set_option maxHeartbeats 1000000 in
theorem oZ (h:RE R L S E w) (ht:t<L.n) (hp:(E.th t).phase≠0) :
  Calls Tryz.prog 286 #[.pointer (some ⟨L.bE,0,none⟩),.int .i64 (t:Int)] w fun e w'=>e = .returned (.tuple #[.agg #[.int .i64 0,.int .i64 0],.int .i64 4])∧Below w.heap.size w w':=by
 have HH:=aA (fun ob=>gZ (h.below (aB w ob)) (t:Int))
 have HB:=aA (fun ob=>fQ (h.below (aB w ob)) ht)
 have HX:=aA (show decide (0≤(t:Int)∧(t:Int)<(L.n:Int))=true by simp;omega)
 have HP:=aA (show decide ((E.th t).phase≠0)=true by simpa using hp)
 have hc:w.cell? ⟨L.bE,1,none⟩=some (.slice (some ⟨L.g,0,none⟩) L.n L.gc):=h.fL.cell_of rfl
 have FE:=fun ob=>aX hc ob
 have ht':(t:Int)<(L.n:Int):=by omega
 clear h hp
 go_enter Tryz.func286,Tryz.ntmps286
 go_wp2_with fail
 refine (HH.out _).mono ?_
 rintro e w1 ⟨rfl,rfl⟩
 rw [HX.out]
 go_wp2_with fail
 refine (HB.out _).mono ?_
 rintro e w1 ⟨rfl,rfl⟩
 rw [HP.out]
 go_wp2_with fail
 exact bodyPost_ret (v:=.tuple #[.agg #[.int .i64 0,.int .i64 0],.int .i64 4]) (by simp [results,Tryz.results286,go_sem]) rfl ⟨rfl,(by repeat (first|exact Below.refl _ _|assumption|refine Below.drewN ?_ _|refine Below.alloc ?_ (by simp) _))⟩
set_option maxRecDepth 20000 in
set_option maxHeartbeats 1000000 in
theorem pE (h:RE R L S E w) (ht:t<L.n) (hp:(E.th t).phase=0) (he:(E.th t).ended=false) :
  Calls Tryz.prog 286 #[.pointer (some ⟨L.bE,0,none⟩),.int .i64 (t:Int)] w fun e w'=>e = .returned (.tuple #[.agg #[.int .i64 0,.int .i64 0],.int .i64 5])∧Below w.heap.size w w':=by
 have HH:=aA (fun ob=>gZ (h.below (aB w ob)) (t:Int))
 have HB:=aA (fun ob=>fQ (h.below (aB w ob)) ht)
 have HX:=aA (show decide (0≤(t:Int)∧(t:Int)<(L.n:Int))=true by simp;omega)
 have HP:=aA (show decide ((E.th t).phase≠0)=false by simpa using hp)
 have hc:w.cell? ⟨L.bE,1,none⟩=some (.slice (some ⟨L.g,0,none⟩) L.n L.gc):=h.fL.cell_of rfl
 have FE:=fun ob=>aX hc ob
 have ht':(t:Int)<(L.n:Int):=by omega
 obtain ⟨cv,cf,pv,hce,hcv,dN,-,-⟩:=h.cells ht rfl
 obtain ⟨c0,c1,c2,rfl⟩:=aH hcv.1
 obtain ⟨d0,d1,d2,rfl⟩:=aH dN.1
 have e1:w.cell? ⟨L.g,t*30+29,none⟩=some (.bool false):=by have:=hce 29 _ (by decide) rfl;rw [he] at this;exact this
 have IM:=fun ob=>aX e1 ob
 clear h hp hce hcv dN he
 go_enter Tryz.func286,Tryz.ntmps286
 go_wp2_with fail
 refine (HH.out _).mono ?_
 rintro e w1 ⟨rfl,rfl⟩
 rw [HX.out]
 go_wp2_with fail
 refine (HB.out _).mono ?_
 rintro e w1 ⟨rfl,rfl⟩
 rw [HP.out]
 go_wp2_with fail
 exact bodyPost_ret (v:=.tuple #[.agg #[.int .i64 0,.int .i64 0],.int .i64 5]) (by simp [results,Tryz.results286,go_sem]) rfl ⟨rfl,(by repeat (first|exact Below.refl _ _|assumption|refine Below.drewN ?_ _|refine Below.alloc ?_ (by simp) _))⟩
set_option maxRecDepth 20000 in
set_option maxHeartbeats 1000000 in
theorem pF (h:RE R L S E w) (ht:t<L.n) (hp:(E.th t).phase=0) (he:(E.th t).ended=true) :
  Calls Tryz.prog 286 #[.pointer (some ⟨L.bE,0,none⟩),.int .i64 (t:Int)] w fun e w'=>e = .returned (.tuple #[.agg #[.int .i64 (E.th t).zI,.int .i64 (E.th t).val],.int .i64 0])∧Below w.heap.size w w':=by
 have HH:=aA (fun ob=>gZ (h.below (aB w ob)) (t:Int))
 have HB:=aA (fun ob=>fQ (h.below (aB w ob)) ht)
 have HX:=aA (show decide (0≤(t:Int)∧(t:Int)<(L.n:Int))=true by simp;omega)
 have HP:=aA (show decide ((E.th t).phase≠0)=false by simpa using hp)
 have hc:w.cell? ⟨L.bE,1,none⟩=some (.slice (some ⟨L.g,0,none⟩) L.n L.gc):=h.fL.cell_of rfl
 have FE:=fun ob=>aX hc ob
 have ht':(t:Int)<(L.n:Int):=by omega
 obtain ⟨cv,cf,pv,hce,hcv,dN,-,-⟩:=h.cells ht rfl
 obtain ⟨c0,c1,c2,rfl⟩:=aH hcv.1
 obtain ⟨d0,d1,d2,rfl⟩:=aH dN.1
 have e1:w.cell? ⟨L.g,t*30+29,none⟩=some (.bool true):=by have:=hce 29 _ (by decide) rfl;rw [he] at this;exact this
 have IM:=fun ob=>aX e1 ob
 have e2:w.cell? ⟨L.g,t*30+27,none⟩=some (.int .i64 (E.th t).zI):=hce 27 _ (by decide) rfl
 have e2':=fun ob=>aX e2 ob
 have e3:w.cell? ⟨L.g,t*30+27+1,none⟩=some (.int .i64 (E.th t).val):=hce 28 _ (by decide) rfl
 have e3':=fun ob=>aX e3 ob
 clear h hp hce hcv dN he
 go_enter Tryz.func286,Tryz.ntmps286
 go_wp2_with fail
 refine (HH.out _).mono ?_
 rintro e w1 ⟨rfl,rfl⟩
 rw [HX.out]
 go_wp2_with fail
 refine (HB.out _).mono ?_
 rintro e w1 ⟨rfl,rfl⟩
 rw [HP.out]
 go_wp2_with fail
 exact bodyPost_ret (v:=.tuple #[.agg #[.int .i64 (E.th t).zI,.int .i64 (E.th t).val],.int .i64 0]) (by simp [results,Tryz.results286,go_sem]) rfl ⟨rfl,(by repeat (first|exact Below.refl _ _|assumption|refine Below.drewN ?_ _|refine Below.alloc ?_ (by simp) _))⟩
end
end Go.Proofs.YtefjhnhdagolhaaGreat.row
