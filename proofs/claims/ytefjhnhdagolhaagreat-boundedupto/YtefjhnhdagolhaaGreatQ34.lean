import Derived.Test.YtefjhnhdagolhaaGreatQ33
import Derived.Test.YtefjhnhdagolhaaGreatQ07
import Derived.Test.YtefjhnhdagolhaaGreatQ17
set_option maxHeartbeats 4000000
set_option maxRecDepth 20000
namespace Go.Proofs.YtefjhnhdagolhaaGreat
open int list tree
open Go.RowKit
open M (aI aC aD cY aS aK aP bA aQ aL aN)
attribute [local go_sem ↓] Go.wp_at_zero Go.wp_at_succ
def int.dZ:Prop:=∀ {σ:Type} {R:SR σ} {L:Lt} {S:Nat→Prop} {E:aK σ} {w:World} (_h:RE R L S E w) (x:Int) (_hx:¬(0≤x∧x<L.n)),Calls Tryz.prog 189 #[.pointer (some ⟨L.bE,0,none⟩),.int .i64 x] w fun e w'=>e = .returned (.tuple #[.agg #[.int .i64 0,.int .i64 0],.int .i64 3])∧Below w.heap.size w w'
def list.dZ:Prop:=∀ {σ:Type} {R:SR σ} {L:Lt} {S:Nat→Prop} {E:aK σ} {w:World} (_h:RE R L S E w) (x:Int) (_hx:¬(0≤x∧x<L.n)),Calls Tryz.prog 249 #[.pointer (some ⟨L.bE,0,none⟩),.int .i64 x] w fun e w'=>e = .returned (.tuple #[.agg #[.int .i64 0,.int .i64 0],.int .i64 3])∧Below w.heap.size w w'
def tree.dZ:Prop:=∀ {σ:Type} {R:SR σ} {L:Lt} {S:Nat→Prop} {E:aK σ} {w:World} (_h:RE R L S E w) (x:Int) (_hx:¬(0≤x∧x<L.n)),Calls Tryz.prog 323 #[.pointer (some ⟨L.bE,0,none⟩),.int .i64 x] w fun e w'=>e = .returned (.tuple #[.agg #[.int .i64 0,.int .i64 0],.int .i64 3])∧Below w.heap.size w w'
def row.dZ:Prop:=∀ {σ:Type} {R:SR σ} {L:Lt} {S:Nat→Prop} {E:aK σ} {w:World} (_h:RE R L S E w) (x:Int) (_hx:¬(0≤x∧x<L.n)),Calls Tryz.prog 286 #[.pointer (some ⟨L.bE,0,none⟩),.int .i64 x] w fun e w'=>e = .returned (.tuple #[.agg #[.int .i64 0,.int .i64 0],.int .i64 3])∧Below w.heap.size w w'
open row in
theorem oL:int.dZ∧list.dZ∧tree.dZ∧row.dZ:=by
 refine ⟨@mkK _ 0 ?_,@mkK _ 1 ?_,@mkK _ 2 ?_,@mkK _ 3 ?_⟩<;>intro kk σ R L S E w h x hx
 all_goals
  have HH:=aA (fun ob=>qL (h.below (aB w ob)) x)
  have HX:=aA (show decide (0≤x∧x<(L.n:Int))=false by simpa using hx)
  clear h hx
  first|(have _:Kn 0:=kk;go_enter Tryz.func189,Tryz.ntmps189)|(have _:Kn 1:=kk;go_enter Tryz.func249,Tryz.ntmps249)|(have _:Kn 2:=kk;go_enter Tryz.func323,Tryz.ntmps323)|(have _:Kn 3:=kk;go_enter Tryz.func286,Tryz.ntmps286)
  go_wp2_with fail
  refine (HH.out _).mono ?_
  rintro e w1 ⟨rfl,rfl⟩
  rw [HX.out]
  go_wp2_with fail
  exact bodyPost_ret (v:=.tuple #[.agg #[.int .i64 0,.int .i64 0],.int .i64 3]) (by simp [results,Tryz.results189,Tryz.results249,Tryz.results323,Tryz.results286,go_sem]) rfl ⟨rfl,(by repeat (first|exact Below.refl _ _|assumption|refine Below.drewN ?_ _|refine Below.alloc ?_ (by simp) _))⟩
theorem int.sV:dZ:=oL.1
theorem list.sV:dZ:=oL.2.1
theorem tree.sV:dZ:=oL.2.2.1
theorem row.sV:dZ:=oL.2.2.2
def int.dI:Prop:=∀ {σ:Type} {R:SR σ} {L:Lt} {S:Nat→Prop} {E:aK σ} {w:World} {t:Nat} (_h:RE R L S E w) (_ht:t<L.n) (_hp:(E.th t).phase≠0),Calls Tryz.prog 189 #[.pointer (some ⟨L.bE,0,none⟩),.int .i64 (t:Int)] w fun e w'=>e = .returned (.tuple #[.agg #[.int .i64 0,.int .i64 0],.int .i64 4])∧Below w.heap.size w w'
def list.dI:Prop:=∀ {σ:Type} {R:SR σ} {L:Lt} {S:Nat→Prop} {E:aK σ} {w:World} {t:Nat} (_h:RE R L S E w) (_ht:t<L.n) (_hp:(E.th t).phase≠0),Calls Tryz.prog 249 #[.pointer (some ⟨L.bE,0,none⟩),.int .i64 (t:Int)] w fun e w'=>e = .returned (.tuple #[.agg #[.int .i64 0,.int .i64 0],.int .i64 4])∧Below w.heap.size w w'
def tree.dI:Prop:=∀ {σ:Type} {R:SR σ} {L:Lt} {S:Nat→Prop} {E:aK σ} {w:World} {t:Nat} (_h:RE R L S E w) (_ht:t<L.n) (_hp:(E.th t).phase≠0),Calls Tryz.prog 323 #[.pointer (some ⟨L.bE,0,none⟩),.int .i64 (t:Int)] w fun e w'=>e = .returned (.tuple #[.agg #[.int .i64 0,.int .i64 0],.int .i64 4])∧Below w.heap.size w w'
def row.dI:Prop:=∀ {σ:Type} {R:SR σ} {L:Lt} {S:Nat→Prop} {E:aK σ} {w:World} {t:Nat} (_h:RE R L S E w) (_ht:t<L.n) (_hp:(E.th t).phase≠0),Calls Tryz.prog 286 #[.pointer (some ⟨L.bE,0,none⟩),.int .i64 (t:Int)] w fun e w'=>e = .returned (.tuple #[.agg #[.int .i64 0,.int .i64 0],.int .i64 4])∧Below w.heap.size w w'
open row in
theorem mN:int.dI∧list.dI∧tree.dI∧row.dI:=by
 refine ⟨@mkK _ 0 ?_,@mkK _ 1 ?_,@mkK _ 2 ?_,@mkK _ 3 ?_⟩<;>intro kk σ R L S E w t h ht hp
 all_goals
  have HH:=aA (fun ob=>qL (h.below (aB w ob)) (t:Int))
  have HB:=aA (fun ob=>mD (h.below (aB w ob)) ht)
  have HX:=aA (show decide (0≤(t:Int)∧(t:Int)<(L.n:Int))=true by simp;omega)
  have HP:=aA (show decide ((E.th t).phase≠0)=true by simpa using hp)
  have hc:w.cell? ⟨L.bE,1,none⟩=some (.slice (some ⟨L.g,0,none⟩) L.n L.gc):=h.oQ.cell_of rfl
  have MR:=fun ob=>dM hc ob
  have ht':(t:Int)<(L.n:Int):=by omega
  clear h hp
  first|(have _:Kn 0:=kk;go_enter Tryz.func189,Tryz.ntmps189)|(have _:Kn 1:=kk;go_enter Tryz.func249,Tryz.ntmps249)|(have _:Kn 2:=kk;go_enter Tryz.func323,Tryz.ntmps323)|(have _:Kn 3:=kk;go_enter Tryz.func286,Tryz.ntmps286)
  go_wp2_with fail
  refine (HH.out _).mono ?_
  rintro e w1 ⟨rfl,rfl⟩
  rw [HX.out]
  go_wp2_with fail
  refine (HB.out _).mono ?_
  rintro e w1 ⟨rfl,rfl⟩
  rw [HP.out]
  go_wp2_with fail
  exact bodyPost_ret (v:=.tuple #[.agg #[.int .i64 0,.int .i64 0],.int .i64 4]) (by simp [results,Tryz.results189,Tryz.results249,Tryz.results323,Tryz.results286,go_sem]) rfl ⟨rfl,(by repeat (first|exact Below.refl _ _|assumption|refine Below.drewN ?_ _|refine Below.alloc ?_ (by simp) _))⟩
theorem int.qP:dI:=mN.1
theorem list.qP:dI:=mN.2.1
theorem tree.qP:dI:=mN.2.2.1
theorem row.qP:dI:=mN.2.2.2
def int.dJ:Prop:=∀ {σ:Type} {R:SR σ} {L:Lt} {S:Nat→Prop} {E:aK σ} {w:World} {t:Nat} (_h:RE R L S E w) (_ht:t<L.n) (_hp:(E.th t).phase=0) (_he:(E.th t).ended=false),Calls Tryz.prog 189 #[.pointer (some ⟨L.bE,0,none⟩),.int .i64 (t:Int)] w fun e w'=>e = .returned (.tuple #[.agg #[.int .i64 0,.int .i64 0],.int .i64 5])∧Below w.heap.size w w'
def list.dJ:Prop:=∀ {σ:Type} {R:SR σ} {L:Lt} {S:Nat→Prop} {E:aK σ} {w:World} {t:Nat} (_h:RE R L S E w) (_ht:t<L.n) (_hp:(E.th t).phase=0) (_he:(E.th t).ended=false),Calls Tryz.prog 249 #[.pointer (some ⟨L.bE,0,none⟩),.int .i64 (t:Int)] w fun e w'=>e = .returned (.tuple #[.agg #[.int .i64 0,.int .i64 0],.int .i64 5])∧Below w.heap.size w w'
def tree.dJ:Prop:=∀ {σ:Type} {R:SR σ} {L:Lt} {S:Nat→Prop} {E:aK σ} {w:World} {t:Nat} (_h:RE R L S E w) (_ht:t<L.n) (_hp:(E.th t).phase=0) (_he:(E.th t).ended=false),Calls Tryz.prog 323 #[.pointer (some ⟨L.bE,0,none⟩),.int .i64 (t:Int)] w fun e w'=>e = .returned (.tuple #[.agg #[.int .i64 0,.int .i64 0],.int .i64 5])∧Below w.heap.size w w'
def row.dJ:Prop:=∀ {σ:Type} {R:SR σ} {L:Lt} {S:Nat→Prop} {E:aK σ} {w:World} {t:Nat} (_h:RE R L S E w) (_ht:t<L.n) (_hp:(E.th t).phase=0) (_he:(E.th t).ended=false),Calls Tryz.prog 286 #[.pointer (some ⟨L.bE,0,none⟩),.int .i64 (t:Int)] w fun e w'=>e = .returned (.tuple #[.agg #[.int .i64 0,.int .i64 0],.int .i64 5])∧Below w.heap.size w w'
open row in
theorem mO:int.dJ∧list.dJ∧tree.dJ∧row.dJ:=by
 refine ⟨@mkK _ 0 ?_,@mkK _ 1 ?_,@mkK _ 2 ?_,@mkK _ 3 ?_⟩<;>intro kk σ R L S E w t h ht hp he
 all_goals
  have HH:=aA (fun ob=>qL (h.below (aB w ob)) (t:Int))
  have HB:=aA (fun ob=>mD (h.below (aB w ob)) ht)
  have HX:=aA (show decide (0≤(t:Int)∧(t:Int)<(L.n:Int))=true by simp;omega)
  have HP:=aA (show decide ((E.th t).phase≠0)=false by simpa using hp)
  have hc:w.cell? ⟨L.bE,1,none⟩=some (.slice (some ⟨L.g,0,none⟩) L.n L.gc):=h.oQ.cell_of rfl
  have MR:=fun ob=>dM hc ob
  have ht':(t:Int)<(L.n:Int):=by omega
  obtain ⟨cv,cf,pv,hce,hcv,eD,-,-⟩:=h.cells ht rfl
  first|(have _:Kn 0:=kk;obtain ⟨c0,c1,rfl⟩:=int.aE hcv.1)|(have _:Kn 1:=kk;obtain ⟨c0,c1,rfl⟩:=int.aE hcv.1)|(have _:Kn 2:=kk;obtain ⟨c0,c1,rfl⟩:=int.aE hcv.1)|(have _:Kn 3:=kk;obtain ⟨c0,c1,c2,rfl⟩:=row.aE hcv.1)
  first|(have _:Kn 0:=kk;obtain ⟨d0,d1,rfl⟩:=int.aE eD.1)|(have _:Kn 1:=kk;obtain ⟨d0,d1,rfl⟩:=int.aE eD.1)|(have _:Kn 2:=kk;obtain ⟨d0,d1,rfl⟩:=int.aE eD.1)|(have _:Kn 3:=kk;obtain ⟨d0,d1,d2,rfl⟩:=row.aE eD.1)
  first|(have _:Kn 0:=kk;have e1:w.cell? ⟨L.g,t*28+27,none⟩=some (.bool false):=by have:=hce 27 _ (by decide) rfl;rw [he] at this;exact this)|(have _:Kn 1:=kk;have e1:w.cell? ⟨L.g,t*28+27,none⟩=some (.bool false):=by have:=hce 27 _ (by decide) rfl;rw [he] at this;exact this)|(have _:Kn 2:=kk;have e1:w.cell? ⟨L.g,t*28+27,none⟩=some (.bool false):=by have:=hce 27 _ (by decide) rfl;rw [he] at this;exact this)|(have _:Kn 3:=kk;have e1:w.cell? ⟨L.g,t*30+29,none⟩=some (.bool false):=by have:=hce 29 _ (by decide) rfl;rw [he] at this;exact this)
  have e1':=fun ob=>dM e1 ob
  clear h hp hce hcv eD he
  first|(have _:Kn 0:=kk;go_enter Tryz.func189,Tryz.ntmps189)|(have _:Kn 1:=kk;go_enter Tryz.func249,Tryz.ntmps249)|(have _:Kn 2:=kk;go_enter Tryz.func323,Tryz.ntmps323)|(have _:Kn 3:=kk;go_enter Tryz.func286,Tryz.ntmps286)
  go_wp2_with fail
  refine (HH.out _).mono ?_
  rintro e w1 ⟨rfl,rfl⟩
  rw [HX.out]
  go_wp2_with fail
  refine (HB.out _).mono ?_
  rintro e w1 ⟨rfl,rfl⟩
  rw [HP.out]
  go_wp2_with fail
  exact bodyPost_ret (v:=.tuple #[.agg #[.int .i64 0,.int .i64 0],.int .i64 5]) (by simp [results,Tryz.results189,Tryz.results249,Tryz.results323,Tryz.results286,go_sem]) rfl ⟨rfl,(by repeat (first|exact Below.refl _ _|assumption|refine Below.drewN ?_ _|refine Below.alloc ?_ (by simp) _))⟩
theorem int.qQ:dJ:=mO.1
theorem list.qQ:dJ:=mO.2.1
theorem tree.qQ:dJ:=mO.2.2.1
theorem row.qQ:dJ:=mO.2.2.2
def int.fI:Prop:=∀ {σ:Type} {R:SR σ} {L:Lt} {S:Nat→Prop} {E:aK σ} {w:World} {t:Nat} (_h:RE R L S E w) (_ht:t<L.n) (_hp:(E.th t).phase=0) (_he:(E.th t).ended=true),Calls Tryz.prog 189 #[.pointer (some ⟨L.bE,0,none⟩),.int .i64 (t:Int)] w fun e w'=>e = .returned (.tuple #[.agg #[.int .i64 (E.th t).yA,.int .i64 (E.th t).val],.int .i64 0])∧Below w.heap.size w w'
def list.fI:Prop:=∀ {σ:Type} {R:SR σ} {L:Lt} {S:Nat→Prop} {E:aK σ} {w:World} {t:Nat} (_h:RE R L S E w) (_ht:t<L.n) (_hp:(E.th t).phase=0) (_he:(E.th t).ended=true),Calls Tryz.prog 249 #[.pointer (some ⟨L.bE,0,none⟩),.int .i64 (t:Int)] w fun e w'=>e = .returned (.tuple #[.agg #[.int .i64 (E.th t).yA,.int .i64 (E.th t).val],.int .i64 0])∧Below w.heap.size w w'
def tree.fI:Prop:=∀ {σ:Type} {R:SR σ} {L:Lt} {S:Nat→Prop} {E:aK σ} {w:World} {t:Nat} (_h:RE R L S E w) (_ht:t<L.n) (_hp:(E.th t).phase=0) (_he:(E.th t).ended=true),Calls Tryz.prog 323 #[.pointer (some ⟨L.bE,0,none⟩),.int .i64 (t:Int)] w fun e w'=>e = .returned (.tuple #[.agg #[.int .i64 (E.th t).yA,.int .i64 (E.th t).val],.int .i64 0])∧Below w.heap.size w w'
theorem rK:int.fI∧list.fI∧tree.fI:=by
 refine ⟨@mkK _ 0 ?_,@mkK _ 1 ?_,@mkK _ 2 ?_⟩<;>intro kk σ R L S E w t h ht hp he
 all_goals
  have HH:=aA (fun ob=>qL (h.below (aB w ob)) (t:Int))
  have HB:=aA (fun ob=>mD (h.below (aB w ob)) ht)
  have HX:=aA (show decide (0≤(t:Int)∧(t:Int)<(L.n:Int))=true by simp;omega)
  have HP:=aA (show decide ((E.th t).phase≠0)=false by simpa using hp)
  have hc:w.cell? ⟨L.bE,1,none⟩=some (.slice (some ⟨L.g,0,none⟩) L.n L.gc):=h.oQ.cell_of rfl
  have MR:=fun ob=>dM hc ob
  have ht':(t:Int)<(L.n:Int):=by omega
  obtain ⟨cv,cf,pv,hce,hcv,eD,-,-⟩:=h.cells ht rfl
  obtain ⟨c0,c1,rfl⟩:=aE hcv.1
  obtain ⟨d0,d1,rfl⟩:=aE eD.1
  have e1:w.cell? ⟨L.g,t*28+27,none⟩=some (.bool true):=by have:=hce 27 _ (by decide) rfl;rw [he] at this;exact this
  have e1':=fun ob=>dM e1 ob
  have e2:w.cell? ⟨L.g,t*28+25,none⟩=some (.int .i64 (E.th t).yA):=hce 25 _ (by decide) rfl
  have e2':=fun ob=>dM e2 ob
  have e3:w.cell? ⟨L.g,t*28+25+1,none⟩=some (.int .i64 (E.th t).val):=hce 26 _ (by decide) rfl
  have e3':=fun ob=>dM e3 ob
  clear h hp hce hcv eD he
  first|(have _:Kn 0:=kk;go_enter Tryz.func189,Tryz.ntmps189)|(have _:Kn 1:=kk;go_enter Tryz.func249,Tryz.ntmps249)|(have _:Kn 2:=kk;go_enter Tryz.func323,Tryz.ntmps323)
  go_wp2_with fail
  refine (HH.out _).mono ?_
  rintro e w1 ⟨rfl,rfl⟩
  rw [HX.out]
  go_wp2_with fail
  refine (HB.out _).mono ?_
  rintro e w1 ⟨rfl,rfl⟩
  rw [HP.out]
  go_wp2_with fail
  exact bodyPost_ret (v:=.tuple #[.agg #[.int .i64 (E.th t).yA,.int .i64 (E.th t).val],.int .i64 0]) (by simp [results,Tryz.results189,Tryz.results249,Tryz.results323,go_sem]) rfl ⟨rfl,(by repeat (first|exact Below.refl _ _|assumption|refine Below.drewN ?_ _|refine Below.alloc ?_ (by simp) _))⟩
theorem int.qR:fI:=rK.1
theorem list.qR:fI:=rK.2.1
theorem tree.qR:fI:=rK.2.2
theorem row.qR {σ:Type} {R:SR σ} {L:Lt} {S:Nat→Prop} {E:aK σ} {w:World} {t:Nat} (h:RE R L S E w) (ht:t<L.n) (hp:(E.th t).phase=0) (he:(E.th t).ended=true) :
  Calls Tryz.prog 286 #[.pointer (some ⟨L.bE,0,none⟩),.int .i64 (t:Int)] w fun e w'=>e = .returned (.tuple #[.agg #[.int .i64 (E.th t).yA,.int .i64 (E.th t).val],.int .i64 0])∧Below w.heap.size w w':=by
 have HH:=aA (fun ob=>qL (h.below (aB w ob)) (t:Int))
 have HB:=aA (fun ob=>mD (h.below (aB w ob)) ht)
 have HX:=aA (show decide (0≤(t:Int)∧(t:Int)<(L.n:Int))=true by simp;omega)
 have HP:=aA (show decide ((E.th t).phase≠0)=false by simpa using hp)
 have hc:w.cell? ⟨L.bE,1,none⟩=some (.slice (some ⟨L.g,0,none⟩) L.n L.gc):=h.oQ.cell_of rfl
 have MR:=fun ob=>dM hc ob
 have ht':(t:Int)<(L.n:Int):=by omega
 obtain ⟨cv,cf,pv,hce,hcv,eD,-,-⟩:=h.cells ht rfl
 obtain ⟨c0,c1,c2,rfl⟩:=aE hcv.1
 obtain ⟨d0,d1,d2,rfl⟩:=aE eD.1
 have e1:w.cell? ⟨L.g,t*30+29,none⟩=some (.bool true):=by have:=hce 29 _ (by decide) rfl;rw [he] at this;exact this
 have e1':=fun ob=>dM e1 ob
 have e2:w.cell? ⟨L.g,t*30+27,none⟩=some (.int .i64 (E.th t).yA):=hce 27 _ (by decide) rfl
 have e2':=fun ob=>dM e2 ob
 have e3:w.cell? ⟨L.g,t*30+27+1,none⟩=some (.int .i64 (E.th t).val):=hce 28 _ (by decide) rfl
 have e3':=fun ob=>dM e3 ob
 clear h hp hce hcv eD he
 go_enter Tryz.func286,Tryz.ntmps286
 go_wp2_with fail
 refine (HH.out _).mono ?_
 rintro e w1 ⟨rfl,rfl⟩
 rw [HX.out]
 go_wp2_with fail
 refine (HB.out _).mono ?_
 rintro e w1 ⟨rfl,rfl⟩
 rw [HP.out]
 go_wp2_with fail
 exact bodyPost_ret (v:=.tuple #[.agg #[.int .i64 (E.th t).yA,.int .i64 (E.th t).val],.int .i64 0]) (by simp [results,Tryz.results286,go_sem]) rfl ⟨rfl,(by repeat (first|exact Below.refl _ _|assumption|refine Below.drewN ?_ _|refine Below.alloc ?_ (by simp) _))⟩
end Go.Proofs.YtefjhnhdagolhaaGreat
namespace Go.Proofs.YtefjhnhdagolhaaGreat
open int list tree
open Go.RowKit
open M (aI aC aD cY aS aK aP bA aQ aL aN)
structure int.Both {σ:Type} (R:SR σ) (P:M.Plain σ) (L:Lt) (S:Nat→Prop) (E:aK σ) (Y:aP) (w:World):Prop where
 re:RE R L S E w
 inv:M.Inv P L.n L.cap E Y
 yB:M.ED L.n E
 AY:M.KS R.sz L.n E Y
structure list.Both {σ:Type} (R:SR σ) (P:M.Plain σ) (L:Lt) (S:Nat→Prop) (E:aK σ) (Y:aP) (w:World):Prop where
 re:RE R L S E w
 inv:M.Inv P L.n L.cap E Y
 yB:M.ED L.n E
 AY:M.KS R.sz L.n E Y
structure tree.Both {σ:Type} (R:SR σ) (P:M.Plain σ) (L:Lt) (S:Nat→Prop) (E:aK σ) (Y:aP) (w:World):Prop where
 re:RE R L S E w
 inv:M.Inv P L.n L.cap E Y
 yB:M.ED L.n E
 AY:M.KS R.sz L.n E Y
structure row.Both {σ:Type} (R:SR σ) (P:M.Plain σ) (L:Lt) (S:Nat→Prop) (E:aK σ) (Y:aP) (w:World):Prop where
 re:RE R L S E w
 inv:M.Inv P L.n L.cap E Y
 yB:M.ED L.n E
 AY:M.KS R.sz L.n E Y
def int.Both.uF:Prop:=∀ {σ:Type} {R:SR σ} {P:M.Plain σ} {L:Lt} {S:Nat→Prop} {E:aK σ} {Y:aP} {w:World} {t:Nat} (_h:Both R P L S E Y w) (_ht:t<L.n),(E.th t).phase=0↔(Y.th t).part=0
def list.Both.uF:Prop:=∀ {σ:Type} {R:SR σ} {P:M.Plain σ} {L:Lt} {S:Nat→Prop} {E:aK σ} {Y:aP} {w:World} {t:Nat} (_h:Both R P L S E Y w) (_ht:t<L.n),(E.th t).phase=0↔(Y.th t).part=0
def tree.Both.uF:Prop:=∀ {σ:Type} {R:SR σ} {P:M.Plain σ} {L:Lt} {S:Nat→Prop} {E:aK σ} {Y:aP} {w:World} {t:Nat} (_h:Both R P L S E Y w) (_ht:t<L.n),(E.th t).phase=0↔(Y.th t).part=0
theorem uG:int.Both.uF∧list.Both.uF∧tree.Both.uF:=by
 refine ⟨?_,?_,?_⟩<;>intro σ R P L S E Y w t h ht
 all_goals
  obtain ⟨pb,nf,-,-,T⟩:=h.inv
  have X:=T t ht
  have XW:=X.p1
  constructor
  ·intro q
   by_cases c:(Y.th t).part=11
   ·have:=X.p4 c;omega
   ·have:=X.p2 (by omega);omega
  ·intro q
   have:=X.p2 (by omega)
   omega
theorem int.Both.idle:uF:=uG.1
theorem list.Both.idle:uF:=uG.2.1
theorem tree.Both.idle:uF:=uG.2.2
theorem row.Both.idle {σ:Type} {R:SR σ} {P:M.Plain σ} {L:Lt} {S:Nat→Prop} {E:aK σ} {Y:aP} {w:World} {t:Nat} (h:Both R P L S E Y w) (ht:t<L.n):(E.th t).phase=0↔(Y.th t).part=0:=by
 obtain ⟨pb,nf,-,-,T⟩:=h.inv
 have X:=T t ht
 have XW:=X.p1
 constructor
 ·intro q
  by_cases c:(Y.th t).part=11
  ·have:=X.p4 c;omega
  ·have:=X.p2 (by omega);omega
 ·intro q
  have:=X.p2 (by omega)
  omega
theorem int.Both.phase {σ:Type} {R:SR σ} {P:M.Plain σ} {L:Lt} {S:Nat→Prop} {E:aK σ} {Y:aP} {w:World} {t:Nat} (h:Both R P L S E Y w) (ht:t<L.n):(E.th t).phase≤13:=by
 obtain ⟨pb,nf,-,-,T⟩:=h.inv
 have X:=T t ht
 have XW:=X.p1
 by_cases c:(Y.th t).part=11
 ·have:=X.p4 c;omega
 ·have:=X.p2 (by omega);omega
theorem list.Both.phase {σ:Type} {R:SR σ} {P:M.Plain σ} {L:Lt} {S:Nat→Prop} {E:aK σ} {Y:aP} {w:World} {t:Nat} (h:Both R P L S E Y w) (ht:t<L.n):(E.th t).phase≤13:=by
 obtain ⟨pb,nf,-,-,T⟩:=h.inv
 have X:=T t ht
 have XW:=X.p1
 by_cases c:(Y.th t).part=11
 ·have:=X.p4 c;omega
 ·have:=X.p2 (by omega);omega
theorem tree.Both.phase {σ:Type} {R:SR σ} {P:M.Plain σ} {L:Lt} {S:Nat→Prop} {E:aK σ} {Y:aP} {w:World} {t:Nat} (h:Both R P L S E Y w) (ht:t<L.n):(E.th t).phase≤13:=by
 obtain ⟨pb,nf,-,-,T⟩:=h.inv
 have X:=T t ht
 have XW:=X.p1
 by_cases c:(Y.th t).part=11
 ·have:=X.p4 c;omega
 ·have:=X.p2 (by omega);omega
theorem row.Both.phase {σ:Type} {R:SR σ} {P:M.Plain σ} {L:Lt} {S:Nat→Prop} {E:aK σ} {Y:aP} {w:World} {t:Nat} (h:Both R P L S E Y w) (ht:t<L.n):(E.th t).phase≤13:=by
 obtain ⟨pb,nf,-,-,T⟩:=h.inv
 have X:=T t ht
 have XW:=X.p1
 by_cases c:(Y.th t).part=11
 ·have:=X.p4 c;omega
 ·have:=X.p2 (by omega);omega
theorem int.Both.cZ {σ:Type} {R:SR σ} {P:M.Plain σ} {L:Lt} {S:Nat→Prop} {E:aK σ} {Y:aP} {w:World} (h:Both R P L S E Y w):E.cZ=Y.bs.length:=by obtain ⟨pb,nf,q,-,-⟩:=h.inv;exact q
theorem list.Both.cZ {σ:Type} {R:SR σ} {P:M.Plain σ} {L:Lt} {S:Nat→Prop} {E:aK σ} {Y:aP} {w:World} (h:Both R P L S E Y w):E.cZ=Y.bs.length:=by obtain ⟨pb,nf,q,-,-⟩:=h.inv;exact q
theorem tree.Both.cZ {σ:Type} {R:SR σ} {P:M.Plain σ} {L:Lt} {S:Nat→Prop} {E:aK σ} {Y:aP} {w:World} (h:Both R P L S E Y w):E.cZ=Y.bs.length:=by obtain ⟨pb,nf,q,-,-⟩:=h.inv;exact q
theorem row.Both.cZ {σ:Type} {R:SR σ} {P:M.Plain σ} {L:Lt} {S:Nat→Prop} {E:aK σ} {Y:aP} {w:World} (h:Both R P L S E Y w):E.cZ=Y.bs.length:=by obtain ⟨pb,nf,q,-,-⟩:=h.inv;exact q
theorem int.Both.can {σ:Type} {R:SR σ} {P:M.Plain σ} {L:Lt} {S:Nat→Prop} {E:aK σ} {Y:aP} {w:World} {t:Nat} (h:Both R P L S E Y w) (ht:t<L.n) (hN:Y.bs.length≤1000000000):cC L E t :=
 cC.of h.re.ok.n64 h.re.ok.VQ h.inv h.yB (by rw [h.cZ];exact hN) ht
theorem list.Both.can {σ:Type} {R:SR σ} {P:M.Plain σ} {L:Lt} {S:Nat→Prop} {E:aK σ} {Y:aP} {w:World} {t:Nat} (h:Both R P L S E Y w) (ht:t<L.n) (hN:Y.bs.length≤1000000000):cC L E t :=
 cC.of h.re.ok.n64 h.re.ok.VQ h.inv h.yB (by rw [h.cZ];exact hN) ht
theorem tree.Both.can {σ:Type} {R:SR σ} {P:M.Plain σ} {L:Lt} {S:Nat→Prop} {E:aK σ} {Y:aP} {w:World} {t:Nat} (h:Both R P L S E Y w) (ht:t<L.n) (hN:Y.bs.length≤1000000000):cC L E t :=
 cC.of h.re.ok.n64 h.re.ok.VQ h.inv h.yB (by rw [h.cZ];exact hN) ht
theorem row.Both.can {σ:Type} {R:SR σ} {P:M.Plain σ} {L:Lt} {S:Nat→Prop} {E:aK σ} {Y:aP} {w:World} {t:Nat} (h:Both R P L S E Y w) (ht:t<L.n) (hN:Y.bs.length≤1000000000):cC L E t :=
 cC.of h.re.ok.n64 h.re.ok.VQ h.inv h.yB (by rw [h.cZ];exact hN) ht
theorem int.Both.sz8 {σ:Type} {R:SR σ} {P:M.Plain σ} {L:Lt} {S:Nat→Prop} {E:aK σ} {Y:aP} {w:World} {t:Nat} (h:Both R P L S E Y w) (ht:t<L.n) (hN:Y.bs.length≤1000000000) (hF:Y.bs.flatten.length≤100000000000):(E.th t).phase=8→∀ v,(E.th t).now=some v→R.sz v.st≤1000000000000:=fun p8=>by
 obtain ⟨-,h1,h2,-⟩:=(h.can ht hN).p8 p8
 exact h.AY.bound ht hF (by omega) p8
theorem list.Both.sz8 {σ:Type} {R:SR σ} {P:M.Plain σ} {L:Lt} {S:Nat→Prop} {E:aK σ} {Y:aP} {w:World} {t:Nat} (h:Both R P L S E Y w) (ht:t<L.n) (hN:Y.bs.length≤1000000000) (hF:Y.bs.flatten.length≤100000000000):(E.th t).phase=8→∀ v,(E.th t).now=some v→R.sz v.st≤1000000000000:=fun p8=>by
 obtain ⟨-,h1,h2,-⟩:=(h.can ht hN).p8 p8
 exact h.AY.bound ht hF (by omega) p8
theorem tree.Both.sz8 {σ:Type} {R:SR σ} {P:M.Plain σ} {L:Lt} {S:Nat→Prop} {E:aK σ} {Y:aP} {w:World} {t:Nat} (h:Both R P L S E Y w) (ht:t<L.n) (hN:Y.bs.length≤1000000000) (hF:Y.bs.flatten.length≤100000000000):(E.th t).phase=8→∀ v,(E.th t).now=some v→R.sz v.st≤1000000000000:=fun p8=>by
 obtain ⟨-,h1,h2,-⟩:=(h.can ht hN).p8 p8
 exact h.AY.bound ht hF (by omega) p8
theorem row.Both.sz8 {σ:Type} {R:SR σ} {P:M.Plain σ} {L:Lt} {S:Nat→Prop} {E:aK σ} {Y:aP} {w:World} {t:Nat} (h:Both R P L S E Y w) (ht:t<L.n) (hN:Y.bs.length≤1000000000) (hF:Y.bs.flatten.length≤100000000000):(E.th t).phase=8→∀ v,(E.th t).now=some v→R.sz v.st≤1000000000000:=fun p8=>by
 obtain ⟨-,h1,h2,-⟩:=(h.can ht hN).p8 p8
 exact h.AY.bound ht hF (by omega) p8
theorem int.Both.spare {σ:Type} {R:SR σ} {P:M.Plain σ} {L:Lt} {S:Nat→Prop} {E:aK σ} {Y:aP} {w:World} {t:Nat} (h:Both R P L S E Y w) (ht:t<L.n):(E.th t).spare<2*L.n+1:=by
 obtain ⟨pb,nf,-,-,T⟩:=h.inv
 rcases (T t ht).sp with q|q<;>omega
theorem list.Both.spare {σ:Type} {R:SR σ} {P:M.Plain σ} {L:Lt} {S:Nat→Prop} {E:aK σ} {Y:aP} {w:World} {t:Nat} (h:Both R P L S E Y w) (ht:t<L.n):(E.th t).spare<2*L.n+1:=by
 obtain ⟨pb,nf,-,-,T⟩:=h.inv
 rcases (T t ht).sp with q|q<;>omega
theorem tree.Both.spare {σ:Type} {R:SR σ} {P:M.Plain σ} {L:Lt} {S:Nat→Prop} {E:aK σ} {Y:aP} {w:World} {t:Nat} (h:Both R P L S E Y w) (ht:t<L.n):(E.th t).spare<2*L.n+1:=by
 obtain ⟨pb,nf,-,-,T⟩:=h.inv
 rcases (T t ht).sp with q|q<;>omega
theorem row.Both.spare {σ:Type} {R:SR σ} {P:M.Plain σ} {L:Lt} {S:Nat→Prop} {E:aK σ} {Y:aP} {w:World} {t:Nat} (h:Both R P L S E Y w) (ht:t<L.n):(E.th t).spare<2*L.n+1:=by
 obtain ⟨pb,nf,-,-,T⟩:=h.inv
 rcases (T t ht).sp with q|q<;>omega
structure int.Goes {σ:Type} (R:SR σ) (P:M.Plain σ) (L:Lt) (S:Nat→Prop) (w:World) (Y':aP) (w':World):Prop where
 ex:∃ E',Both R P L (grown S w w') E' Y' w'
 fr:Fr L.own w w'
structure list.Goes {σ:Type} (R:SR σ) (P:M.Plain σ) (L:Lt) (S:Nat→Prop) (w:World) (Y':aP) (w':World):Prop where
 ex:∃ E',Both R P L (grown S w w') E' Y' w'
 fr:Fr L.own w w'
structure tree.Goes {σ:Type} (R:SR σ) (P:M.Plain σ) (L:Lt) (S:Nat→Prop) (w:World) (Y':aP) (w':World):Prop where
 ex:∃ E',Both R P L (grown S w w') E' Y' w'
 fr:Fr L.own w w'
structure row.Goes {σ:Type} (R:SR σ) (P:M.Plain σ) (L:Lt) (S:Nat→Prop) (w:World) (Y':aP) (w':World):Prop where
 ex:∃ E',Both R P L (grown S w w') E' Y' w'
 fr:Fr L.own w w'
theorem int.Goes.left {σ:Type} {R:SR σ} {P:M.Plain σ} {L:Lt} {S:Nat→Prop} {w:World} {E':aK σ} {Y':aP} {w':World} (h:aF R L S w E' w') (hi:M.Inv P L.n L.cap E' Y') (hb:M.ED L.n E') (hz:M.KS R.sz L.n E' Y'):Goes R P L S w Y' w':=⟨⟨E',h.re,hi,hb,hz⟩,h.fr⟩
theorem list.Goes.left {σ:Type} {R:SR σ} {P:M.Plain σ} {L:Lt} {S:Nat→Prop} {w:World} {E':aK σ} {Y':aP} {w':World} (h:aF R L S w E' w') (hi:M.Inv P L.n L.cap E' Y') (hb:M.ED L.n E') (hz:M.KS R.sz L.n E' Y'):Goes R P L S w Y' w':=⟨⟨E',h.re,hi,hb,hz⟩,h.fr⟩
theorem tree.Goes.left {σ:Type} {R:SR σ} {P:M.Plain σ} {L:Lt} {S:Nat→Prop} {w:World} {E':aK σ} {Y':aP} {w':World} (h:aF R L S w E' w') (hi:M.Inv P L.n L.cap E' Y') (hb:M.ED L.n E') (hz:M.KS R.sz L.n E' Y'):Goes R P L S w Y' w':=⟨⟨E',h.re,hi,hb,hz⟩,h.fr⟩
theorem row.Goes.left {σ:Type} {R:SR σ} {P:M.Plain σ} {L:Lt} {S:Nat→Prop} {w:World} {E':aK σ} {Y':aP} {w':World} (h:aF R L S w E' w') (hi:M.Inv P L.n L.cap E' Y') (hb:M.ED L.n E') (hz:M.KS R.sz L.n E' Y'):Goes R P L S w Y' w':=⟨⟨E',h.re,hi,hb,hz⟩,h.fr⟩
theorem int.Both.below {σ:Type} {R:SR σ} {P:M.Plain σ} {L:Lt} {S:Nat→Prop} {E:aK σ} {Y:aP} {w:World} (h:Both R P L S E Y w) {w':World} (hb:Below w.heap.size w w'):Goes R P L S w Y w':=Goes.left (aF.below h.re hb) h.inv h.yB h.AY
theorem list.Both.below {σ:Type} {R:SR σ} {P:M.Plain σ} {L:Lt} {S:Nat→Prop} {E:aK σ} {Y:aP} {w:World} (h:Both R P L S E Y w) {w':World} (hb:Below w.heap.size w w'):Goes R P L S w Y w':=Goes.left (aF.below h.re hb) h.inv h.yB h.AY
theorem tree.Both.below {σ:Type} {R:SR σ} {P:M.Plain σ} {L:Lt} {S:Nat→Prop} {E:aK σ} {Y:aP} {w:World} (h:Both R P L S E Y w) {w':World} (hb:Below w.heap.size w w'):Goes R P L S w Y w':=Goes.left (aF.below h.re hb) h.inv h.yB h.AY
theorem row.Both.below {σ:Type} {R:SR σ} {P:M.Plain σ} {L:Lt} {S:Nat→Prop} {E:aK σ} {Y:aP} {w:World} (h:Both R P L S E Y w) {w':World} (hb:Below w.heap.size w w'):Goes R P L S w Y w':=Goes.left (aF.below h.re hb) h.inv h.yB h.AY
def int.iG:Prop:=∀ {σ:Type} {R:SR σ} {P:M.Plain σ} {L:Lt} {S:Nat→Prop} {E:aK σ} {Y:aP} {w:World} (_h:Both R P L S E Y w) (o:M.Op),(∀ x:Int,¬(0≤x∧x<L.n)→Calls Tryz.prog 190 #[.pointer (some ⟨L.bE,0,none⟩),.int .i64 x,.agg #[.int .i64 o.c,.int .i64 o.a,.int .i64 o.b]] w fun e w'=>e = .returned (.int .i64 3)∧Goes R P L S w Y w')
  ∧ ∀ t,t<L.n→Calls Tryz.prog 190 #[.pointer (some ⟨L.bE,0,none⟩),.int .i64 (t:Int),.agg #[.int .i64 o.c,.int .i64 o.a,.int .i64 o.b]] w fun e w'=>e = .returned (.int .i64 (if (Y.th t).part=0 then 0 else 4))∧Goes R P L S w (if (Y.th t).part=0 then M.bG Y t o else Y) w'
def list.iG:Prop:=∀ {σ:Type} {R:SR σ} {P:M.Plain σ} {L:Lt} {S:Nat→Prop} {E:aK σ} {Y:aP} {w:World} (_h:Both R P L S E Y w) (o:M.Op),(∀ x:Int,¬(0≤x∧x<L.n)→Calls Tryz.prog 250 #[.pointer (some ⟨L.bE,0,none⟩),.int .i64 x,.agg #[.int .i64 o.c,.int .i64 o.a,.int .i64 o.b]] w fun e w'=>e = .returned (.int .i64 3)∧Goes R P L S w Y w')
  ∧ ∀ t,t<L.n→Calls Tryz.prog 250 #[.pointer (some ⟨L.bE,0,none⟩),.int .i64 (t:Int),.agg #[.int .i64 o.c,.int .i64 o.a,.int .i64 o.b]] w fun e w'=>e = .returned (.int .i64 (if (Y.th t).part=0 then 0 else 4))∧Goes R P L S w (if (Y.th t).part=0 then M.bG Y t o else Y) w'
def tree.iG:Prop:=∀ {σ:Type} {R:SR σ} {P:M.Plain σ} {L:Lt} {S:Nat→Prop} {E:aK σ} {Y:aP} {w:World} (_h:Both R P L S E Y w) (o:M.Op),(∀ x:Int,¬(0≤x∧x<L.n)→Calls Tryz.prog 324 #[.pointer (some ⟨L.bE,0,none⟩),.int .i64 x,.agg #[.int .i64 o.c,.int .i64 o.a,.int .i64 o.b]] w fun e w'=>e = .returned (.int .i64 3)∧Goes R P L S w Y w')
  ∧ ∀ t,t<L.n→Calls Tryz.prog 324 #[.pointer (some ⟨L.bE,0,none⟩),.int .i64 (t:Int),.agg #[.int .i64 o.c,.int .i64 o.a,.int .i64 o.b]] w fun e w'=>e = .returned (.int .i64 (if (Y.th t).part=0 then 0 else 4))∧Goes R P L S w (if (Y.th t).part=0 then M.bG Y t o else Y) w'
def row.iG:Prop:=∀ {σ:Type} {R:SR σ} {P:M.Plain σ} {L:Lt} {S:Nat→Prop} {E:aK σ} {Y:aP} {w:World} (_h:Both R P L S E Y w) (o:M.Op),(∀ x:Int,¬(0≤x∧x<L.n)→Calls Tryz.prog 287 #[.pointer (some ⟨L.bE,0,none⟩),.int .i64 x,.agg #[.int .i64 o.c,.int .i64 o.a,.int .i64 o.b]] w fun e w'=>e = .returned (.int .i64 3)∧Goes R P L S w Y w')
  ∧ ∀ t,t<L.n→Calls Tryz.prog 287 #[.pointer (some ⟨L.bE,0,none⟩),.int .i64 (t:Int),.agg #[.int .i64 o.c,.int .i64 o.a,.int .i64 o.b]] w fun e w'=>e = .returned (.int .i64 (if (Y.th t).part=0 then 0 else 4))∧Goes R P L S w (if (Y.th t).part=0 then M.bG Y t o else Y) w'
open row in
theorem vF:int.iG∧list.iG∧tree.iG∧row.iG:=by
 refine ⟨?_,?_,?_,?_⟩<;>intro σ R P L S E Y w h o
 all_goals
  refine ⟨fun x hx=>?_,fun t ht=>?_⟩
  ·refine (vC h.re x hx o).mono ?_
   rintro e w' ⟨rfl,hl⟩
   exact ⟨rfl,Goes.left hl h.inv h.yB h.AY⟩
  ·by_cases q:(Y.th t).part=0
   ·simp only [if_pos q]
    refine (sS h.re ht ((h.idle ht).mpr q) o).mono ?_
    rintro e w' ⟨rfl,hl⟩
    exact ⟨rfl,Goes.left hl (M.FD h.inv ht q o) (h.yB.begin ht o) (h.AY.begin o)⟩
   ·simp only [if_neg q]
    refine (sR h.re ht (fun c=>q ((h.idle ht).mp c)) o).mono ?_
    rintro e w' ⟨rfl,hl⟩
    exact ⟨rfl,Goes.left hl h.inv h.yB h.AY⟩
theorem int.qT:iG:=vF.1
theorem list.qT:iG:=vF.2.1
theorem tree.qT:iG:=vF.2.2.1
theorem row.qT:iG:=vF.2.2.2
def int.jV:Prop:=∀ {σ:Type} {R:SR σ} {P:M.Plain σ} {L:Lt} {S:Nat→Prop} {E:aK σ} {Y:aP} {w:World} {fA:Nat} {rv:Value} (_hA:bO R P L fA rv) (_h:Both R P L S E Y w) (_hN:Y.bs.length≤1000000000) (_hF:Y.bs.flatten.length≤100000000000),(∀ x:Int,¬(0≤x∧x<L.n)→Calls Tryz.prog 195 #[.pointer (some ⟨L.bE,0,none⟩),.int .i64 x] w fun e w'=>e = .returned (.tuple #[.int .i64 0,.int .i64 3])∧Goes R P L S w Y w')
  ∧ (∀ t,t<L.n→(Y.th t).part=0→Calls Tryz.prog 195 #[.pointer (some ⟨L.bE,0,none⟩),.int .i64 (t:Int)] w fun e w'=>e = .returned (.tuple #[.int .i64 0,.int .i64 5])∧Goes R P L S w Y w')
  ∧ ∀ t,t<L.n→(Y.th t).part≠0→Calls Tryz.prog 195 #[.pointer (some ⟨L.bE,0,none⟩),.int .i64 (t:Int)] w fun e w'=>e = .returned (.tuple #[.int .i64 (if (M.bD L.n L.cap Y t).2=true then 2 else 1),.int .i64 0])∧Goes R P L S w (M.bD L.n L.cap Y t).1 w'
def list.jV:Prop:=∀ {σ:Type} {R:SR σ} {P:M.Plain σ} {L:Lt} {S:Nat→Prop} {E:aK σ} {Y:aP} {w:World} {fA:Nat} {rv:Value} (_hA:bO R P L fA rv) (_h:Both R P L S E Y w) (_hN:Y.bs.length≤1000000000) (_hF:Y.bs.flatten.length≤100000000000),(∀ x:Int,¬(0≤x∧x<L.n)→Calls Tryz.prog 255 #[.pointer (some ⟨L.bE,0,none⟩),.int .i64 x] w fun e w'=>e = .returned (.tuple #[.int .i64 0,.int .i64 3])∧Goes R P L S w Y w')
  ∧ (∀ t,t<L.n→(Y.th t).part=0→Calls Tryz.prog 255 #[.pointer (some ⟨L.bE,0,none⟩),.int .i64 (t:Int)] w fun e w'=>e = .returned (.tuple #[.int .i64 0,.int .i64 5])∧Goes R P L S w Y w')
  ∧ ∀ t,t<L.n→(Y.th t).part≠0→Calls Tryz.prog 255 #[.pointer (some ⟨L.bE,0,none⟩),.int .i64 (t:Int)] w fun e w'=>e = .returned (.tuple #[.int .i64 (if (M.bD L.n L.cap Y t).2=true then 2 else 1),.int .i64 0])∧Goes R P L S w (M.bD L.n L.cap Y t).1 w'
def tree.jV:Prop:=∀ {σ:Type} {R:SR σ} {P:M.Plain σ} {L:Lt} {S:Nat→Prop} {E:aK σ} {Y:aP} {w:World} {fA:Nat} {rv:Value} (_hA:bO R P L fA rv) (_h:Both R P L S E Y w) (_hN:Y.bs.length≤1000000000) (_hF:Y.bs.flatten.length≤100000000000),(∀ x:Int,¬(0≤x∧x<L.n)→Calls Tryz.prog 329 #[.pointer (some ⟨L.bE,0,none⟩),.int .i64 x] w fun e w'=>e = .returned (.tuple #[.int .i64 0,.int .i64 3])∧Goes R P L S w Y w')
  ∧ (∀ t,t<L.n→(Y.th t).part=0→Calls Tryz.prog 329 #[.pointer (some ⟨L.bE,0,none⟩),.int .i64 (t:Int)] w fun e w'=>e = .returned (.tuple #[.int .i64 0,.int .i64 5])∧Goes R P L S w Y w')
  ∧ ∀ t,t<L.n→(Y.th t).part≠0→Calls Tryz.prog 329 #[.pointer (some ⟨L.bE,0,none⟩),.int .i64 (t:Int)] w fun e w'=>e = .returned (.tuple #[.int .i64 (if (M.bD L.n L.cap Y t).2=true then 2 else 1),.int .i64 0])∧Goes R P L S w (M.bD L.n L.cap Y t).1 w'
def row.jV:Prop:=∀ {σ:Type} {R:SR σ} {P:M.Plain σ} {L:Lt} {S:Nat→Prop} {E:aK σ} {Y:aP} {w:World} {fA:Nat} {rv:Value} (_hA:bO R P L fA rv) (_h:Both R P L S E Y w) (_hN:Y.bs.length≤1000000000) (_hF:Y.bs.flatten.length≤100000000000),(∀ x:Int,¬(0≤x∧x<L.n)→Calls Tryz.prog 292 #[.pointer (some ⟨L.bE,0,none⟩),.int .i64 x] w fun e w'=>e = .returned (.tuple #[.int .i64 0,.int .i64 3])∧Goes R P L S w Y w')
  ∧ (∀ t,t<L.n→(Y.th t).part=0→Calls Tryz.prog 292 #[.pointer (some ⟨L.bE,0,none⟩),.int .i64 (t:Int)] w fun e w'=>e = .returned (.tuple #[.int .i64 0,.int .i64 5])∧Goes R P L S w Y w')
  ∧ ∀ t,t<L.n→(Y.th t).part≠0→Calls Tryz.prog 292 #[.pointer (some ⟨L.bE,0,none⟩),.int .i64 (t:Int)] w fun e w'=>e = .returned (.tuple #[.int .i64 (if (M.bD L.n L.cap Y t).2=true then 2 else 1),.int .i64 0])∧Goes R P L S w (M.bD L.n L.cap Y t).1 w'
open row in
theorem xT:int.jV∧list.jV∧tree.jV∧row.jV:=by
 refine ⟨?_,?_,?_,?_⟩<;>intro σ R P L S E Y w fA rv hA h hN hF
 all_goals
  refine ⟨fun x hx=>?_,fun t ht hp=>?_,fun t ht hp=>?_⟩
  ·refine (xS h.re x hx).mono ?_
   rintro e w' ⟨rfl,rfl⟩
   exact ⟨rfl,h.below (Below.refl _ _)⟩
  ·refine (vD h.re ht ((h.idle ht).mpr hp)).mono ?_
   rintro e w' ⟨rfl,rfl⟩
   exact ⟨rfl,h.below (Below.refl _ _)⟩
  ·have cF:1≤(E.th t).phase:=by have:=mt (h.idle ht).mp hp;omega
   obtain ⟨s1,s2⟩:=M.wT (Nat.lt_of_lt_of_le (by decide) h.re.ok.n1) h.inv ht hp
   refine (vE hA h.re ht (h.can ht hN) (h.sz8 ht hN hF) cF (h.phase ht)).mono ?_
   rintro e w' ⟨rfl,hl⟩
   have hB:Both R P L (grown S w w') (M.step P L.n L.cap E t) (M.bD L.n L.cap Y t).1 w':=⟨hl.re,s1,h.yB.step ht (h.spare ht),h.AY.step hA.z h.inv ht⟩
   refine ⟨?_,⟨_,hB⟩,hl.fr⟩
   rw [s2]
   have:=hB.idle ht
   by_cases q:((M.bD L.n L.cap Y t).1.th t).part=0
   ·rw [if_pos (this.mpr q),if_pos (by simpa using q)]
   ·rw [if_neg (fun c=>q (this.mp c)),if_neg (by simpa using q)]
theorem int.yR:jV:=xT.1
theorem list.yR:jV:=xT.2.1
theorem tree.yR:jV:=xT.2.2.1
theorem row.yR:jV:=xT.2.2.2
def int.uH {σ:Type} (P:M.Plain σ) (Y:aP) (t:Nat):M.TF:=(M.replay P (fun k i=>((Y.th k).ops).getD i ⟨0,0,0⟩) Y.bs).an t
def int.fQ:Prop:=∀ {σ:Type} {R:SR σ} {P:M.Plain σ} {L:Lt} {S:Nat→Prop} {E:aK σ} {Y:aP} {w:World} (_h:Both R P L S E Y w),(∀ x:Int,¬(0≤x∧x<L.n)→Calls Tryz.prog 189 #[.pointer (some ⟨L.bE,0,none⟩),.int .i64 x] w fun e w'=>e = .returned (.tuple #[.agg #[.int .i64 0,.int .i64 0],.int .i64 3])∧Below w.heap.size w w')
  ∧ ∀ t,t<L.n→Calls Tryz.prog 189 #[.pointer (some ⟨L.bE,0,none⟩),.int .i64 (t:Int)] w fun e w'=>e = .returned (if (Y.th t).part≠0 then .tuple #[.agg #[.int .i64 0,.int .i64 0],.int .i64 4] else if (Y.th t).ended=0 then .tuple #[.agg #[.int .i64 0,.int .i64 0],.int .i64 5] else .tuple #[.agg #[.int .i64 (uH P Y t).s,.int .i64 (uH P Y t).v],.int .i64 0])∧Below w.heap.size w w'
def list.fQ:Prop:=∀ {σ:Type} {R:SR σ} {P:M.Plain σ} {L:Lt} {S:Nat→Prop} {E:aK σ} {Y:aP} {w:World} (_h:Both R P L S E Y w),(∀ x:Int,¬(0≤x∧x<L.n)→Calls Tryz.prog 249 #[.pointer (some ⟨L.bE,0,none⟩),.int .i64 x] w fun e w'=>e = .returned (.tuple #[.agg #[.int .i64 0,.int .i64 0],.int .i64 3])∧Below w.heap.size w w')
  ∧ ∀ t,t<L.n→Calls Tryz.prog 249 #[.pointer (some ⟨L.bE,0,none⟩),.int .i64 (t:Int)] w fun e w'=>e = .returned (if (Y.th t).part≠0 then .tuple #[.agg #[.int .i64 0,.int .i64 0],.int .i64 4] else if (Y.th t).ended=0 then .tuple #[.agg #[.int .i64 0,.int .i64 0],.int .i64 5] else .tuple #[.agg #[.int .i64 (uH P Y t).s,.int .i64 (uH P Y t).v],.int .i64 0])∧Below w.heap.size w w'
def tree.fQ:Prop:=∀ {σ:Type} {R:SR σ} {P:M.Plain σ} {L:Lt} {S:Nat→Prop} {E:aK σ} {Y:aP} {w:World} (_h:Both R P L S E Y w),(∀ x:Int,¬(0≤x∧x<L.n)→Calls Tryz.prog 323 #[.pointer (some ⟨L.bE,0,none⟩),.int .i64 x] w fun e w'=>e = .returned (.tuple #[.agg #[.int .i64 0,.int .i64 0],.int .i64 3])∧Below w.heap.size w w')
  ∧ ∀ t,t<L.n→Calls Tryz.prog 323 #[.pointer (some ⟨L.bE,0,none⟩),.int .i64 (t:Int)] w fun e w'=>e = .returned (if (Y.th t).part≠0 then .tuple #[.agg #[.int .i64 0,.int .i64 0],.int .i64 4] else if (Y.th t).ended=0 then .tuple #[.agg #[.int .i64 0,.int .i64 0],.int .i64 5] else .tuple #[.agg #[.int .i64 (uH P Y t).s,.int .i64 (uH P Y t).v],.int .i64 0])∧Below w.heap.size w w'
def row.fQ:Prop:=∀ {σ:Type} {R:SR σ} {P:M.Plain σ} {L:Lt} {S:Nat→Prop} {E:aK σ} {Y:aP} {w:World} (_h:Both R P L S E Y w),(∀ x:Int,¬(0≤x∧x<L.n)→Calls Tryz.prog 286 #[.pointer (some ⟨L.bE,0,none⟩),.int .i64 x] w fun e w'=>e = .returned (.tuple #[.agg #[.int .i64 0,.int .i64 0],.int .i64 3])∧Below w.heap.size w w')
  ∧ ∀ t,t<L.n→Calls Tryz.prog 286 #[.pointer (some ⟨L.bE,0,none⟩),.int .i64 (t:Int)] w fun e w'=>e = .returned (if (Y.th t).part≠0 then .tuple #[.agg #[.int .i64 0,.int .i64 0],.int .i64 4] else if (Y.th t).ended=0 then .tuple #[.agg #[.int .i64 0,.int .i64 0],.int .i64 5] else .tuple #[.agg #[.int .i64 (uH P Y t).s,.int .i64 (uH P Y t).v],.int .i64 0])∧Below w.heap.size w w'
open row in
theorem sW:int.fQ∧list.fQ∧tree.fQ∧row.fQ:=by
 refine ⟨?_,?_,?_,?_⟩<;>intro σ R P L S E Y w h
 all_goals
  refine ⟨fun x hx=>sV h.re x hx,fun t ht=>?_⟩
  have hi:=h.idle ht
  obtain ⟨pb,nf,-,-,T⟩:=h.inv
  have X:=T t ht
  by_cases q:(Y.th t).part=0
  ·rw [if_neg (by simpa using q)]
   by_cases c:(Y.th t).ended=0
   ·rw [if_pos c]
    exact qQ h.re ht (hi.mpr q) (by rw [X.en];simp [c])
   ·rw [if_neg c]
    obtain ⟨a1,a2⟩:=X.a0 q (by omega)
    have e1:(E.th t).yA=(uH P Y t).s:=a1
    have e2:(E.th t).val=(uH P Y t).v:=a2
    have:=qR h.re ht (hi.mpr q) (by rw [X.en];simp;omega)
    rw [e1,e2] at this
    exact this
  ·rw [if_pos q]
   exact qP h.re ht (fun c=>q (hi.mp c))
theorem int.rV:fQ:=sW.1
theorem list.rV:fQ:=sW.2.1
theorem tree.rV:fQ:=sW.2.2.1
theorem row.rV:fQ:=sW.2.2.2
end Go.Proofs.YtefjhnhdagolhaaGreat
