import Derived.Test.YtefjhnhdagolhaaGreatQ23
import Derived.Test.YtefjhnhdagolhaaGreatQ14
import Derived.Test.YtefjhnhdagolhaaGreatQ04
import Derived.Test.YtefjhnhdagolhaaGreatQ06
import Derived.Test.YtefjhnhdagolhaaGreatQ03
namespace Go.Proofs.YtefjhnhdagolhaaGreat.list
open Go.RowKit
open M (aI aC aD dA aS cA aR aT aO aG aJ)
attribute [local go_sem ↓] Go.wp_at_zero Go.wp_at_succ
section
variable {σ:Type} {R:SR σ} {L:Lt} {S:Nat→Prop} {E:cA σ} {w:World} {t:Nat}
set_option maxRecDepth 20000 in
set_option maxHeartbeats 1000000 in
theorem tX (h:RE R L S E w) (x:Int) (hx:¬(0≤x∧x<L.n)) (o:M.Op) :
  Calls Tryz.prog 250 #[.pointer (some ⟨L.bE,0,none⟩),.int .i64 x,.agg #[.int .i64 o.c,.int .i64 o.a,.int .i64 o.b]] w fun e w'=>e = .returned (.int .i64 3)∧Left R L S w E w':=by
 have HH:=aA h
 have HX:=aA (show decide (0≤x∧x<(L.n:Int))=false by simpa using hx)
 clear h hx
 go_enter Tryz.func250,Tryz.ntmps250
 go_upto_region 1 with fail
 generalize gJ:World.alloc w _=W1
 have dU:Below w.heap.size w W1:=by rw [←gJ];exact aB w _
 have HL:=aA (Left.below HH.out dU)
 clear gJ dU
 go_wp2_with fail
 refine (gZ HL.out.re x).mono ?_
 rintro e w2 ⟨rfl,rfl⟩
 rw [HX.out]
 go_wp2
 go_ret
 exact ⟨rfl,HL.out⟩
set_option maxRecDepth 20000 in
set_option maxHeartbeats 1000000 in
theorem rJ (h:RE R L S E w) (ht:t<L.n) (hp:(E.th t).phase≠0) (o:M.Op) :
  Calls Tryz.prog 250 #[.pointer (some ⟨L.bE,0,none⟩),.int .i64 (t:Int),.agg #[.int .i64 o.c,.int .i64 o.a,.int .i64 o.b]] w fun e w'=>e = .returned (.int .i64 4)∧Left R L S w E w':=by
 have HH:=aA h
 have HX:=aA (show decide (0≤(t:Int)∧(t:Int)<(L.n:Int))=true by simp;omega)
 have HP:=aA (show decide ((E.th t).phase≠0)=true by simpa using hp)
 have ht':(t:Int)<(L.n:Int):=by omega
 clear h hp
 go_enter Tryz.func250,Tryz.ntmps250
 go_upto_region 1 with fail
 generalize gJ:World.alloc w _=W1
 have dU:Below w.heap.size w W1:=by rw [←gJ];exact aB w _
 have HL:=aA (Left.below HH.out dU)
 have c1:W1.cell? ⟨L.bE,1,none⟩=some (.slice (some ⟨L.g,0,none⟩) L.n L.gc):=HL.out.re.fL.cell_of rfl
 clear gJ dU
 go_wp2_with fail
 refine (gZ HL.out.re (t:Int)).mono ?_
 rintro e w2 ⟨rfl,rfl⟩
 rw [HX.out]
 go_wp2_with fail
 refine (fQ HL.out.re ht).mono ?_
 rintro e w3 ⟨rfl,rfl⟩
 rw [HP.out]
 go_wp2
 go_ret
 exact ⟨rfl,HL.out⟩
set_option maxRecDepth 20000 in
set_option maxHeartbeats 1000000 in
theorem rK (h:RE R L S E w) (ht:t<L.n) (hp:(E.th t).phase=0) (o:M.Op) :
  Calls Tryz.prog 250 #[.pointer (some ⟨L.bE,0,none⟩),.int .i64 (t:Int),.agg #[.int .i64 o.c,.int .i64 o.a,.int .i64 o.b]] w fun e w'=>e = .returned (.int .i64 0)∧Left R L S w (M.begin E t o) w':=by
 have HH:=aA h
 have HX:=aA (show decide (0≤(t:Int)∧(t:Int)<(L.n:Int))=true by simp;omega)
 have HP:=aA (show decide ((E.th t).phase≠0)=false by simpa using hp)
 have ht':(t:Int)<(L.n:Int):=by omega
 clear h hp
 go_enter Tryz.func250,Tryz.ntmps250
 go_upto_region 1 with fail
 generalize gJ:World.alloc w _=W1
 have dU:Below w.heap.size w W1:=by rw [←gJ];exact aB w _
 have hro:Row W1 w.heap.size 36 [.int .i64 o.c,.int .i64 o.a,.int .i64 o.b]:=by rw [←gJ];exact Row.new w [_,_,_] _
 have o0:W1.cell? ⟨w.heap.size,0,none⟩=some (.int .i64 o.c):=hro.cell_of rfl
 have o1:W1.cell? ⟨w.heap.size,1,none⟩=some (.int .i64 o.a):=hro.cell_of rfl
 have o2:W1.cell? ⟨w.heap.size,2,none⟩=some (.int .i64 o.b):=hro.cell_of rfl
 have HL:=aA (Left.below HH.out dU)
 have c1:W1.cell? ⟨L.bE,1,none⟩=some (.slice (some ⟨L.g,0,none⟩) L.n L.gc):=HL.out.re.fL.cell_of rfl
 clear gJ dU hro
 go_wp2_with fail
 refine (gZ HL.out.re (t:Int)).mono ?_
 rintro e w2 ⟨rfl,rfl⟩
 rw [HX.out]
 go_wp2_with fail
 refine (fQ HL.out.re ht).mono ?_
 rintro e w3 ⟨rfl,rfl⟩
 rw [HP.out]
 go_upto_region 5 with fail
 have HB:=aA (DJ (HL.out.re.drew) ht o)
 go_region_with (go_at_call 258;refine HB.out.mono ?_;rintro e w4 ⟨rfl,hr⟩;have HR:=aA hr;clear hr)
 all_goals go_wp2
 all_goals go_ret
 all_goals exact ⟨rfl,HL.out.next ⟨HR.out.re,(Fr.refl _ _).drew.trans HR.out.fr⟩⟩
end
end Go.Proofs.YtefjhnhdagolhaaGreat.list
namespace Go.Proofs.YtefjhnhdagolhaaGreat.list
open Go.RowKit
open M (aI aC aD dA aS cA aR aT aO aG aJ)
attribute [local go_sem ↓] Go.wp_at_zero Go.wp_at_succ
section
variable {σ:Type} {R:SR σ} {L:Lt} {S:Nat→Prop} {E:cA σ} {w:World} {t:Nat}
set_option maxRecDepth 20000 in
set_option maxHeartbeats 1000000 in
theorem xS (h:RE R L S E w) (x:Int) (hx:¬(0≤x∧x<L.n)) :
  Calls Tryz.prog 255 #[.pointer (some ⟨L.bE,0,none⟩),.int .i64 x] w fun e w'=>e = .returned (.tuple #[.int .i64 0,.int .i64 3])∧w'=w:=by
 have HH:=aA h
 have HX:=aA (show decide (0≤x∧x<(L.n:Int))=false by simpa using hx)
 clear h hx
 go_enter Tryz.func255,Tryz.ntmps255
 go_wp2_with fail
 refine (gZ HH.out x).mono ?_
 rintro e w2 ⟨rfl,rfl⟩
 rw [HX.out]
 go_wp2
 refine bodyPost_ret (v:=.tuple #[.int .i64 0,.int .i64 3]) (by simp [results,Tryz.results255,go_sem]) rfl ⟨rfl,rfl⟩
set_option maxRecDepth 20000 in
set_option maxHeartbeats 1000000 in
theorem tY (h:RE R L S E w) (ht:t<L.n) (hp:(E.th t).phase=0) :
  Calls Tryz.prog 255 #[.pointer (some ⟨L.bE,0,none⟩),.int .i64 (t:Int)] w fun e w'=>e = .returned (.tuple #[.int .i64 0,.int .i64 5])∧w'=w:=by
 have HH:=aA h
 have HX:=aA (show decide (0≤(t:Int)∧(t:Int)<(L.n:Int))=true by simp;omega)
 have HP:=aA (show decide ((E.th t).phase≠0)=false by simpa using hp)
 have ht':(t:Int)<(L.n:Int):=by omega
 have c1:w.cell? ⟨L.bE,1,none⟩=some (.slice (some ⟨L.g,0,none⟩) L.n L.gc):=h.fL.cell_of rfl
 clear h hp
 go_enter Tryz.func255,Tryz.ntmps255
 go_wp2_with fail
 refine (gZ HH.out (t:Int)).mono ?_
 rintro e w2 ⟨rfl,rfl⟩
 rw [HX.out]
 go_wp2_with fail
 refine (fQ HH.out ht).mono ?_
 rintro e w3 ⟨rfl,rfl⟩
 rw [HP.out]
 go_wp2
 refine bodyPost_ret (v:=.tuple #[.int .i64 0,.int .i64 5]) (by simp [results,Tryz.results255,go_sem]) rfl ⟨rfl,rfl⟩
set_option maxRecDepth 20000 in
set_option maxHeartbeats 1000000 in
theorem tZ {P:M.Plain σ} {fA:Nat} {rv:Value} (hA:eV R P L fA rv) (h:RE R L S E w) (ht:t<L.n) (hC:Can L E t) (hZ:(E.th t).phase=8→∀ v,(E.th t).now=some v→R.sz v.st≤1000000000000) (h1:1≤(E.th t).phase) (JB:(E.th t).phase≤13) :
  Calls Tryz.prog 255 #[.pointer (some ⟨L.bE,0,none⟩),.int .i64 (t:Int)] w fun e w'=>e = .returned (.tuple #[.int .i64 (if ((M.step P L.n L.cap E t).th t).phase=0 then 2 else 1),.int .i64 0])∧Left R L S w (M.step P L.n L.cap E t) w':=by
 have HH:=aA h
 have HX:=aA (show decide (0≤(t:Int)∧(t:Int)<(L.n:Int))=true by simp;omega)
 have HP:=aA (show decide ((E.th t).phase≠0)=true by simp;omega)
 have HS:=aA (xR hA h ht hC hZ h1 JB)
 have ht':(t:Int)<(L.n:Int):=by omega
 have c1:w.cell? ⟨L.bE,1,none⟩=some (.slice (some ⟨L.g,0,none⟩) L.n L.gc):=h.fL.cell_of rfl
 clear h hA hC hZ h1 JB
 go_enter Tryz.func255,Tryz.ntmps255
 go_wp2_with fail
 refine (gZ HH.out (t:Int)).mono ?_
 rintro e w2 ⟨rfl,rfl⟩
 rw [HX.out]
 go_wp2_with fail
 refine (fQ HH.out ht).mono ?_
 rintro e w3 ⟨rfl,rfl⟩
 rw [HP.out]
 go_wp2_with fail
 refine HS.out.mono ?_
 rintro e w4 ⟨rfl,hr⟩
 have HR:=aA hr
 have d1:w4.cell? ⟨L.bE,1,none⟩=some (.slice (some ⟨L.g,0,none⟩) L.n L.gc):=hr.re.fL.cell_of rfl
 clear hr
 go_wp2_with fail
 refine (fQ HR.out.re ht).mono ?_
 rintro e w5 ⟨rfl,rfl⟩
 by_cases q:((M.step P L.n L.cap E t).th t).phase=0
 ·have HQ:=aA (show decide (((M.step P L.n L.cap E t).th t).phase≠0)=false by simpa using q)
  rw [HQ.out]
  have HI:=aA q
  clear q
  go_wp2
  refine bodyPost_ret (v:=.tuple #[.int .i64 2,.int .i64 0]) (by simp [results,Tryz.results255,go_sem]) rfl ⟨rfl,HR.out⟩
 ·have HQ:=aA (show decide (((M.step P L.n L.cap E t).th t).phase≠0)=true by simpa using q)
  rw [HQ.out]
  have HI:=aA q
  clear q
  go_wp2
  refine bodyPost_ret (v:=.tuple #[.int .i64 1,.int .i64 0]) (by simp [results,Tryz.results255,go_sem]) rfl ⟨rfl,HR.out⟩
end
end Go.Proofs.YtefjhnhdagolhaaGreat.list
namespace Go.Proofs.YtefjhnhdagolhaaGreat.list
open Go.RowKit
open M (aI aC aD dA aS cA aR aT aO aG aJ)
attribute [local go_sem ↓] Go.wp_at_zero Go.wp_at_succ
section
variable {σ:Type} {R:SR σ} {L:Lt} {S:Nat→Prop} {E:cA σ} {w:World} {t:Nat}
set_option maxRecDepth 20000 in
set_option maxHeartbeats 1000000 in
theorem rL (h:RE R L S E w) (x:Int) (hx:¬(0≤x∧x<L.n)) :
  Calls Tryz.prog 249 #[.pointer (some ⟨L.bE,0,none⟩),.int .i64 x] w fun e w'=>e = .returned (.tuple #[.agg #[.int .i64 0,.int .i64 0],.int .i64 3])∧Below w.heap.size w w':=by
 have HH:=aA (fun ob=>gZ (h.below (aB w ob)) x)
 have HX:=aA (show decide (0≤x∧x<(L.n:Int))=false by simpa using hx)
 clear h hx
 go_enter Tryz.func249,Tryz.ntmps249
 go_wp2_with fail
 refine (HH.out _).mono ?_
 rintro e w1 ⟨rfl,rfl⟩
 rw [HX.out]
 go_wp2_with fail
 exact bodyPost_ret (v:=.tuple #[.agg #[.int .i64 0,.int .i64 0],.int .i64 3]) (by simp [results,Tryz.results249,go_sem]) rfl ⟨rfl,(by repeat (first|exact Below.refl _ _|assumption|refine Below.drewN ?_ _|refine Below.alloc ?_ (by simp) _))⟩
set_option maxRecDepth 20000 in
set_option maxHeartbeats 1000000 in
theorem oZ (h:RE R L S E w) (ht:t<L.n) (hp:(E.th t).phase≠0) :
  Calls Tryz.prog 249 #[.pointer (some ⟨L.bE,0,none⟩),.int .i64 (t:Int)] w fun e w'=>e = .returned (.tuple #[.agg #[.int .i64 0,.int .i64 0],.int .i64 4])∧Below w.heap.size w w':=by
 have HH:=aA (fun ob=>gZ (h.below (aB w ob)) (t:Int))
 have HB:=aA (fun ob=>fQ (h.below (aB w ob)) ht)
 have HX:=aA (show decide (0≤(t:Int)∧(t:Int)<(L.n:Int))=true by simp;omega)
 have HP:=aA (show decide ((E.th t).phase≠0)=true by simpa using hp)
 have hc:w.cell? ⟨L.bE,1,none⟩=some (.slice (some ⟨L.g,0,none⟩) L.n L.gc):=h.fL.cell_of rfl
 have FE:=fun ob=>aX hc ob
 have ht':(t:Int)<(L.n:Int):=by omega
 clear h hp
 go_enter Tryz.func249,Tryz.ntmps249
 go_wp2_with fail
 refine (HH.out _).mono ?_
 rintro e w1 ⟨rfl,rfl⟩
 rw [HX.out]
 go_wp2_with fail
 refine (HB.out _).mono ?_
 rintro e w1 ⟨rfl,rfl⟩
 rw [HP.out]
 go_wp2_with fail
 exact bodyPost_ret (v:=.tuple #[.agg #[.int .i64 0,.int .i64 0],.int .i64 4]) (by simp [results,Tryz.results249,go_sem]) rfl ⟨rfl,(by repeat (first|exact Below.refl _ _|assumption|refine Below.drewN ?_ _|refine Below.alloc ?_ (by simp) _))⟩
set_option maxRecDepth 20000 in
set_option maxHeartbeats 1000000 in
theorem pE (h:RE R L S E w) (ht:t<L.n) (hp:(E.th t).phase=0) (he:(E.th t).ended=false) :
  Calls Tryz.prog 249 #[.pointer (some ⟨L.bE,0,none⟩),.int .i64 (t:Int)] w fun e w'=>e = .returned (.tuple #[.agg #[.int .i64 0,.int .i64 0],.int .i64 5])∧Below w.heap.size w w':=by
 have HH:=aA (fun ob=>gZ (h.below (aB w ob)) (t:Int))
 have HB:=aA (fun ob=>fQ (h.below (aB w ob)) ht)
 have HX:=aA (show decide (0≤(t:Int)∧(t:Int)<(L.n:Int))=true by simp;omega)
 have HP:=aA (show decide ((E.th t).phase≠0)=false by simpa using hp)
 have hc:w.cell? ⟨L.bE,1,none⟩=some (.slice (some ⟨L.g,0,none⟩) L.n L.gc):=h.fL.cell_of rfl
 have FE:=fun ob=>aX hc ob
 have ht':(t:Int)<(L.n:Int):=by omega
 obtain ⟨cv,cf,pv,hce,hcv,dN,-,-⟩:=h.cells ht rfl
 obtain ⟨c0,c1,rfl⟩:=aH hcv.1
 obtain ⟨d0,d1,rfl⟩:=aH dN.1
 have e1:w.cell? ⟨L.g,t*28+27,none⟩=some (.bool false):=by have:=hce 27 _ (by decide) rfl;rw [he] at this;exact this
 have IM:=fun ob=>aX e1 ob
 clear h hp hce hcv dN he
 go_enter Tryz.func249,Tryz.ntmps249
 go_wp2_with fail
 refine (HH.out _).mono ?_
 rintro e w1 ⟨rfl,rfl⟩
 rw [HX.out]
 go_wp2_with fail
 refine (HB.out _).mono ?_
 rintro e w1 ⟨rfl,rfl⟩
 rw [HP.out]
 go_wp2_with fail
 exact bodyPost_ret (v:=.tuple #[.agg #[.int .i64 0,.int .i64 0],.int .i64 5]) (by simp [results,Tryz.results249,go_sem]) rfl ⟨rfl,(by repeat (first|exact Below.refl _ _|assumption|refine Below.drewN ?_ _|refine Below.alloc ?_ (by simp) _))⟩
set_option maxRecDepth 20000 in
set_option maxHeartbeats 1000000 in
theorem pF (h:RE R L S E w) (ht:t<L.n) (hp:(E.th t).phase=0) (he:(E.th t).ended=true) :
  Calls Tryz.prog 249 #[.pointer (some ⟨L.bE,0,none⟩),.int .i64 (t:Int)] w fun e w'=>e = .returned (.tuple #[.agg #[.int .i64 (E.th t).zI,.int .i64 (E.th t).val],.int .i64 0])∧Below w.heap.size w w':=by
 have HH:=aA (fun ob=>gZ (h.below (aB w ob)) (t:Int))
 have HB:=aA (fun ob=>fQ (h.below (aB w ob)) ht)
 have HX:=aA (show decide (0≤(t:Int)∧(t:Int)<(L.n:Int))=true by simp;omega)
 have HP:=aA (show decide ((E.th t).phase≠0)=false by simpa using hp)
 have hc:w.cell? ⟨L.bE,1,none⟩=some (.slice (some ⟨L.g,0,none⟩) L.n L.gc):=h.fL.cell_of rfl
 have FE:=fun ob=>aX hc ob
 have ht':(t:Int)<(L.n:Int):=by omega
 obtain ⟨cv,cf,pv,hce,hcv,dN,-,-⟩:=h.cells ht rfl
 obtain ⟨c0,c1,rfl⟩:=aH hcv.1
 obtain ⟨d0,d1,rfl⟩:=aH dN.1
 have e1:w.cell? ⟨L.g,t*28+27,none⟩=some (.bool true):=by have:=hce 27 _ (by decide) rfl;rw [he] at this;exact this
 have IM:=fun ob=>aX e1 ob
 have e2:w.cell? ⟨L.g,t*28+25,none⟩=some (.int .i64 (E.th t).zI):=hce 25 _ (by decide) rfl
 have e2':=fun ob=>aX e2 ob
 have e3:w.cell? ⟨L.g,t*28+25+1,none⟩=some (.int .i64 (E.th t).val):=hce 26 _ (by decide) rfl
 have e3':=fun ob=>aX e3 ob
 clear h hp hce hcv dN he
 go_enter Tryz.func249,Tryz.ntmps249
 go_wp2_with fail
 refine (HH.out _).mono ?_
 rintro e w1 ⟨rfl,rfl⟩
 rw [HX.out]
 go_wp2_with fail
 refine (HB.out _).mono ?_
 rintro e w1 ⟨rfl,rfl⟩
 rw [HP.out]
 go_wp2_with fail
 exact bodyPost_ret (v:=.tuple #[.agg #[.int .i64 (E.th t).zI,.int .i64 (E.th t).val],.int .i64 0]) (by simp [results,Tryz.results249,go_sem]) rfl ⟨rfl,(by repeat (first|exact Below.refl _ _|assumption|refine Below.drewN ?_ _|refine Below.alloc ?_ (by simp) _))⟩
end
end Go.Proofs.YtefjhnhdagolhaaGreat.list
namespace Go.Proofs.YtefjhnhdagolhaaGreat.list
open Go.RowKit
open M (aI aC aD dA aS cA aR aT aO aG aJ)
section
variable {σ:Type} {R:SR σ} {P:M.Plain σ} {L:Lt} {S:Nat→Prop} {E:cA σ} {Y:aR} {w:World} {t:Nat}
structure Both (R:SR σ) (P:M.Plain σ) (L:Lt) (S:Nat→Prop) (E:cA σ) (Y:aR) (w:World):Prop where
 re:RE R L S E w
 inv:M.Inv P L.n L.cap E Y
 zU:M.IL L.n E
 vU:M.NZ R.sz L.n E Y
theorem Both.idle (h:Both R P L S E Y w) (ht:t<L.n):(E.th t).phase=0↔(Y.th t).part=0:=by
 obtain ⟨pb,nf,-,-,T⟩:=h.inv
 have X:=T t ht
 have MI:=X.p1
 constructor
 ·intro q
  by_cases c:(Y.th t).part=11
  ·have:=X.p4 c;omega
  ·have:=X.p2 (by omega);omega
 ·intro q
  have:=X.p2 (by omega)
  omega
theorem Both.phase (h:Both R P L S E Y w) (ht:t<L.n):(E.th t).phase≤13:=by
 obtain ⟨pb,nf,-,-,T⟩:=h.inv
 have X:=T t ht
 have MI:=X.p1
 by_cases c:(Y.th t).part=11
 ·have:=X.p4 c;omega
 ·have:=X.p2 (by omega);omega
theorem Both.dZ (h:Both R P L S E Y w):E.dZ=Y.bs.length:=by obtain ⟨pb,nf,q,-,-⟩:=h.inv;exact q
theorem Both.can (h:Both R P L S E Y w) (ht:t<L.n) (hN:Y.bs.length≤1000000000):Can L E t :=
 Can.of h.re.ok.n64 h.re.ok.vD h.inv h.zU (by rw [h.dZ];exact hN) ht
theorem Both.sz8 (h:Both R P L S E Y w) (ht:t<L.n) (hN:Y.bs.length≤1000000000) (hF:Y.bs.flatten.length≤100000000000):(E.th t).phase=8→∀ v,(E.th t).now=some v→R.sz v.st≤1000000000000:=fun p8=>by
 obtain ⟨-,h1,h2,-⟩:=(h.can ht hN).p8 p8
 exact h.vU.bound ht hF (by omega) p8
theorem Both.spare (h:Both R P L S E Y w) (ht:t<L.n):(E.th t).spare<2*L.n+1:=by
 obtain ⟨pb,nf,-,-,T⟩:=h.inv
 rcases (T t ht).sp with q|q<;>omega
structure Goes (R:SR σ) (P:M.Plain σ) (L:Lt) (S:Nat→Prop) (w:World) (Y':aR) (w':World):Prop where
 ex:∃ E',Both R P L (grown S w w') E' Y' w'
 fr:Fr L.own w w'
theorem Goes.left {E':cA σ} {Y':aR} {w':World} (h:Left R L S w E' w') (hi:M.Inv P L.n L.cap E' Y') (hb:M.IL L.n E') (hz:M.NZ R.sz L.n E' Y'):Goes R P L S w Y' w':=⟨⟨E',h.re,hi,hb,hz⟩,h.fr⟩
theorem Both.below (h:Both R P L S E Y w) {w':World} (hb:Below w.heap.size w w'):Goes R P L S w Y w':=Goes.left (Left.below h.re hb) h.inv h.zU h.vU
theorem iW (h:Both R P L S E Y w) (o:M.Op) :
  (∀ x:Int,¬(0≤x∧x<L.n)→Calls Tryz.prog 250 #[.pointer (some ⟨L.bE,0,none⟩),.int .i64 x,.agg #[.int .i64 o.c,.int .i64 o.a,.int .i64 o.b]] w fun e w'=>e = .returned (.int .i64 3)∧Goes R P L S w Y w')
  ∧ ∀ t,t<L.n→Calls Tryz.prog 250 #[.pointer (some ⟨L.bE,0,none⟩),.int .i64 (t:Int),.agg #[.int .i64 o.c,.int .i64 o.a,.int .i64 o.b]] w fun e w'=>e = .returned (.int .i64 (if (Y.th t).part=0 then 0 else 4))∧Goes R P L S w (if (Y.th t).part=0 then M.cQ Y t o else Y) w':=by
 refine ⟨fun x hx=>?_,fun t ht=>?_⟩
 ·refine (tX h.re x hx o).mono ?_
  rintro e w' ⟨rfl,hl⟩
  exact ⟨rfl,Goes.left hl h.inv h.zU h.vU⟩
 ·by_cases q:(Y.th t).part=0
  ·simp only [if_pos q]
   refine (rK h.re ht ((h.idle ht).mpr q) o).mono ?_
   rintro e w' ⟨rfl,hl⟩
   exact ⟨rfl,Goes.left hl (M.tK h.inv ht q o) (h.zU.begin ht o) (h.vU.begin o)⟩
  ·simp only [if_neg q]
   refine (rJ h.re ht (fun c=>q ((h.idle ht).mp c)) o).mono ?_
   rintro e w' ⟨rfl,hl⟩
   exact ⟨rfl,Goes.left hl h.inv h.zU h.vU⟩
theorem rM {fA:Nat} {rv:Value} (hA:eV R P L fA rv) (h:Both R P L S E Y w) (hN:Y.bs.length≤1000000000) (hF:Y.bs.flatten.length≤100000000000) :
  (∀ x:Int,¬(0≤x∧x<L.n)→Calls Tryz.prog 255 #[.pointer (some ⟨L.bE,0,none⟩),.int .i64 x] w fun e w'=>e = .returned (.tuple #[.int .i64 0,.int .i64 3])∧Goes R P L S w Y w')
  ∧ (∀ t,t<L.n→(Y.th t).part=0→Calls Tryz.prog 255 #[.pointer (some ⟨L.bE,0,none⟩),.int .i64 (t:Int)] w fun e w'=>e = .returned (.tuple #[.int .i64 0,.int .i64 5])∧Goes R P L S w Y w')
  ∧ ∀ t,t<L.n→(Y.th t).part≠0→Calls Tryz.prog 255 #[.pointer (some ⟨L.bE,0,none⟩),.int .i64 (t:Int)] w fun e w'=>e = .returned (.tuple #[.int .i64 (if (M.cP L.n L.cap Y t).2=true then 2 else 1),.int .i64 0])∧Goes R P L S w (M.cP L.n L.cap Y t).1 w':=by
 refine ⟨fun x hx=>?_,fun t ht hp=>?_,fun t ht hp=>?_⟩
 ·refine (xS h.re x hx).mono ?_
  rintro e w' ⟨rfl,rfl⟩
  exact ⟨rfl,h.below (Below.refl _ _)⟩
 ·refine (tY h.re ht ((h.idle ht).mpr hp)).mono ?_
  rintro e w' ⟨rfl,rfl⟩
  exact ⟨rfl,h.below (Below.refl _ _)⟩
 ·have cD:1≤(E.th t).phase:=by have:=mt (h.idle ht).mp hp;omega
  obtain ⟨s1,s2⟩:=M.lW (Nat.lt_of_lt_of_le (by decide) h.re.ok.n1) h.inv ht hp
  refine (tZ hA h.re ht (h.can ht hN) (h.sz8 ht hN hF) cD (h.phase ht)).mono ?_
  rintro e w' ⟨rfl,hl⟩
  have hB:Both R P L (grown S w w') (M.step P L.n L.cap E t) (M.cP L.n L.cap Y t).1 w':=⟨hl.re,s1,h.zU.step ht (h.spare ht),h.vU.step hA.z h.inv ht⟩
  refine ⟨?_,⟨_,hB⟩,hl.fr⟩
  rw [s2]
  have:=hB.idle ht
  by_cases q:((M.cP L.n L.cap Y t).1.th t).part=0
  ·rw [if_pos (this.mpr q),if_pos (by simpa using q)]
  ·rw [if_neg (fun c=>q (this.mp c)),if_neg (by simpa using q)]
def pG (P:M.Plain σ) (Y:aR) (t:Nat):M.MD:=(M.replay P (fun k i=>((Y.th k).ops).getD i ⟨0,0,0⟩) Y.bs).an t
theorem kP (h:Both R P L S E Y w) :
  (∀ x:Int,¬(0≤x∧x<L.n)→Calls Tryz.prog 249 #[.pointer (some ⟨L.bE,0,none⟩),.int .i64 x] w fun e w'=>e = .returned (.tuple #[.agg #[.int .i64 0,.int .i64 0],.int .i64 3])∧Below w.heap.size w w')
  ∧ ∀ t,t<L.n→Calls Tryz.prog 249 #[.pointer (some ⟨L.bE,0,none⟩),.int .i64 (t:Int)] w fun e w'=>e = .returned (if (Y.th t).part≠0 then .tuple #[.agg #[.int .i64 0,.int .i64 0],.int .i64 4] else if (Y.th t).ended=0 then .tuple #[.agg #[.int .i64 0,.int .i64 0],.int .i64 5] else .tuple #[.agg #[.int .i64 (pG P Y t).s,.int .i64 (pG P Y t).v],.int .i64 0])∧Below w.heap.size w w':=by
 refine ⟨fun x hx=>rL h.re x hx,fun t ht=>?_⟩
 have hi:=h.idle ht
 obtain ⟨pb,nf,-,-,T⟩:=h.inv
 have X:=T t ht
 by_cases q:(Y.th t).part=0
 ·rw [if_neg (by simpa using q)]
  by_cases c:(Y.th t).ended=0
  ·rw [if_pos c]
   exact pE h.re ht (hi.mpr q) (by rw [X.en];simp [c])
  ·rw [if_neg c]
   obtain ⟨a1,a2⟩:=X.a0 q (by omega)
   have e1:(E.th t).zI=(pG P Y t).s:=a1
   have e2:(E.th t).val=(pG P Y t).v:=a2
   have:=pF h.re ht (hi.mpr q) (by rw [X.en];simp;omega)
   rw [e1,e2] at this
   exact this
 ·rw [if_pos q]
  exact oZ h.re ht (fun c=>q (hi.mp c))
end
end Go.Proofs.YtefjhnhdagolhaaGreat.list
namespace Go.Proofs.YtefjhnhdagolhaaGreat.list
open Go.RowKit
open M (aI aC aD dA aS cA aR aT aO aG aJ)
attribute [local go_sem ↓] Go.wp_at_zero Go.wp_at_succ
def numOf:List (Nat×List Nat)→Nat | []=>0|(q,_)::_=>q
theorem eJ.num {I:Nat→Prop} {w:World} {bs:List (Nat×List Nat)} {b:Nat} (h:eJ I w bs b):w.cell? ⟨b,0,none⟩=some (.int .i64 (numOf bs:Int)):=by
 cases bs with
 |nil=>exact h.2.cell_of rfl
 |cons x bs =>
  obtain ⟨v,b',-,h2,-⟩:=h
  exact h2.cell_of rfl
section
variable {σ:Type} {R:SR σ} {P:M.Plain σ} {L:Lt} {S:Nat→Prop} {E:cA σ} {Y:aR} {w:World} {t:Nat}
set_option maxRecDepth 20000 in
set_option maxHeartbeats 2000000 in
theorem kQ (h:RE R L S E w) {v f:dA σ} (hv:E.gC E.prec=some (v,f)) (hp:E.prec<2*L.n+1) (hN:E.dZ≤1000000000) (pH:numOf v.bs.reverse=E.dZ) :
  Calls Tryz.prog 276 #[.pointer (some ⟨L.bS,0,none⟩),.int .i64 ((E.dZ:Int)*129+(E.prec:Int))] w fun e w'=>∃ q0 bB,e = .returned (.agg #[.pointer q0,.pointer (some ⟨bB,0,none⟩)])∧R.rep (fun k=>S k∧¬L.own k) w v.st [.pointer q0]∧eJ (fun k=>S k∧¬L.own k) w v.bs.reverse bB∧Below w.heap.size w w':=by
 obtain ⟨b,cv,cf,TA,-,hrow,nU,hfr⟩:∃ b cv cf,w.cell? ⟨L.bP,E.prec*2+1,none⟩=some (.pointer (some ⟨b,0,none⟩))∧(S b∧¬L.own b)∧Row w b 241 (cv++cf)∧bU R (fun k=>S k∧¬L.own k) w v cv∧bU R (fun k=>S k∧¬L.own k) w f cf:=by
  obtain ⟨sp,q1,q2⟩:=h.po
  obtain ⟨b,cv,cf,a1,a2,a3,a4,a5⟩:=q2 E.prec hp v f hv
  refine ⟨b,cv,cf,?_,a2,a3,a4,a5⟩
  have:=q1.cell hp (show 1<2 by decide)
  rw [this,a1]
  rfl
 obtain ⟨sc,bB,rfl,DD,FV⟩:=nU
 obtain ⟨x0,rfl⟩:=xG (R.len DD)
 obtain ⟨q0,rfl⟩:=R.shape DD x0 (by simp)
 obtain ⟨y0,y1,rfl⟩:=aH (bU.len R hfr)
 have hn:=h.ok.n64
 have c4:w.cell? ⟨L.bS,4,none⟩=some (.slice (some ⟨L.bP,0,none⟩) (2*L.n+1) (2*L.n+1)):=h.sh.cell_of rfl
 have cB:=FV.num
 rw [pH] at cB
 have hm:=aA (show (((E.dZ:Int)*129+(E.prec:Int)) % 129=(E.prec:Int))∧(((E.dZ:Int)*129+(E.prec:Int)) / 129=(E.dZ:Int)) by omega)
 have hp':(E.prec:Int)<2*(L.n:Int)+1:=by omega
 have MZ:(0:Int)≤(E.prec:Int):=by omega
 have rH:=aA (And.intro DD FV)
 have aA6:=aA hrow
 have HPB:=aA TA
 have HCB:=aA cB
 have HC4:=aA c4
 clear h hv hfr DD FV hrow TA cB c4 pH
 go_enter Tryz.func276,Tryz.ntmps276
 go_wp2
 generalize jE:World.alloc w _=W0
 have hb0:Below w.heap.size w W0:=by rw [←jE];exact aB w _
 have d4:=cell_later hb0 HC4.out
 have HDP:=aA (cell_later hb0 HPB.out)
 have HDR:=aA (aA6.out.old hb0)
 have dB:=cell_later hb0 HCB.out
 have HZ0:=aA (show Row W0 w.heap.size 239 ([.pointer none]++[.pointer none]) by rw [←jE];exact Row.new' rfl)
 have mL:=aA hb0
 clear jE hb0
 have A1:=aA (fun n=>Calls.quiet_of_same (n:=n) (kB ((E.dZ:Int)*129+(E.prec:Int)) (W0.drewN n) (by omega) (by omega)))
 rw [hm.out.1] at A1
 have A2:=aA (fun n=>Calls.quiet_of_same (n:=n) (oD L.bP (E.prec*2+1) b _ (W0.drewN n) HDP.out (HDR.out.drewN _) rfl))
 go_quiet ((first|(go_at_call 223;with_reducible exact A1.out _)|(go_at_call 285;with_reducible exact A2.out _)))
 generalize CG:World.drewN W0 nq=W5
 have jJ:=HDR.out.drewN nq
 rw [CG] at jJ
 have HR5:=aA jJ
 clear jJ
 have k1:W5.cell? ⟨b,1,none⟩=some (.pointer (some ⟨bB,0,none⟩)):=HR5.out.cell_of rfl
 have k2:W5.cell? ⟨bB,0,none⟩=some (.int .i64 (E.dZ:Int)):=by rw [←CG];exact dB
 have HZ5:=aA (show Row W5 w.heap.size 239 ([.pointer none]++[.pointer none]) by rw [←CG];exact HZ0.out)
 have qL:=aA (show Below w.heap.size w W5 by rw [←CG];exact Below.drewN mL.out _)
 clear CG d4 dB A1 A2
 have A3:=aA (fun n=>Calls.quiet_of_same (n:=n) (iT ((E.dZ:Int)*129+(E.prec:Int)) (W5.drewN n) (by omega) (by omega)))
 rw [hm.out.2] at A3
 go_wp2
 go_quiet ((go_at_call 226;with_reducible exact A3.out _))
 generalize FL:World.drewN W5 nq=W6
 have VV:=HR5.out.drewN nq
 rw [FL] at VV
 have VW:Row W6 w.heap.size 239 ([.pointer none]++[.pointer none]):=by rw [←FL];exact HZ5.out
 have y0:W6.cell? ⟨b,0,none⟩=some _:=VV.cell_of rfl
 have y1:W6.cell? ⟨b,1,none⟩=some _:=VV.cell_of rfl
 have z0:W6.cell? ⟨w.heap.size,0,none⟩=some _:=VW.cell_of rfl
 have z1:W6.cell? ⟨w.heap.size,1,none⟩=some _:=VW.cell_of rfl
 have zf:=VW.frozen
 have HB6:=aA (show Below w.heap.size w W6 by rw [←FL];exact Below.drewN qL.out _)
 clear FL k1 k2 VV VW A3
 go_wp2
 refine bodyPost_ret (v:=.agg #[.pointer q0,.pointer (some ⟨bB,0,none⟩)]) (by simp [results,Tryz.results276,go_sem, *]) rfl ⟨q0,bB,rfl,rH.out.1,rH.out.2,?_⟩
 repeat (refine Below.setCell ?_ (by simp) _)
 exact HB6.out
set_option maxRecDepth 20000 in
set_option maxHeartbeats 1000000 in
theorem xT (h:RE R L S E w) {v f:dA σ} (hv:E.gC E.prec=some (v,f)) (hp:E.prec<2*L.n+1) (hN:E.dZ≤1000000000) (pH:numOf v.bs.reverse=E.dZ) :
  Calls Tryz.prog 261 #[.pointer (some ⟨L.bS,0,none⟩)] w fun e w'=>∃ q0 bB,e = .returned (.agg #[.pointer q0,.pointer (some ⟨bB,0,none⟩)])∧R.rep (fun k=>S k∧¬L.own k) w v.st [.pointer q0]∧eJ (fun k=>S k∧¬L.own k) w v.bs.reverse bB∧Below w.heap.size w w':=by
 have c5:w.cell? ⟨L.bS,5,none⟩=some (.int .i64 ((E.dZ:Int)*129+(E.prec:Int))):=h.sh.cell_of rfl
 have HH:=aA h
 have QM:=aA c5
 have HV:=aA (And.intro hv pH)
 clear h c5 hv pH
 go_enter Tryz.func261,Tryz.ntmps261
 go_wp2_with fail
 refine (lJ L.bS 5 _ _ (aX QM.out _)).mono ?_
 rintro e w1 ⟨rfl,rfl⟩
 go_wp2_with fail
 refine (kQ (S:=S) (HH.out.stay (fun k hk=>(aB w _).block k (HH.out.lt k hk)) (fun _ hk=>hk) (fun k hk=>Nat.lt_of_lt_of_le (HH.out.lt k hk) (by simp))) HV.out.1 hp hN HV.out.2).mono ?_
 rintro e w2 ⟨q0,bB,rfl,CP,xU,aP⟩
 have hZ:Row w2 w.heap.size 239 ([.pointer none]++[.pointer none]):=(Row.new' rfl).old aP
 have HB:=aA (Below.next (aB w _) aP (by simp))
 have rH:=aA (And.intro (R.stay (fun k hk _=>⟨hk,((aB w _).block k (HH.out.lt k hk.1)).symm⟩) CP) (eJ.stay (fun k hk _=>⟨hk,((aB w _).block k (HH.out.lt k hk.1)).symm⟩) (fun k hk=>Nat.lt_of_lt_of_le (HH.out.lt k hk.1) (by simp)) _ _ xU))
 have z0:w2.cell? ⟨w.heap.size,0,none⟩=some _:=hZ.cell_of rfl
 have z1:w2.cell? ⟨w.heap.size,1,none⟩=some _:=hZ.cell_of rfl
 have zf:=hZ.frozen
 clear hZ aP CP xU
 go_wp2
 refine bodyPost_ret (v:=.agg #[.pointer q0,.pointer (some ⟨bB,0,none⟩)]) (by simp [results,Tryz.results261,go_sem, *]) rfl ⟨q0,bB,rfl,rH.out.1,rH.out.2,?_⟩
 repeat (refine Below.setCell ?_ (by simp) _)
 exact HB.out
end
end Go.Proofs.YtefjhnhdagolhaaGreat.list
namespace Go.Proofs.YtefjhnhdagolhaaGreat.list
open Go.RowKit
open M (aI aC aD dA aS cA aR aT aO aG aJ)
theorem gL {w:World} {b:Nat} {t:TypeId} {m:Nat} (h:Row w b t (zeros (.int .i64 0) m)):Fn w b t m (fun _=>.int .i64 0):=by
 have e:zeros (.int .i64 0) m=(List.range m).map (fun _=>Value.int .i64 0):=by
  apply List.ext_getElem
  ·simp [zeros]
  ·intro i h1 h2;simp [zeros]
 unfold Fn
 rw [←e]
 exact h
theorem KS {w:World} {g:Nat} {e:TypeId} {cur:Array Value} {m c:Nat} (h:w.heap[g]?=some (.cells cur e (0,0))) (hs:cur.size=m*c):uQ w g e m c (fun i j=>(cur.toList[i*c+j]?).getD (.int .i64 0)):=by
 have q:cur.toList=(List.range (m*c)).map (fun k=>(fun i j=>(cur.toList[i*c+j]?).getD (Value.int .i64 0)) (k / c) (k % c)):=by
  apply List.ext_getElem
  ·simp [hs]
  ·intro i h1 h2
   have:i / c*c+i % c=i:=Nat.div_add_mod' i c
   simp only [List.getElem_map,List.getElem_range,this]
   rw [List.getElem?_eq_getElem h1]
   rfl
 unfold uQ Fn Row
 rw [←q]
 simpa using h
theorem DK {w:World} {b e rw n bE:Nat} {bW:Nat→Nat} (h:Row w b e ((eN (2*n+1) rw (2*n+1) bW).set 1 (.pointer (some ⟨bE,0,none⟩)))) :
  uQ w b e (2*n+1) 2 (fun r j=>if j=0 then .slice (some ⟨bW r,0,none⟩) rw rw else .pointer ((if r=0 then some bE else none).map fun b=>⟨b,0,none⟩)):=by
 have q:(eN (2*n+1) rw (2*n+1) bW).set 1 (.pointer (some ⟨bE,0,none⟩))=(List.range ((2*n+1)*2)).map (fun k=>(fun (r j:Nat)=>if j=0 then Value.slice (some ⟨bW r,0,none⟩) rw rw else .pointer ((if r=0 then some bE else none).map fun b=>⟨b,0,none⟩)) (k / 2) (k % 2)):=by
  apply List.ext_getElem
  ·simp [gV];omega
  ·intro i h1 h2
   have hi:i<(2*n+1)*2:=by simpa using h2
   rw [List.getElem_set]
   simp only [List.getElem_map,List.getElem_range,eN]
   by_cases c1:1=i
   ·subst c1;simp
   ·rw [if_neg c1]
    by_cases c2:i % 2=0
    ·rw [if_pos c2,if_pos c2,if_pos (by omega)]
    ·rw [if_neg c2,if_neg c2,if_neg (by omega)]
     rfl
 unfold uQ Fn
 rw [←q]
 exact h
section
variable {σ:Type} {R:SR σ} {P:M.Plain σ}
theorem pI (L:Lt) (t:Nat) (f:dA σ):bO L t ((M.E0 P f).th t) ([.pointer none]++[.pointer none]) ([.pointer none]++[.pointer none]) (.slice none 0 0)=dK L.bS (t:Int) (L.cap:Int) (L.gD t) (gS L.n) (L.gG t) (tw L.n):=by
 simp [bO,dK,M.E0,gS,aO,M.tw,tw]
end
end Go.Proofs.YtefjhnhdagolhaaGreat.list
namespace Go.Proofs.YtefjhnhdagolhaaGreat.list
open Go.RowKit
open M (aI aC aD dA aS cA aR aT aO aG aJ)
section
variable {σ:Type} {R:SR σ} {P:M.Plain σ}
theorem RE.new2 {w0 w:World} {x:Nat} {xl:List Value} (hx:Row w x 74 xl) {n cap:Nat} {oT:TypeId} {ov:Value} {b:Nat} (h:eE w0 n (cap:Int) oT ov b w) (hn:1≤n) (rN:n≤64) (hc:cap≤64) {G:Nat→Prop} (XF:∀ k,G k→k<w0.heap.size) (hz:∀ I:Nat→Prop,(∀ k,G k→I k)→R.rep I w P.first [.pointer none]) :
  ∃ L:Lt,L.n=n∧L.cap=cap∧L.oT=oT∧L.ov=ov∧L.bE=b∧RE R L (fun k=>((w0.heap.size≤k∧k<w.heap.size)∧k≠x)∨G k) (M.E0 P ⟨P.first,[]⟩) w:=by
 obtain ⟨W1,bS,cM,cO,bP,bW,bB,bE,v,gD,gG,rfl,h2,h3,h4⟩:=h
 obtain ⟨hE,hO,hG,hD,hB⟩:=h4
 have hz0:=h3.size
 have hz1:=hB.size
 obtain ⟨hl,⟨rfl,hn0⟩|⟨g,gc,cur,rfl,uY,hg,hnc,hcm,hcs,RV⟩⟩:=hO
 ·omega
 ·have lS:=h2.1.lt
  have h2':=h2.later hB
  obtain ⟨a1,a2,a3,a4,a5,a6,a7,a8,z1,z2,z3,z4,z5,z6,z7,z8,z9,z10⟩:=h2'
  have lB:bB<W1.heap.size:=h2.2.2.2.2.2.2.1.lt
  have lE:bE<W1.heap.size:=h2.2.2.2.2.2.2.2.1.lt
  have lg:g<w.heap.size:=by have:=Array.getElem?_eq_some_iff.mp hg;exact this.1
  obtain ⟨-,y1,y2⟩:=a5 0 (by omega)
  let L:Lt:={n:=n,cap:=cap,oT:=oT,ov:=ov,bE:=W1.heap.size,bS:=bS,cM:=cM,cO:=cO,bP:=bP,bW:=bW,g:=g,gc:=gc,gD:=gD,gG:=gG}
  have hown:∀ k,L.own k→w0.heap.size≤k∧k<w.heap.size∧k≠W1.heap.size∧k≠bB∧k≠bE:=by
   rintro k (q|q|q|q|⟨r,hr,q⟩|q|⟨t,ht,q|q⟩)
   ·have q:k=bS:=q;omega
   ·have q:k=cM:=q;omega
   ·have q:k=cO:=q;omega
   ·have q:k=bP:=q;omega
   ·have:=(a5 r hr).2
    have q:k=bW r:=q;omega
   ·have q:k=g:=q;omega
   ·obtain ⟨r1,r2,r3,r4,-⟩:=hG t ht
    have:=r1.lt
    have q:k=gD t:=q;omega
   ·obtain ⟨r1,r2,r3,r4,-⟩:=hG t ht
    have:=r2.lt
    have q:k=gG t:=q;omega
  have TP:∀ k,L.own k→k≠x:=by
   rintro k (q|q|q|q|⟨r,hr,q⟩|q|⟨t,ht,q|q⟩)
   ·have q:k=bS:=q;subst q;exact Row.apart a1 hx (by decide)
   ·have q:k=cM:=q;subst q;exact Row.apart a2 hx (by decide)
   ·have q:k=cO:=q;subst q;exact Row.apart a3 hx (by decide)
   ·have q:k=bP:=q;subst q;exact Row.apart a4 hx (by decide)
   ·have q:k=bW r:=q;subst q;exact Row.apart (a5 r hr).1 hx (by decide)
   ·have q:k=g:=q;subst q;exact Row.apart (show Row w k _ cur.toList by simpa [Row] using hg) hx (by decide)
   ·have q:k=gD t:=q;subst q;exact Row.apart (hG t ht).1 hx (by decide)
   ·have q:k=gG t:=q;subst q;exact Row.apart (hG t ht).2.1 hx (by decide)
  have iB:(((w0.heap.size≤bB∧bB<w.heap.size)∧bB≠x)∨G bB)∧¬L.own bB:=⟨.inl ⟨by omega,Row.apart a7 hx (by decide)⟩,fun c=>(hown _ c).2.2.2.1 rfl⟩
  have iE:(((w0.heap.size≤bE∧bE<w.heap.size)∧bE≠x)∨G bE)∧¬L.own bE:=⟨.inl ⟨by omega,Row.apart a8 hx (by decide)⟩,fun c=>(hown _ c).2.2.2.2 rfl⟩
  have a1':Row w bS 310 [.int .i64 (n:Int),.iface oT ov,.slice (some ⟨cM,0,none⟩) (tw n) (tw n),.slice (some ⟨cO,0,none⟩) n n,.slice (some ⟨bP,0,none⟩) (2*n+1) (2*n+1),.int .i64 (((0:Nat):Int)*129+((0:Nat):Int))]:=by simpa using a1
  have a8':Row w bE 241 (([.pointer none]++[.pointer (some ⟨bB,0,none⟩)])++([.pointer none]++[.pointer (some ⟨bB,0,none⟩)])):=by simpa [oH] using a8
  have hV:bU R (fun k=>(((w0.heap.size≤k∧k<w.heap.size)∧k≠x)∨G k)∧¬L.own k) w (⟨P.first,[]⟩:dA σ) ([.pointer none]++[.pointer (some ⟨bB,0,none⟩)]):=⟨[.pointer none],bB,rfl,hz _ (fun k hk=>⟨.inr hk,fun c=>by have:=(hown k c).1;have:=XF k hk;omega⟩),iB,a7⟩
  refine ⟨L,rfl,rfl,rfl,rfl,rfl,{ok:=?ok,fL:=hE,gB:=⟨.inl ⟨⟨hz0,hE.lt⟩,Row.apart hE hx (by decide)⟩,fun c=>(hown _ c).2.2.1 rfl⟩,sh:=a1',tg:=gL a2,an:=gL a3,po:=⟨_,DK a4,?ed⟩,rw:=fun r hr=>gL (a5 r hr).1,th:=⟨_,KS hg hcs,?th⟩,gd:=fun t ht=>gL (hG t ht).1,gg:=fun t ht=>gL (hG t ht).2.1,ow:=fun k hk=>.inl ⟨⟨(hown k hk).1,(hown k hk).2.1⟩,TP k hk⟩,lt:=?lt}⟩
  case lt =>
   rintro k (hk|hk)
   ·exact hk.1.2
   ·have:=XF k hk;omega
  case ok =>
   have hlt:∀ r s,r<2*n+1→s<2*n+1→bW r=bW s→r=s:=by
    intro r s hr hs q
    rcases Nat.lt_trichotomy r s with c|c|c
    ·have:=a6 r s c hs;omega
    ·exact c
    ·have:=a6 s r c hr;omega
   refine {n1:=hn,n64:=rN,vD:=hc,gn:=hnc,tw:=fun r hr=>?_,ww:=hlt,dg:=fun t u ht hu=>?_,dd:=fun t u ht hu q=>?_,gg:=fun t u ht hu q=>?_}
   ·have:=(a5 r hr).2.1
    show cM≠bW r
    omega
   ·show gD t≠gG u
    rcases Nat.lt_trichotomy t u with c|c|c
    ·exact (hD t u c hu).2.1
    ·subst c;exact (hG t ht).2.2.2.2.2.2
    ·exact Ne.symm (hD u t c ht).2.2.1
   ·rcases Nat.lt_trichotomy t u with c|c|c
    ·exact absurd q (hD t u c hu).1
    ·exact c
    ·exact absurd q.symm (hD u t c ht).1
   ·rcases Nat.lt_trichotomy t u with c|c|c
    ·exact absurd q (hD t u c hu).2.2.2
    ·exact c
    ·exact absurd q.symm (hD u t c ht).2.2.2
  case ed =>
   intro r hr v' f' hq
   by_cases c:r=0
   ·subst c
    simp only [M.E0,if_true,Option.some.injEq,Prod.mk.injEq] at hq
    obtain ⟨rfl,rfl⟩:=hq
    exact ⟨bE,[.pointer none]++[.pointer (some ⟨bB,0,none⟩)],[.pointer none]++[.pointer (some ⟨bB,0,none⟩)],by simp,iE,a8',hV,hV⟩
   ·simp [M.E0,c] at hq
  case th =>
   intro t ht
   refine ⟨[.pointer none]++[.pointer none],[.pointer none]++[.pointer none],.slice none 0 0,?_,⟨rfl,fun u hu=>nomatch hu⟩,⟨rfl,fun u hu=>nomatch hu⟩,.inl ⟨rfl,rfl⟩⟩
   intro j v' hv
   have hj:j<28:=by
    have:=(List.getElem?_eq_some_iff.mp hv).1
    simpa [bO] using this
   rw [pI L t] at hv
   show (cur.toList[t*28+j]?).getD (.int .i64 0)=v'
   rw [←mC bS n (cap:Int) gD gG n t j ht hj,←RV,List.getElem?_take] at hv
   split at hv
   ·rw [hv];rfl
   ·cases hv
theorem Both.new2 {w0 w:World} {x:Nat} {xl:List Value} (hx:Row w x 74 xl) {n cap:Nat} {oT:TypeId} {ov:Value} {b:Nat} (h:eE w0 n (cap:Int) oT ov b w) (hn:1≤n) (rN:n≤64) (hc:cap≤64) {G:Nat→Prop} (XF:∀ k,G k→k<w0.heap.size) (hz:∀ I:Nat→Prop,(∀ k,G k→I k)→R.rep I w P.first [.pointer none]) :
  ∃ L:Lt,L.n=n∧L.cap=cap∧L.oT=oT∧L.ov=ov∧L.bE=b∧Both R P L (fun k=>((w0.heap.size≤k∧k<w.heap.size)∧k≠x)∨G k) (M.E0 P ⟨P.first,[]⟩) M.Y0 w:=by
 obtain ⟨L,e1,e2,e3,e4,e5,r⟩:=RE.new2 (P:=P) hx h hn rN hc XF hz
 exact ⟨L,e1,e2,e3,e4,e5,r,M.BV P L.n L.cap _,M.MK P L.n _,M.MM _ P L.n _⟩
end
end Go.Proofs.YtefjhnhdagolhaaGreat.list
