import Derived.Test.YtefjhnhdagolhaaGreatA24
import Derived.Deep.DeepCutAuto
set_option maxHeartbeats 8000000
set_option maxRecDepth 20000
namespace Go.Proofs.YtefjhnhdagolhaaGreat
open Tryz
open Go.RowKit
open M (aM aC aD aR bJ cnt marks tagged num YI)
attribute [local go_sem ↓] Go.wp_at_zero Go.wp_at_succ
theorem jM.mY {σ:Type} {P:M.Plain σ} {D:DL} {t:Nat} (hn:0<D.n) (ht:t<D.n):∀ (f K r:Nat) (Y:aR),YI P D.n D.cap Y→jM D K Y→(Y.th t).sU D.n D.cap≤r→jM D (K+r) (M.mY D.n D.cap t f Y)
 |0,K,r,Y,_,h,_=>h.mono (Nat.le_add_right _ _)
 |f+1,K,r,Y,hy,h,hr=>by
  simp only [M.mY]
  by_cases hp:(Y.th t).part=0
  ·rw [aJ hp];exact h.mono (Nat.le_add_right _ _)
  ·rw [aN hp]
   have h1:=M.CS hn (hy.ok.th t ht) hp;exact (jM.mY hn ht f (K+1) (r-1) _ (hy.step hn ht hp) (h.step t) (by omega)).mono (by omega)
theorem jM.doZ {σ:Type} {P:M.Plain σ} {D:DL} {K:Nat} {Y:aR} (hy:YI P D.n D.cap Y) (vO:D.n≤64) (hc:D.cap≤64) (h:jM D K Y) (x:Int) (o:M.Op):jM D (K+4000) (doZ D.n D.cap Y x o):=by
 unfold Go.Proofs.YtefjhnhdagolhaaGreat.doZ
 split
 ·rename_i hx
  obtain ⟨t,rfl,ht,e⟩:=zO hx;rw [e];unfold doY
  split
  ·exact h.mono (Nat.le_add_right _ _)
  ·rename_i hp
   have hp:(Y.th t).part=0:=by simpa using hp
   unfold M.fin;have:=M.XH vO hc;exact (jM.mY (P:=P) (by omega) ht 100000 (K+1) (M.bound D.n D.cap) _ (hy.begin ht hp o) (h.begin t o) (by rw [M.OV];exact bQ _)).mono (by omega)
 ·exact h.mono (Nat.le_add_right _ _)
theorem jM.su {D:DL} {K:Nat} {Y:aR} (h:jM D K Y) (x:Int) (o:M.Op):jM D (K+1) (su D.n Y x o):=by
 unfold Go.Proofs.YtefjhnhdagolhaaGreat.su
 split
 ·split
  ·exact h.begin _ _
  ·exact h.mono (Nat.le_succ _)
 ·exact h.mono (Nat.le_succ _)
section
variable {σ:Type} {P:M.Plain σ} {tell:σ→List Int} {sz:σ→Nat} {HM:World→Value→σ→Prop} {D:DL} {X:(Nat→Prop)→aR→World→Prop} {A:LL} {Y:aR} {w:World} {sJ sN sI sL sM sO sK Z K:Nat} {U:Nat→Prop}
theorem AD.at (xo:BZ P tell D A.tE A.bN X sJ sN sI sL sM sO sK) (h:AD P D X A Z U Y w) {W:World} (hb:Below w.heap.size w W):AD P D X A Z U Y W:=by
 obtain ⟨⟨SX,SD,T,bZ,ms,is,qD,qE,hl,hu,z1,z2⟩,ul⟩:=h;exact ⟨⟨_,_,_,_,_,_,_,_,hl.below xo hb,hu,z1,z2⟩,fun k hk=>cH (ul k hk) hb.size⟩
theorem yO.made {W w':World} {Y':aR} {Z':Nat} (hg:yO P D X A Z' U W Y' w') (hb:Below w.heap.size w W):yO P D X A Z' U w Y' w':=by
 obtain ⟨⟨⟨SX,SD,T,bZ,ms,is,qD,qE,hl,hu,z1,z2⟩,ul⟩,fr⟩:=hg;refine ⟨⟨⟨_,_,_,_,_,_,_,_,hl,fun k hk=>?_,z1,z2⟩,fun k hk=>?_⟩,(Fr.cA hb).trans fr⟩
 ·rcases hu k hk with c|c
  ·exact .inl c
  ·exact .inr ⟨bK hb.size c.1,c.2⟩
 ·rcases hk with c|c
  ·exact ul k (.inl c)
  ·exact c.2
theorem cy (xo:BZ P tell D A.tE A.bN X sJ sN sI sL sM sO sK) (ds:DS P tell sz HM oR D) (h:AD P D X A Z U Y w) (hK:jM D K Y) (KN:K+10000≤900000000) (x nn c a b:Int) :
  Calls prog 18 #[.pointer (some ⟨A.bL,0,none⟩),.agg #[.int .i64 5,.int .i64 x,.int .i64 nn,.int .i64 c,.int .i64 a,.int .i64 b]] w fun e w'=>e = .returned (.bool true)∧yO P D X A Z U w Y w':=by
 go_enter func18,ntmps18;go_upto_region 1 with fail;generalize hW:World.alloc w _=W;have hb:Below w.heap.size w W:=by rw [←hW];exact aB w _
 have hr:Row W w.heap.size 38 [.int .i64 5,.int .i64 x,.int .i64 nn,.int .i64 c,.int .i64 a,.int .i64 b]:=by rw [←hW];exact aV rfl
 have b0:=hr.cell_of (i:=0) rfl;have b1:=hr.cell_of (i:=1) rfl;have b2:=hr.cell_of (i:=2) rfl;have hL:=h.at xo hb;have gy:¬U w.heap.size:=fun c9=>by have:=h.ul _ c9;omega
 have HC:=aA (RZ xo ds hL (hK.mono (by omega)) x);have HH:=aA h;have HX:=aA xo;have HB:=aA hb;clear hW hr hb h xo ds hL hK;go_wp2_with fail;refine HC.out.mono ?_;rintro e w1 ⟨rfl,hg⟩;have HG:=aA hg;clear hg;go_wp2_with fail;go_ret;exact ⟨rfl,((HH.out.at HX.out HB.out).below HX.out HG.out).made HB.out⟩
theorem qz (xo:BZ P tell D A.tE A.bN X sJ sN sI sL sM sO sK) (ds:DS P tell sz HM oR D) (h:AD P D X A Z U Y w) (hK:jM D K Y) (KN:K+10000≤900000000) (x nn c a b:Int) (hZ:Z≤100000000000) :
  Calls prog 18 #[.pointer (some ⟨A.bL,0,none⟩),.agg #[.int .i64 6,.int .i64 x,.int .i64 nn,.int .i64 c,.int .i64 a,.int .i64 b]] w fun e w'=>e = .returned (.bool true)∧yO P D X A (Z+4) U w Y w':=by
 go_enter func18,ntmps18;go_upto_region 1 with fail;generalize hW:World.alloc w _=W;have hb:Below w.heap.size w W:=by rw [←hW];exact aB w _
 have hr:Row W w.heap.size 38 [.int .i64 6,.int .i64 x,.int .i64 nn,.int .i64 c,.int .i64 a,.int .i64 b]:=by rw [←hW];exact aV rfl
 have b0:=hr.cell_of (i:=0) rfl;have b1:=hr.cell_of (i:=1) rfl;have b2:=hr.cell_of (i:=2) rfl;have hL:=h.at xo hb;have gy:¬U w.heap.size:=fun c9=>by have:=h.ul _ c9;omega
 have HC:=aA (SB xo ds hL (hK.mono (by omega)) (by omega));have HH:=aA h;have HX:=aA xo;have HB:=aA hb;clear hW hr hb h xo ds hL hK;go_wp2_with fail;refine HC.out.mono ?_;rintro e w1 ⟨rfl,hg⟩;have HG:=aA hg;clear hg;go_wp2_with fail;go_ret;exact ⟨rfl,HG.out.made HB.out⟩
theorem ri (xo:BZ P tell D A.tE A.bN X sJ sN sI sL sM sO sK) (ds:DS P tell sz HM oR D) (h:AD P D X A Z U Y w) (hK:jM D K Y) (KN:K+10000≤900000000) (x nn c a b:Int) (hZ:Z≤100000000000) (hall:(tell (gU P Y Y.order.length).st).length≤1000000000000) :
  Calls prog 18 #[.pointer (some ⟨A.bL,0,none⟩),.agg #[.int .i64 7,.int .i64 x,.int .i64 nn,.int .i64 c,.int .i64 a,.int .i64 b]] w fun e w'=>e = .returned (.bool true)∧yO P D X A (Z+4) U w Y w':=by
 go_enter func18,ntmps18;go_upto_region 1 with fail;generalize hW:World.alloc w _=W;have hb:Below w.heap.size w W:=by rw [←hW];exact aB w _
 have hr:Row W w.heap.size 38 [.int .i64 7,.int .i64 x,.int .i64 nn,.int .i64 c,.int .i64 a,.int .i64 b]:=by rw [←hW];exact aV rfl
 have b0:=hr.cell_of (i:=0) rfl;have b1:=hr.cell_of (i:=1) rfl;have b2:=hr.cell_of (i:=2) rfl;have hL:=h.at xo hb;have gy:¬U w.heap.size:=fun c9=>by have:=h.ul _ c9;omega
 have HC:=aA (SC xo ds hL (hK.mono (by omega)) (by omega) hall);have HH:=aA h;have HX:=aA xo;have HB:=aA hb;clear hW hr hb h xo ds hL hK;go_wp2_with fail;refine HC.out.mono ?_;rintro e w1 ⟨rfl,hg⟩;have HG:=aA hg;clear hg;go_wp2_with fail;go_ret;exact ⟨rfl,HG.out.made HB.out⟩
theorem qy (xo:BZ P tell D A.tE A.bN X sJ sN sI sL sM sO sK) (h:AD P D X A Z U Y w) (x nn c a b:Int) :
  Calls prog 18 #[.pointer (some ⟨A.bL,0,none⟩),.agg #[.int .i64 8,.int .i64 x,.int .i64 nn,.int .i64 c,.int .i64 a,.int .i64 b]] w fun e w'=>e = .returned (.bool true)∧yO P D X A Z U w Y w':=by
 go_enter func18,ntmps18;go_upto_region 1 with fail;generalize hW:World.alloc w _=W;have hb:Below w.heap.size w W:=by rw [←hW];exact aB w _
 have hr:Row W w.heap.size 38 [.int .i64 8,.int .i64 x,.int .i64 nn,.int .i64 c,.int .i64 a,.int .i64 b]:=by rw [←hW];exact aV rfl
 have b0:=hr.cell_of (i:=0) rfl;have b1:=hr.cell_of (i:=1) rfl;have b2:=hr.cell_of (i:=2) rfl;have hL:=h.at xo hb;have gy:¬U w.heap.size:=fun c9=>by have:=h.ul _ c9;omega
 have HC:=aA (SA xo hL);have HH:=aA h;have HX:=aA xo;have HB:=aA hb;clear hW hr hb h xo hL;go_wp2_with fail;refine HC.out.mono ?_;rintro e w1 ⟨rfl,hg⟩;have HG:=aA hg;clear hg;go_wp2_with fail;go_ret;exact ⟨rfl,((HH.out.at HX.out HB.out).below HX.out HG.out).made HB.out⟩
theorem aAh (xo:BZ P tell D A.tE A.bN X sJ sN sI sL sM sO sK) (h:AD P D X A Z U Y w) (x nn c a b:Int) (k:Int) (hk:k<1∨8<k) :
  Calls prog 18 #[.pointer (some ⟨A.bL,0,none⟩),.agg #[.int .i64 k,.int .i64 x,.int .i64 nn,.int .i64 c,.int .i64 a,.int .i64 b]] w fun e w'=>e = .returned (.bool true)∧yO P D X A Z U w Y w':=by
 have k1:(k == 1)=false:=mO.2 (by omega);have k2:(k == 2)=false:=mO.2 (by omega);have k3:(k == 3)=false:=mO.2 (by omega);have k4:(k == 4)=false:=mO.2 (by omega);have k5:(k == 5)=false:=mO.2 (by omega);have k6:(k == 6)=false:=mO.2 (by omega);have k7:(k == 7)=false:=mO.2 (by omega);have k8:(k == 8)=false:=mO.2 (by omega);clear hk;go_enter func18,ntmps18;go_upto_region 1 with fail;generalize hW:World.alloc w _=W;have hb:Below w.heap.size w W:=by rw [←hW];exact aB w _
 have hr:Row W w.heap.size 38 [.int .i64 k,.int .i64 x,.int .i64 nn,.int .i64 c,.int .i64 a,.int .i64 b]:=by rw [←hW];exact aV rfl
 have b0:=hr.cell_of (i:=0) rfl;have b1:=hr.cell_of (i:=1) rfl;have b2:=hr.cell_of (i:=2) rfl;have HH:=aA (h.below xo hb);clear hW hr hb h xo;go_wp2_with fail;go_ret;exact ⟨rfl,HH.out⟩
theorem rj (xo:BZ P tell D A.tE A.bN X sJ sN sI sL sM sO sK) (ds:DS P tell sz HM oR D) (h:AD P D X A Z U Y w) (hK:jM D K Y) (KN:K+10000≤900000000) (x nn c a b:Int) (_hx0 : -9223372036854775808≤x) (_hx1:x≤9223372036854775807) (hn0 : -9223372036854775808≤nn) (xV:nn≤9223372036854775807) :
  Calls prog 18 #[.pointer (some ⟨A.bL,0,none⟩),.agg #[.int .i64 2,.int .i64 x,.int .i64 nn,.int .i64 c,.int .i64 a,.int .i64 b]] w fun e w'=>e = .returned (.bool true)∧∃ Y',yO P D X A Z U w Y' w'∧jM D (K+4000) Y':=by
 go_enter func18,ntmps18;go_upto_region 1 with fail;generalize hW:World.alloc w _=W;have hb:Below w.heap.size w W:=by rw [←hW];exact aB w _
 have hr:Row W w.heap.size 38 [.int .i64 2,.int .i64 x,.int .i64 nn,.int .i64 c,.int .i64 a,.int .i64 b]:=by rw [←hW];exact aV rfl
 have b0:=hr.cell_of (i:=0) rfl;have b1:=hr.cell_of (i:=1) rfl;have b2:=hr.cell_of (i:=2) rfl;have hL:=h.at xo hb;have gy:¬U w.heap.size:=fun c9=>by have:=h.ul _ c9;omega
 obtain ⟨p0,p1⟩:=BC nn 400 (by decide);obtain ⟨m,hm⟩:∃ m:Nat,1+pk nn 400=(m:Int):=⟨(1+pk nn 400).toNat,by omega⟩;have HP:=aA (fun (W':World)=>OQ nn 400 W' (by decide) (by decide) hn0 xV);have hmb:m≤400:=by omega
 have HC:=aA (fun (W':World) (hB:Below W.heap.size W W')=>lawSteps xo ds (AD.at xo hL hB) hK x m (by omega));have bu:=aA ((hK.kT x m).mono (show K+m≤K+4000 by omega));have HH:=aA h;have HX:=aA xo;have HB:=aA hb;have HL:=aA hL;have hwp:IntKind.i64.wrap (1+pk nn 400)=(m:Int):=by rw [hm];exact eS _ (by omega) (by omega)
 clear hW hr hb h xo ds hL hK hm hn0 xV;generalize pk nn 400=q at *;go_upto_region 7 with fail;refine fH (S:=(fun w'=>w'.cell? ⟨w.heap.size,1,none⟩=some (.int .i64 x)∧w'.cell? ⟨w.heap.size,2,none⟩=some (.int .i64 nn))) 9 rfl (by kernel_rfl) ?_ (fun hHeld=>?_)
 ·exact ⟨b1,b2⟩
 iterate 5 (refine tk 8 (by rfl) (by kernel_rfl) (by exact fun _ _ _ h=>h) (.inl ⟨by rfl,fun w hS=>by (try dsimp only at hS);go_simp;(try with_reducible rfl)⟩) (by assumption) ?_;try go_frame)
 refine cT 5 (by rfl) (by kernel_rfl) (fun K hK=>?_);go_simp;refine (HP.out _).mono ?_;rintro e w2 ⟨rfl,rfl⟩;go_wp2_with fail;refine hK.out _ _ ?_ (fun hHeld=>?_)
 ·exact hHeld
 clear hK K
 (try go_frame)
 iterate 1 (refine tk 8 (by rfl) (by kernel_rfl) (by exact fun _ _ _ h=>h) (.inl ⟨by rfl,fun w hS=>by (try dsimp only at hS);go_simp;(try with_reducible rfl)⟩) (by assumption) ?_;try go_frame)
 refine cT 7 (by rfl) (by kernel_rfl) (fun K hK=>?_);go_simp
 (try rw [hwp])
 refine (HC.out _ (dU (aT _ _))).mono ?_;rintro e w3 ⟨rfl,hg⟩;have q1:w3.cell? ⟨w.heap.size,1,none⟩=some (.int .i64 x):=cV b1 (hg.fr.block _ (mX _ _ b1) gy);have q2:w3.cell? ⟨w.heap.size,2,none⟩=some (.int .i64 nn):=cV b2 (hg.fr.block _ (mX _ _ b2) gy);have HG:=aA hg;clear hg;go_wp2_with fail;refine hK.out _ _ ?_ (fun hHeld=>?_)
 ·exact ⟨q1,q2⟩
 clear hK K
 (try go_frame)
 iterate 1 (refine tk 8 (by rfl) (by kernel_rfl) (by exact fun _ _ _ h=>h) (.inl ⟨by rfl,fun w hS=>by (try dsimp only at hS);go_simp;(try with_reducible rfl)⟩) (by assumption) ?_;try go_frame)
 refine cC (by kernel_rfl) ?_ _
 (try go_wp2_with fail)
 go_ret;exact ⟨rfl,_,(HG.out.made (dU (aT _ _))).made HB.out,bu.out⟩
theorem rm (xo:BZ P tell D A.tE A.bN X sJ sN sI sL sM sO sK) (ds:DS P tell sz HM oR D) (h:AD P D X A Z U Y w) (hK:jM D K Y) (KN:K+10000≤900000000) (x nn c a b:Int) (hx0 : -9223372036854775808≤x) (hx1:x≤9223372036854775807) (hn0 : -9223372036854775808≤nn) (xV:nn≤9223372036854775807) :
  Calls prog 18 #[.pointer (some ⟨A.bL,0,none⟩),.agg #[.int .i64 3,.int .i64 x,.int .i64 nn,.int .i64 c,.int .i64 a,.int .i64 b]] w fun e w'=>e = .returned (.bool true)∧∃ Y',yO P D X A Z U w Y' w'∧jM D (K+4000) Y':=by
 go_enter func18,ntmps18;go_upto_region 1 with fail;generalize hW:World.alloc w _=W;have hb:Below w.heap.size w W:=by rw [←hW];exact aB w _
 have hr:Row W w.heap.size 38 [.int .i64 3,.int .i64 x,.int .i64 nn,.int .i64 c,.int .i64 a,.int .i64 b]:=by rw [←hW];exact aV rfl
 have b0:=hr.cell_of (i:=0) rfl;have b1:=hr.cell_of (i:=1) rfl;have b2:=hr.cell_of (i:=2) rfl;have hL:=h.at xo hb;have gy:¬U w.heap.size:=fun c9=>by have:=h.ul _ c9;omega
 have vO:D.n≤64:=by obtain ⟨_,_,_,_,_,_,_,_,hl9,-⟩:=h.ex;exact hl9.d.n.2.1
 obtain ⟨p0,p1⟩:=BC nn 60 (by decide);obtain ⟨m,hm⟩:∃ m:Nat,1+pk nn 60=(m:Int):=⟨(1+pk nn 60).toNat,by omega⟩;have HP:=aA (fun (W':World)=>OQ nn 60 W' (by decide) (by decide) hn0 xV);have hmb:m≤60:=by omega
 have HC:=aA (fun (W':World) (hB:Below W.heap.size W W')=>aBn xo ds (AD.at xo hL hB) hK x hx0 hx1 m hmb (by omega));have bu:=aA ((hK.qG (pk x D.n) (m*D.n)).mono (show K+m*D.n≤K+4000 by have:=Nat.mul_le_mul hmb vO;omega));have HH:=aA h;have HX:=aA xo;have HB:=aA hb;have HL:=aA hL;have hwp:IntKind.i64.wrap (1+pk nn 60)=(m:Int):=by rw [hm];exact eS _ (by omega) (by omega)
 clear hW hr hb h xo ds hL hK hm hx0 hx1 hn0 xV;generalize pk nn 60=q at *;go_upto_region 9 with fail;refine fH (S:=(fun w'=>w'.cell? ⟨w.heap.size,1,none⟩=some (.int .i64 x)∧w'.cell? ⟨w.heap.size,2,none⟩=some (.int .i64 nn))) 9 rfl (by kernel_rfl) ?_ (fun hHeld=>?_)
 ·exact ⟨b1,b2⟩
 iterate 5 (refine tk 8 (by rfl) (by kernel_rfl) (by exact fun _ _ _ h=>h) (.inl ⟨by rfl,fun w hS=>by (try dsimp only at hS);go_simp;(try with_reducible rfl)⟩) (by assumption) ?_;try go_frame)
 refine cT 5 (by rfl) (by kernel_rfl) (fun K hK=>?_);go_simp;refine (HP.out _).mono ?_;rintro e w2 ⟨rfl,rfl⟩;go_wp2_with fail;refine hK.out _ _ ?_ (fun hHeld=>?_)
 ·exact hHeld
 clear hK K
 (try go_frame)
 iterate 1 (refine tk 8 (by rfl) (by kernel_rfl) (by exact fun _ _ _ h=>h) (.inl ⟨by rfl,fun w hS=>by (try dsimp only at hS);go_simp;(try with_reducible rfl)⟩) (by assumption) ?_;try go_frame)
 refine cT 7 (by rfl) (by kernel_rfl) (fun K hK=>?_);go_simp
 (try rw [hwp])
 refine (HC.out _ (dU (aT _ _))).mono ?_;rintro e w3 ⟨rfl,hg⟩;have q1:w3.cell? ⟨w.heap.size,1,none⟩=some (.int .i64 x):=cV b1 (hg.fr.block _ (mX _ _ b1) gy);have q2:w3.cell? ⟨w.heap.size,2,none⟩=some (.int .i64 nn):=cV b2 (hg.fr.block _ (mX _ _ b2) gy);have HG:=aA hg;clear hg;go_wp2_with fail;refine hK.out _ _ ?_ (fun hHeld=>?_)
 ·exact ⟨q1,q2⟩
 clear hK K
 (try go_frame)
 iterate 1 (refine tk 8 (by rfl) (by kernel_rfl) (by exact fun _ _ _ h=>h) (.inl ⟨by rfl,fun w hS=>by (try dsimp only at hS);go_simp;(try with_reducible rfl)⟩) (by assumption) ?_;try go_frame)
 refine cC (by kernel_rfl) ?_ _
 (try go_wp2_with fail)
 go_ret;exact ⟨rfl,_,(HG.out.made (dU (aT _ _))).made HB.out,bu.out⟩
end
section
variable {σ:Type} {P:M.Plain σ} {tell:σ→List Int} {sz:σ→Nat} {HM:World→Value→σ→Prop} {D:DL} {X:(Nat→Prop)→aR→World→Prop} {A:LL} {Y:aR} {w:World} {sJ sN sI sL sM sO sK Z K:Nat} {U:Nat→Prop}
theorem DJ.later {S:Nat→Prop} {Y':aR} {w1 w2:World} (xo:BZ P tell D A.tE A.bN X sJ sN sI sL sM sO sK) (h:DJ X S w Y' w1) (hb:Below w1.heap.size w1 w2):DJ X S w Y' w2 :=
 ⟨xo.stay _ _ _ _ _ h.x (fun k hk=>hb.block k (xo.lt _ _ _ h.x k hk)) (fun k hk=>by
  rcases hk with c|c
  ·exact .inl c
  ·exact .inr ⟨c.1,cH c.2 hb.size⟩) (fun k hk=>by
  rcases hk with c|c
  ·exact cH (xo.lt _ _ _ h.x k (.inl c)) hb.size
  ·exact c.2),h.fr.trans (Fr.cA hb)⟩
theorem DJ.drew {S:Nat→Prop} {Y':aR} {w1:World} (xo:BZ P tell D A.tE A.bN X sJ sN sI sL sM sO sK) (h:DJ X S w Y' w1):DJ X S w Y' w1.drew:=h.later xo (dU (aT _ _))
theorem qx (xo:BZ P tell D A.tE A.bN X sJ sN sI sL sM sO sK) (ds:DS P tell sz HM oR D) (h:AD P D X A Z U Y w) (hK:jM D K Y) (KN:K+10000≤900000000) (x nn c a b:Int) :
  Calls prog 18 #[.pointer (some ⟨A.bL,0,none⟩),.agg #[.int .i64 1,.int .i64 x,.int .i64 nn,.int .i64 c,.int .i64 a,.int .i64 b]] w fun e w'=>e = .returned (.bool true)∧∃ Y',yO P D X A Z U w Y' w'∧jM D (K+4000) Y':=by
 have hmx:=xo.mBe;have hcx:=xo.cBe;go_enter func18,ntmps18;go_upto_region 1 with fail;generalize hW:World.alloc w _=W;have hb:Below w.heap.size w W:=by rw [←hW];exact aB w _
 have hr:Row W w.heap.size 38 [.int .i64 1,.int .i64 x,.int .i64 nn,.int .i64 c,.int .i64 a,.int .i64 b]:=by rw [←hW];exact aV rfl
 have b0:=hr.cell_of (i:=0) rfl;have b1:=hr.cell_of (i:=1) rfl;have b3:=hr.cell_of (i:=3) rfl;have b4:=hr.cell_of (i:=4) rfl;have b5:=hr.cell_of (i:=5) rfl;have gy:¬U w.heap.size:=fun c9=>by have:=h.ul _ c9;omega
 obtain ⟨⟨SX,SD,T,bZ,ms,is,qD,qE,hl,hu,z1,z2⟩,ul⟩:=h.at xo (dU hb);have hnX:¬SX w.heap.size:=fun c9=>gy (hu _ (.inl c9))
 have hnD:¬SD w.heap.size:=fun c9=>gy (hu _ (.inr (.inl c9)))
 have d0:W.cell? ⟨A.bL,0,none⟩=some (.pointer (some ⟨A.bX,0,none⟩)):=hl.row.cell_of (i:=0) rfl;have dx:W.cell? ⟨A.bX,0,none⟩=some (.iface A.tE (.pointer (some ⟨A.bN,0,none⟩))):=hl.obj.cell_of (i:=0) rfl;have HBX:=aA (xo.be _ _ _ x (⟨c,a,b⟩:M.Op) hl.x);have aGA:=aA (show ∀ w3,DJ X SX W.drew (su D.n Y x ⟨c,a,b⟩) w3→Row w3 A.bL 90 _∧Row w3 A.bX 74 _∧Row w3 w.heap.size 38 _ from fun w3 hg=>⟨(hl.WX xo hg).row,(hl.WX xo hg).obj,hr.of_block (hg.fr.block _ hr.lt hnX)⟩);have HBD:=aA (fun w3 (hg:DJ X SX W.drew (su D.n Y x ⟨c,a,b⟩) w3)=>aCl ds ((hl.WX xo (hg.drew xo)).d) (hK.mono (by omega)) x (⟨c,a,b⟩:M.Op));have TD:=aA (fun w3 w5 (hg:DJ X SX W.drew (su D.n Y x ⟨c,a,b⟩) w3) (hd:xN P oR D SD w3.drew (su D.n Y x ⟨c,a,b⟩) w5)=>(hl.both xo hu ul z1 z2 (hg.drew xo) hd).made (dU hb));have bu:=aA ((hK.su x (⟨c,a,b⟩:M.Op)).mono (show K+1≤K+4000 by omega));clear hW hr hb h xo ds hl hu ul z1 z2 hK;generalize beE D.n Y x=er at *;generalize su D.n Y x ⟨c,a,b⟩=Y' at *;go_upto_region 3 with fail;refine fH (S:=(fun w'=>w'.cell? ⟨A.bL,0,none⟩=some (.pointer (some ⟨A.bX,0,none⟩))∧w'.cell? ⟨A.bX,0,none⟩=some (.iface A.tE (.pointer (some ⟨A.bN,0,none⟩)))∧w'.cell? ⟨w.heap.size,1,none⟩=some (.int .i64 x)∧w'.cell? ⟨w.heap.size,3,none⟩=some (.int .i64 c)∧w'.cell? ⟨w.heap.size,4,none⟩=some (.int .i64 a)∧w'.cell? ⟨w.heap.size,5,none⟩=some (.int .i64 b))) 13 rfl (by kernel_rfl) ?_ (fun hHeld=>?_)
 ·exact ⟨d0,dx,b1,b3,b4,b5⟩
 iterate 11 (refine tk 12 (by rfl) (by kernel_rfl) (by exact fun _ _ _ h=>h) (.inl ⟨by rfl,fun w hS=>by (try dsimp only at hS);go_simp;(try with_reducible rfl)⟩) (by assumption) ?_;try go_frame)
 refine cT 11 (by rfl) (by kernel_rfl) (fun K hK=>?_);go_simp;refine HBX.out.mono ?_;rintro e w3 ⟨rfl,hg⟩;obtain ⟨r1,r2,r3⟩:=aGA.out w3 hg;have HG:=aA hg;clear hg;go_wp2_with fail;refine hK.out _ _ ?_ (fun hHeld=>?_)
 ·exact ⟨r1.cell_of rfl,r2.cell_of rfl,r3.cell_of rfl,r3.cell_of rfl,r3.cell_of rfl,r3.cell_of rfl⟩
 clear hK K
 (try go_frame)
 iterate 1 (refine tk 12 (by rfl) (by kernel_rfl) (by exact fun _ _ _ h=>h) (.inl ⟨by rfl,fun w hS=>by (try dsimp only at hS);go_simp;(try with_reducible rfl)⟩) (by assumption) ?_;try go_frame)
 refine cC (by kernel_rfl) ?_ _;obtain ⟨-,-,e1,e3,e4,e5⟩:=hHeld;have s1:w3.cell? ⟨A.bL,1,none⟩=some (.pointer (some ⟨D.b,0,none⟩)):=r1.cell_of rfl;have qp:=aA r3;have pX:=aA r1;clear r1 r2 r3 d0 dx b0 b1 b3 b4 b5 hmx hcx;go_upto_region 4 with fail;have aJM:=aA (HBD.out w3 HG.out);have HF2:=aA (fun w5 hd=>TD.out w3 w5 HG.out hd);clear HBD TD HG aGA
 go_region_with (go_at_call 43;refine aJM.out.mono ?_;rintro e w5 ⟨rfl,hd⟩;have HD5:=aA (HF2.out w5 hd);clear hd)
 all_goals go_wp2_with fail
 all_goals go_ret
 all_goals exact ⟨gT (by simp),_,HD5.out,bu.out⟩
end
section
variable {σ:Type} {P:M.Plain σ} {tell:σ→List Int} {sz:σ→Nat} {HM:World→Value→σ→Prop} {D:DL} {X:(Nat→Prop)→aR→World→Prop} {A:LL} {Y:aR} {w:World} {sJ sN sI sL sM sO sK Z K:Nat} {U:Nat→Prop}
theorem dD {b:Nat}:∀ (vs:List Value) (o:Nat) (W:World) (k:Nat),k≠b→(W.setCells b o vs).heap[k]?=W.heap[k]?
 |[],_,_,_,_=>rfl
 |v::vs,o,W,k,hk=>by
  show ((W.setCell ⟨b,o,none⟩ v).setCells b (o+1) vs).heap[k]?=_;rw [dD vs (o+1) _ k hk,cZ _ _ _ k hk]
theorem fE {b:Nat}:∀ (vs:List Value) (o:Nat) (W:World),(W.setCells b o vs).heap.size=W.heap.size
 |[],_,_=>rfl
 |v::vs,o,W=>by
  show ((W.setCell ⟨b,o,none⟩ v).setCells b (o+1) vs).heap.size=_;rw [fE vs (o+1) _];simp [World.setCell]
theorem xJ {b:Nat}:∀ (vs:List Value) (o:Nat) (W:World),(W.setCells b o vs).os=W.os∧(W.setCells b o vs).tape=W.tape∧(W.setCells b o vs).output=W.output
 |[],_,_=>⟨rfl,rfl,rfl⟩
 |v::vs,o,W=>by
  have:=xJ (b:=b) vs (o+1) (W.setCell ⟨b,o,none⟩ v);exact this
theorem RY {w1 w2:World} {b1 o1 b2 o2 b3 o3 o4 o5 o6:Nat} {v1 v2 v3 v4 v5 v6:Value} (h:w1.cell? ⟨b1,o1,none⟩=some v1∧w1.cell? ⟨b2,o2,none⟩=some v2∧w1.cell? ⟨b3,o3,none⟩=some v3∧w1.cell? ⟨b3,o4,none⟩=some v4∧w1.cell? ⟨b3,o5,none⟩=some v5∧w1.cell? ⟨b3,o6,none⟩=some v6)
  (h1:w2.heap[b1]?=w1.heap[b1]?) (h2:w2.heap[b2]?=w1.heap[b2]?) (h3:w2.heap[b3]?=w1.heap[b3]?):w2.cell? ⟨b1,o1,none⟩=some v1∧w2.cell? ⟨b2,o2,none⟩=some v2∧w2.cell? ⟨b3,o3,none⟩=some v3∧w2.cell? ⟨b3,o4,none⟩=some v4∧w2.cell? ⟨b3,o5,none⟩=some v5∧w2.cell? ⟨b3,o6,none⟩=some v6 :=
 ⟨cV h.1 h1,cV h.2.1 h2,cV h.2.2.1 h3,cV h.2.2.2.1 h3,cV h.2.2.2.2.1 h3,cV h.2.2.2.2.2 h3⟩
theorem DJ.aEw {S:Nat→Prop} {Y':aR} {Wa w5:World} (xo:BZ P tell D A.tE A.bN X sJ sN sI sL sM sO sK) (hb:Below w.heap.size w Wa) (hS:∀ k,S k→k<w.heap.size) (hz:w.heap.size<Wa.heap.size) (h:DJ X S Wa Y' w5) (vs:List Value):DJ X S w Y' (w5.setCells w.heap.size 0 vs):=by
 have hs:=h.fr.size;refine ⟨xo.stay _ _ _ _ _ h.x (fun k hk=>dD vs 0 w5 k ?_) (fun k hk=>?_) (fun k hk=>?_),?_⟩
 ·rintro rfl
  rcases hk with c|c
  ·have:=hS _ c;omega
  ·omega
 ·rcases hk with c|c
  ·exact .inl c
  ·exact .inr ⟨by omega,by rw [fE];exact c.2⟩
 ·rw [fE]
  rcases hk with c|c
  ·have:=hS k c;omega
  ·have:=c.2;rw [fE] at this;exact this
 ·obtain ⟨q1,q2,q3⟩:=xJ (b:=w.heap.size) vs 0 w5
  refine ⟨q1.trans (h.fr.os.trans hb.os),q2.trans (h.fr.tape.trans hb.tape),q3.trans (h.fr.output.trans hb.output),by rw [fE];omega,fun k hk hn=>?_⟩;rw [dD vs 0 w5 k (by omega),h.fr.block k (by omega) hn];exact hb.block k hk
theorem DJ.aEx {S:Nat→Prop} {Y':aR} {w5:World} (xo:BZ P tell D A.tE A.bN X sJ sN sI sL sM sO sK) (h:DJ X S w Y' w5) (ob:Obj) (vs:List Value):DJ X S w Y' ((w5.alloc ob).setCells w5.heap.size 0 vs):=h.later xo (cO (bQ _) _ _ _ (aB _ _))
theorem xN.aEw {S:Nat→Prop} {Y':aR} {Wa w5:World} (ds:DS P tell sz HM oR D) (hw:DW P oR D S Y w) (hb:Below w.heap.size w Wa) (hz:w.heap.size<Wa.heap.size) (h:xN P oR D S Wa Y' w5) (vs:List Value):xN P oR D S w Y' (w5.setCells w.heap.size 0 vs):=by
 have hs:=h.fr.size;have hS:=hw.doc.lt;refine hw.left ds ⟨h.dw.doc.stay (fun k hk=>dD vs 0 w5 k ?_) (fun k hk=>?_) (fun k hk=>?_),?_⟩ h.dw.yi
 ·rintro rfl
  rcases hk with c|c
  ·have:=hS _ c;omega
  ·omega
 ·rcases hk with c|c
  ·exact .inl c
  ·exact .inr ⟨by omega,by rw [fE];exact c.2⟩
 ·rw [fE]
  rcases hk with c|c
  ·have:=hS k c;omega
  ·have:=c.2;rw [fE] at this;exact this
 ·obtain ⟨q1,q2,q3⟩:=xJ (b:=w.heap.size) vs 0 w5
  refine ⟨q1.trans (h.fr.os.trans hb.os),q2.trans (h.fr.tape.trans hb.tape),q3.trans (h.fr.output.trans hb.output),by rw [fE];omega,fun k hk hn=>?_⟩;rw [dD vs 0 w5 k (by omega),h.fr.block k (by omega) hn];exact hb.block k hk
theorem xN.later {S:Nat→Prop} {Y':aR} {w5 w6:World} (ds:DS P tell sz HM oR D) (hw:DW P oR D S Y w) (h:xN P oR D S w Y' w5) (hb:Below w5.heap.size w5 w6):xN P oR D S w Y' w6 :=
 hw.left ds ((⟨h.dw.doc,h.fr⟩:eO D S w Y' w5).next (eO.below h.dw.doc hb)) h.dw.yi
theorem xN.aEx {S:Nat→Prop} {Y':aR} {w5:World} (ds:DS P tell sz HM oR D) (hw:DW P oR D S Y w) (h:xN P oR D S w Y' w5) (ob:Obj) (vs:List Value):xN P oR D S w Y' ((w5.alloc ob).setCells w5.heap.size 0 vs):=h.later ds hw (cO (bQ _) _ _ _ (aB _ _))
theorem DJ.dJ {S:Nat→Prop} {Y':aR} {w5:World} (_xo:BZ P tell D A.tE A.bN X sJ sN sI sL sM sO sK) (h:DJ X S w.drew Y' w5):DJ X S w Y' w5:=⟨h.x,⟨h.fr.os,h.fr.tape,h.fr.output,h.fr.size,h.fr.block⟩⟩
theorem xN.dJ {S:Nat→Prop} {Y':aR} {w5:World} (_ds:DS P tell sz HM oR D) (_hw:DW P oR D S Y w) (h:xN P oR D S w.drew Y' w5):xN P oR D S w Y' w5:=⟨h.dw,⟨h.fr.os,h.fr.tape,h.fr.output,h.fr.size,h.fr.block⟩⟩
theorem aEo (xo:BZ P tell D A.tE A.bN X sJ sN sI sL sM sO sK) (ds:DS P tell sz HM oR D) (h:AD P D X A Z U Y w) (hK:jM D K Y) (KN:K+10000≤900000000) (x nn c a b:Int) :
  Calls prog 18 #[.pointer (some ⟨A.bL,0,none⟩),.agg #[.int .i64 4,.int .i64 x,.int .i64 nn,.int .i64 c,.int .i64 a,.int .i64 b]] w fun e w'=>e = .returned (.bool true)∧∃ Y',yO P D X A Z U w Y' w'∧jM D (K+4000) Y':=by
 have hmx:=xo.mDo;have hcx:=xo.cDo;go_enter func18,ntmps18;go_upto_region 1 with fail;generalize hW:World.alloc w _=W;have hb:Below w.heap.size w W:=by rw [←hW];exact aB w _
 have hr:Row W w.heap.size 38 [.int .i64 4,.int .i64 x,.int .i64 nn,.int .i64 c,.int .i64 a,.int .i64 b]:=by rw [←hW];exact aV rfl
 have b0:=hr.cell_of (i:=0) rfl;have b1:=hr.cell_of (i:=1) rfl;have b3:=hr.cell_of (i:=3) rfl;have b4:=hr.cell_of (i:=4) rfl;have b5:=hr.cell_of (i:=5) rfl;have hzw:w.heap.size<W.heap.size:=hr.lt;have gy:¬U w.heap.size:=fun c9=>by have:=h.ul _ c9;omega
 obtain ⟨⟨SX,SD,T,bZ,ms,is,qD,qE,hl,hu,z1,z2⟩,ul⟩:=h.at xo hb;have hnX:¬SX w.heap.size:=fun c9=>gy (hu _ (.inl c9))
 have hnD:¬SD w.heap.size:=fun c9=>gy (hu _ (.inr (.inl c9)))
 have d0:W.cell? ⟨A.bL,0,none⟩=some (.pointer (some ⟨A.bX,0,none⟩)):=hl.row.cell_of (i:=0) rfl;have dx:W.cell? ⟨A.bX,0,none⟩=some (.iface A.tE (.pointer (some ⟨A.bN,0,none⟩))):=hl.obj.cell_of (i:=0) rfl;obtain ⟨xV,LN,YB⟩:=hl.d.n;have bu:=aA (jM.doZ hl.d.yi LN YB hK x (⟨c,a,b⟩:M.Op));have HL:=aA hl;have HX:=aA xo;have HDS:=aA ds;have HU:=aA (aP hu (aP ul (aP z1 z2)));have HBX:=aA (fun (Wa:World) (hB:Below W.heap.size W Wa)=>xo.dd SX Y Wa x (⟨c,a,b⟩:M.Op) K (xo.stay _ _ _ _ _ hl.x (fun k hk=>hB.block k (hl.xl k hk)) (fun _ q=>q) (fun k hk=>cH (hl.xl k hk) hB.size)) hK (by omega));have HB:=aA hb;have HR:=aA hr;have HK:=aA hK;unfold za at HBX;have HT:=aA (show ∀ Wa,DW P oR D SD Y Wa→Calls prog 47 #[.pointer (some ⟨D.b,0,none⟩),.int .i64 x,.agg #[.int .i64 c,.int .i64 a,.int .i64 b]] Wa fun e w'=>e = .returned (za (doT P D.n D.cap Y x ⟨c,a,b⟩))∧xN P oR D SD Wa (doZ D.n D.cap Y x ⟨c,a,b⟩) w' from fun Wa hd=>aJH ds hd hK (by omega) x (⟨c,a,b⟩:M.Op));unfold za at HT;generalize (doT P D.n D.cap Y x ⟨c,a,b⟩).1=rs at *;generalize (doT P D.n D.cap Y x ⟨c,a,b⟩).2.1=rv at *;generalize (doT P D.n D.cap Y x ⟨c,a,b⟩).2.2=re at *;generalize doZ D.n D.cap Y x ⟨c,a,b⟩=Y' at *;clear hW hr hb h xo ds hl hu ul z1 z2 hK;go_upto_region 11 with fail
 go_cut [7,8] (fun p7 e8 w'=>∃ b7:Nat,p7 = .pointer (some ⟨b7,0,none⟩)∧e8 = .int .i64 re∧Row w' b7 94 [.int .i64 rs,.int .i64 rv]∧W.heap.size≤b7∧DJ X SX W Y' w')
 case first =>
  have gw:A.bL<W.heap.size:=HL.out.row.lt;have aHh:A.bX<W.heap.size:=HL.out.obj.lt;have hnL:¬SX A.bL:=fun c9=>(HL.out.dx _ c9).2.2.1 rfl
  have aLZ:¬SX A.bX:=fun c9=>(HL.out.dx _ c9).2.2.2 rfl
  have hnW:¬SX W.heap.size:=fun c9=>by have:=HL.out.xl _ c9;omega
  have HXL:=aA HL.out.xl;have RNA:=aA (show ∀ w5,Fr SX (W.alloc (.cells #[.int .i64 0,.int .i64 0] 94)).drew w5→Row w5 W.heap.size 94 [.int .i64 0,.int .i64 0] from fun w5 hf=>(show Row (W.alloc (.cells #[.int .i64 0,.int .i64 0] 94)).drew W.heap.size 94 [.int .i64 0,.int .i64 0] from dH W [.int .i64 0,.int .i64 0] _).of_block (hf.block _ (by simp) hnW));refine fH (S:=(fun w'=>w'.cell? ⟨A.bL,0,none⟩=some (.pointer (some ⟨A.bX,0,none⟩))∧w'.cell? ⟨A.bX,0,none⟩=some (.iface A.tE (.pointer (some ⟨A.bN,0,none⟩)))∧w'.cell? ⟨w.heap.size,1,none⟩=some (.int .i64 x)∧w'.cell? ⟨w.heap.size,3,none⟩=some (.int .i64 c)∧w'.cell? ⟨w.heap.size,4,none⟩=some (.int .i64 a)∧w'.cell? ⟨w.heap.size,5,none⟩=some (.int .i64 b))) 18 rfl (by kernel_rfl) ?_ (fun hHeld=>?_)
  ·exact ⟨d0,dx,b1,b3,b4,b5⟩
  repeat' first
   |(
    (first|refine ZY [11,15,16] 16 (by rfl) (by decide +kernel) ?_|refine ZY [11,15,16] 17 (by rfl) (by decide +kernel) ?_)
    refine ⟨_,by exact fun _ _ _ h=>h,.inl ⟨by rfl,fun w hS=>by (try dsimp only at hS);go_simp;(try with_reducible rfl)⟩,by assumption,?_⟩
    (try go_frame)
    )
   |(
    (first|refine pF 15 (by rfl) (by decide +kernel) (fun K hK PY=>?_)|refine pF 16 (by rfl) (by decide +kernel) (fun K hK PY=>?_)|refine pF 11 (by rfl) (by decide +kernel) (fun K hK PY=>?_)|refine fC (rs:=[11,15]) (by decide +kernel) (by simp) (JF (by rfl) (fun K hK PY=>?_) (JF (by rfl) (fun K hK PY=>?_) AllReadyH.nil)))
    all_goals first
     |(
      have _:On 11:=PY;go_simp;refine (HBX.out _ (by repeat (first|exact aT _ _|refine dU ?_|refine cI ?_ (by first|(simp;done)|(simp;omega)) _))).mono ?_;rintro e w5 ⟨rfl,hg5⟩;have sP:=hg5.fr;have HG5:=aA hg5;clear hg5;go_wp2_with fail;refine hK.out _ _ ?_ (fun hHeld=>?_)
      ·exact RY hHeld (sP.block _ (by first|exact gw|(simp;omega)) hnL) (sP.block _ (by first|exact aHh|(simp;omega)) aLZ) (sP.block _ (by first|exact hzw|(simp;omega)) hnX)
      clear hK K PY
      (try go_frame)
      )
     |(
      have _:On 15:=PY;go_simp;refine hK.out _ _ ?_ (fun hHeld=>?_)
      ·exact RY hHeld ((aB _ _).block _ (by first|exact gw|(have q:=sP.size;simp at q;omega))) ((aB _ _).block _ (by first|exact aHh|(have q:=sP.size;simp at q;omega))) ((aB _ _).block _ (by first|exact hzw|(have q:=sP.size;simp at q;omega)))
      clear hK K PY
      (try go_frame)
      )
     |(
      rw [aJ (by rfl)];refine nK _ _ _ rfl _ 0 #[.int .i64 rs,.int .i64 rv] rfl rfl ?_ (by kernel_rfl) (by simp [Value.oneCell']) ?_
      ·first|exact Row.there (dH _ [_,_] _) (by simp)|exact Row.there (RNA.out _ sP) (by simp)
      refine hK.out _ _ ?_ (fun hHeld=>?_)
      ·exact RY hHeld (dD _ _ _ _ (by first|omega|(have q:=sP.size;simp at q;omega))) (dD _ _ _ _ (by first|omega|(have q:=sP.size;simp at q;omega))) (dD _ _ _ _ (by first|omega|(have q:=sP.size;simp at q;omega)))
      clear hK K PY
      (try go_frame)
      )
    )
   |(
    refine cC (by decide +kernel) ?_ _
    (try go_wp2_with fail)
    go_meet
    case rel =>
     first
      |exact ⟨w5.heap.size,rfl,rfl,((dH w5 [.int .i64 0,.int .i64 0] 94).set 0 _).set 1 _,sP.size,DJ.aEx HX.out (DJ.dJ HX.out HG5.out) _ [.int .i64 rs,.int .i64 rv]⟩
      |exact ⟨W.heap.size,rfl,rfl,((RNA.out _ sP).set 0 _).set 1 _,bQ _,DJ.aEw HX.out (dU (aB W _)) HXL.out (by simp) HG5.out [.int .i64 rs,.int .i64 rv]⟩
    )
 case rest =>
  rename World=>W5;obtain ⟨b7,rfl,rfl,hr7,h7,hgx⟩:=hcut;have hlx:=HL.out.WX HX.out hgx;have rb:Row W5 w.heap.size 38 _:=HR.out.of_block (hgx.fr.block _ HR.out.lt hnX);have e1:=rb.cell_of (i:=1) rfl;have e3:=rb.cell_of (i:=3) rfl;have e4:=rb.cell_of (i:=4) rfl;have e5:=rb.cell_of (i:=5) rfl;have s1:W5.cell? ⟨A.bL,1,none⟩=some (.pointer (some ⟨D.b,0,none⟩)):=hlx.row.cell_of rfl;have HLX:=aA hlx;have HRB:=aA rb;have DF:=aA hr7;have HGX:=aA hgx;have h7l:b7<W5.heap.size:=hr7.lt;have hn7:¬SD b7:=fun c9=>by have:=HL.out.d.doc.lt b7 c9;omega
  clear hlx rb hr7 hgx d0 dx b0 b1 b3 b4 b5 hmx hcx;go_upto_region 12 with fail
  go_cut [9,10] (fun p9 e10 w'=>∃ b9:Nat,p9 = .pointer (some ⟨b9,0,none⟩)∧e10 = .int .i64 re∧Row w' b9 94 [.int .i64 rs,.int .i64 rv]∧Row w' b7 94 [.int .i64 rs,.int .i64 rv]∧xN P oR D SD W5 Y' w')
  case first =>
   have gw:A.bL<W5.heap.size:=HLX.out.row.lt;have aQP:D.b<W5.heap.size:=by obtain ⟨_,_,_,_,_,q⟩:=HLX.out.d.doc;exact q.obj.lt
   have aHX:w.heap.size<W5.heap.size:=HRB.out.lt;have hnL:¬SD A.bL:=fun c9=>(HL.out.dd _ c9).2.1 rfl
   have hnW:¬SD W5.heap.size:=fun c9=>by have:=HLX.out.d.doc.lt _ c9;omega
   have HDW:=aA HLX.out.d;have RNA:=aA (show ∀ w5,Fr SD (W5.alloc (.cells #[.int .i64 0,.int .i64 0] 94)).drew w5→Row w5 W5.heap.size 94 [.int .i64 0,.int .i64 0] from fun w5 hf=>(show Row (W5.alloc (.cells #[.int .i64 0,.int .i64 0] 94)).drew W5.heap.size 94 [.int .i64 0,.int .i64 0] from dH W5 [.int .i64 0,.int .i64 0] _).of_block (hf.block _ (by simp) hnW));have HBD:=aA (fun (Wa:World) (hB:Below W5.heap.size W5 Wa)=>HT.out Wa (HDW.out.SN (fun k hk=>hB.block k (HDW.out.doc.lt k hk)) hB.size));have s0:W5.cell? ⟨A.bL,0,none⟩=some (.pointer (some ⟨A.bX,0,none⟩)):=HLX.out.row.cell_of rfl;refine fH (S:=(fun w'=>w'.cell? ⟨A.bL,0,none⟩=some (.pointer (some ⟨A.bX,0,none⟩))∧w'.cell? ⟨A.bL,1,none⟩=some (.pointer (some ⟨D.b,0,none⟩))∧w'.cell? ⟨w.heap.size,1,none⟩=some (.int .i64 x)∧w'.cell? ⟨w.heap.size,3,none⟩=some (.int .i64 c)∧w'.cell? ⟨w.heap.size,4,none⟩=some (.int .i64 a)∧w'.cell? ⟨w.heap.size,5,none⟩=some (.int .i64 b))) 15 rfl (by kernel_rfl) ?_ (fun hHeld=>?_)
   ·exact ⟨s0,s1,e1,e3,e4,e5⟩
   repeat' first
    |(
     (first|refine ZY [8,12,13] 13 (by rfl) (by decide +kernel) ?_|refine ZY [8,12,13] 14 (by rfl) (by decide +kernel) ?_)
     refine ⟨_,by exact fun _ _ _ h=>h,.inl ⟨by rfl,fun w hS=>by (try dsimp only at hS);go_simp;(try with_reducible rfl)⟩,by assumption,?_⟩
     (try go_frame)
     )
    |(
     (first|refine pF 12 (by rfl) (by decide +kernel) (fun K hK PY=>?_)|refine pF 13 (by rfl) (by decide +kernel) (fun K hK PY=>?_)|refine pF 8 (by rfl) (by decide +kernel) (fun K hK PY=>?_)|refine fC (rs:=[8,12]) (by decide +kernel) (by simp) (JF (by rfl) (fun K hK PY=>?_) (JF (by rfl) (fun K hK PY=>?_) AllReadyH.nil)))
     all_goals first
      |(
       have _:On 8:=PY;go_simp;refine (HBD.out _ (by repeat (first|exact aT _ _|refine dU ?_|refine cI ?_ (by first|(simp;done)|(simp;omega)) _))).mono ?_;rintro e w5 ⟨rfl,hg5⟩;have sP:=hg5.fr;have HG5:=aA hg5;clear hg5;go_wp2_with fail;refine hK.out _ _ ?_ (fun hHeld=>?_)
       ·exact RY hHeld (sP.block _ (by first|exact gw|(simp;omega)) hnL) (sP.block _ (by first|exact gw|(simp;omega)) hnL) (sP.block _ (by first|exact aHX|(simp;omega)) hnD)
       clear hK K PY
       (try go_frame)
       )
      |(
       have _:On 12:=PY;go_simp;refine hK.out _ _ ?_ (fun hHeld=>?_)
       ·exact RY hHeld ((aB _ _).block _ (by first|exact gw|(have q:=sP.size;simp at q;omega))) ((aB _ _).block _ (by first|exact gw|(have q:=sP.size;simp at q;omega))) ((aB _ _).block _ (by first|exact aHX|(have q:=sP.size;simp at q;omega)))
       clear hK K PY
       (try go_frame)
       )
      |(
       rw [aJ (by rfl)];refine nK _ _ _ rfl _ 0 #[.int .i64 rs,.int .i64 rv] rfl rfl ?_ (by kernel_rfl) (by simp [Value.oneCell']) ?_
       ·first|exact Row.there (dH _ [_,_] _) (by simp)|exact Row.there (RNA.out _ sP) (by simp)
       refine hK.out _ _ ?_ (fun hHeld=>?_)
       ·exact RY hHeld (dD _ _ _ _ (by first|omega|(have q:=sP.size;simp at q;omega))) (dD _ _ _ _ (by first|omega|(have q:=sP.size;simp at q;omega))) (dD _ _ _ _ (by first|omega|(have q:=sP.size;simp at q;omega)))
       clear hK K PY
       (try go_frame)
       )
     )
    |(
     refine cC (by decide +kernel) ?_ _
     (try go_wp2_with fail)
     go_meet
     case rel =>
      first
       |exact ⟨w5.heap.size,rfl,rfl,((dH w5 [.int .i64 0,.int .i64 0] 94).set 0 _).set 1 _,(DF.out.of_block (sP.block _ h7l hn7)).of_block ((dD [.int .i64 rs,.int .i64 rv] 0 _ _ (by have q:=sP.size;simp at q;omega)).trans ((aB _ _).block _ (by have q:=sP.size;simp at q;omega))),xN.aEx HDS.out HDW.out (xN.dJ HDS.out HDW.out HG5.out) _ [.int .i64 rs,.int .i64 rv]⟩
       |exact ⟨W5.heap.size,rfl,rfl,((RNA.out _ sP).set 0 _).set 1 _,((DF.out.alloc _).of_block (sP.block _ (by simp;omega) hn7)).of_block (dD [.int .i64 rs,.int .i64 rv] 0 _ _ (by omega)),xN.aEw HDS.out HDW.out (dU (aB W5 _)) (by simp) HG5.out [.int .i64 rs,.int .i64 rv]⟩
     )
  case rest =>
   obtain ⟨b9,rfl,rfl,hr9,hr7,hd⟩:=hcut;have y0:=hr7.cell_of (i:=0) rfl;have y1:=hr7.cell_of (i:=1) rfl;have z0:=hr9.cell_of (i:=0) rfl;have z1:=hr9.cell_of (i:=1) rfl;have HF:=aA ((HL.out.both HX.out HU.out.1 HU.out.2.1 HU.out.2.2.1 HU.out.2.2.2 HGX.out hd).made HB.out);clear hr9 hr7 hd e1 e3 e4 e5 s1;go_wp2_with fail;go_ret;exact ⟨gT (by simp),_,HF.out,bu.out⟩
end
end Go.Proofs.YtefjhnhdagolhaaGreat
