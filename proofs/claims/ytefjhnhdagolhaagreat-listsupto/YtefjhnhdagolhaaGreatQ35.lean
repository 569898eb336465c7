import Derived.Test.YtefjhnhdagolhaaGreatQ34
namespace Go.Proofs.YtefjhnhdagolhaaGreat
open Go.RowKit
open M (aI aC aD aR aT cnt marks tagged num YI)
attribute [local go_sem ↓] Go.wp_at_zero Go.wp_at_succ
theorem fJ.gT {σ:Type} {P:M.Plain σ} {D:DL} {t:Nat} (hn:0<D.n) (ht:t<D.n):∀ (f K r:Nat) (Y:aR),YI P D.n D.cap Y→fJ D K Y→(Y.th t).jN D.n D.cap≤r→fJ D (K+r) (M.gT D.n D.cap t f Y)
 |0,K,r,Y,_,h,_=>h.mono (Nat.le_add_right _ _)
 |f+1,K,r,Y,hy,h,hr=>by
  simp only [M.gT]
  by_cases hp:(Y.th t).part=0
  ·rw [if_pos hp];exact h.mono (Nat.le_add_right _ _)
  ·rw [if_neg hp]
   have h1:=M.pW hn (hy.ok.th t ht) hp
   exact (fJ.gT hn ht f (K+1) (r-1) _ (hy.step hn ht hp) (h.step t) (by omega)).mono (by omega)
theorem fJ.UL {σ:Type} {P:M.Plain σ} {D:DL} {K:Nat} {Y:aR} (hy:YI P D.n D.cap Y) (rN:D.n≤64) (hc:D.cap≤64) (h:fJ D K Y) (x:Int) (o:M.Op):fJ D (K+4000) (UL D.n D.cap Y x o):=by
 unfold Go.Proofs.YtefjhnhdagolhaaGreat.UL
 split
 ·rename_i hx
  obtain ⟨t,rfl,ht,e⟩:=jC hx
  rw [e]
  unfold ZJ
  split
  ·exact h.mono (Nat.le_add_right _ _)
  ·rename_i hp
   have hp:(Y.th t).part=0:=by simpa using hp
   unfold M.fin
   have:=M.FJ rN hc
   exact (fJ.gT (P:=P) (by omega) ht 100000 (K+1) (M.bound D.n D.cap) _ (hy.begin ht hp o) (h.begin t o) (by rw [M.wQ];exact Nat.le_refl _)).mono (by omega)
 ·exact h.mono (Nat.le_add_right _ _)
theorem fJ.NI {D:DL} {K:Nat} {Y:aR} (h:fJ D K Y) (x:Int) (o:M.Op):fJ D (K+1) (NI D.n Y x o):=by
 unfold Go.Proofs.YtefjhnhdagolhaaGreat.NI
 split
 ·split
  ·exact h.begin _ _
  ·exact h.mono (Nat.le_succ _)
 ·exact h.mono (Nat.le_succ _)
section
variable {σ:Type} {P:M.Plain σ} {tell:σ→List Int} {sz:σ→Nat} {HM:World→Value→σ→Prop} {D:DL} {X:(Nat→Prop)→aR→World→Prop} {A:LL} {Y:aR} {w:World} {kU kV kW kX kY kZ lA Z K:Nat} {U:Nat→Prop}
theorem qQ.at (xo:qC P tell D A.tE A.bN X kU kV kW kX kY kZ lA) (h:qQ P D X A Z U Y w) {W:World} (hb:Below w.heap.size w W):qQ P D X A Z U Y W:=by
 obtain ⟨⟨SX,SD,T,bC,ms,is,jO,jP,hl,hu,z1,z2⟩,ul⟩:=h
 exact ⟨⟨_,_,_,_,_,_,_,_,hl.below xo hb,hu,z1,z2⟩,fun k hk=>Nat.lt_of_lt_of_le (ul k hk) hb.size⟩
theorem nK.made {W w':World} {Y':aR} {Z':Nat} (hg:nK P D X A Z' U W Y' w') (hb:Below w.heap.size w W):nK P D X A Z' U w Y' w':=by
 obtain ⟨⟨⟨SX,SD,T,bC,ms,is,jO,jP,hl,hu,z1,z2⟩,ul⟩,fr⟩:=hg
 refine ⟨⟨⟨_,_,_,_,_,_,_,_,hl,fun k hk=>?_,z1,z2⟩,fun k hk=>?_⟩,(Fr.cV hb).trans fr⟩
 ·rcases hu k hk with c|c
  ·exact .inl c
  ·exact .inr ⟨Nat.le_trans hb.size c.1,c.2⟩
 ·rcases hk with c|c
  ·exact ul k (.inl c)
  ·exact c.2
set_option maxRecDepth 20000 in
set_option maxHeartbeats 2000000 in
theorem LK (xo:qC P tell D A.tE A.bN X kU kV kW kX kY kZ lA) (ds:DS P tell sz HM iX D) (h:qQ P D X A Z U Y w) (hK:fJ D K Y) (qP:K+10000≤900000000) (x nn c a b:Int) :
  Calls Tryz.prog 18 #[.pointer (some ⟨A.bL,0,none⟩),.agg #[.int .i64 5,.int .i64 x,.int .i64 nn,.int .i64 c,.int .i64 a,.int .i64 b]] w fun e w'=>e = .returned (.bool true)∧nK P D X A Z U w Y w':=by
 go_enter Tryz.func18,Tryz.ntmps18
 go_upto_region 1 with fail
 generalize hW:World.alloc w _=W
 have hb:Below w.heap.size w W:=by rw [←hW];exact aB w _
 have hr:Row W w.heap.size 38 [.int .i64 5,.int .i64 x,.int .i64 nn,.int .i64 c,.int .i64 a,.int .i64 b]:=by rw [←hW];exact Row.new' rfl
 have b0:=hr.cell_of (i:=0) rfl
 have b1:=hr.cell_of (i:=1) rfl
 have b2:=hr.cell_of (i:=2) rfl
 have hL:=h.at xo hb
 have LM:¬U w.heap.size:=fun c9=>by have:=h.ul _ c9;omega
 have HC:=aA (BB xo ds hL (hK.mono (by omega)) x)
 have HH:=aA h
 have HX:=aA xo
 have HB:=aA hb
 clear hW hr hb h xo ds hL hK
 go_wp2_with fail
 refine HC.out.mono ?_
 rintro e w1 ⟨rfl,hg⟩
 have HG:=aA hg
 clear hg
 go_wp2_with fail
 go_ret
 exact ⟨rfl,((HH.out.at HX.out HB.out).below HX.out HG.out).made HB.out⟩
set_option maxRecDepth 20000 in
set_option maxHeartbeats 2000000 in
theorem PU (xo:qC P tell D A.tE A.bN X kU kV kW kX kY kZ lA) (ds:DS P tell sz HM iX D) (h:qQ P D X A Z U Y w) (hK:fJ D K Y) (qP:K+10000≤900000000) (x nn c a b:Int) (hZ:Z≤100000000000) :
  Calls Tryz.prog 18 #[.pointer (some ⟨A.bL,0,none⟩),.agg #[.int .i64 6,.int .i64 x,.int .i64 nn,.int .i64 c,.int .i64 a,.int .i64 b]] w fun e w'=>e = .returned (.bool true)∧nK P D X A (Z+4) U w Y w':=by
 go_enter Tryz.func18,Tryz.ntmps18
 go_upto_region 1 with fail
 generalize hW:World.alloc w _=W
 have hb:Below w.heap.size w W:=by rw [←hW];exact aB w _
 have hr:Row W w.heap.size 38 [.int .i64 6,.int .i64 x,.int .i64 nn,.int .i64 c,.int .i64 a,.int .i64 b]:=by rw [←hW];exact Row.new' rfl
 have b0:=hr.cell_of (i:=0) rfl
 have b1:=hr.cell_of (i:=1) rfl
 have b2:=hr.cell_of (i:=2) rfl
 have hL:=h.at xo hb
 have LM:¬U w.heap.size:=fun c9=>by have:=h.ul _ c9;omega
 have HC:=aA (BD xo ds hL (hK.mono (by omega)) (by omega))
 have HH:=aA h
 have HX:=aA xo
 have HB:=aA hb
 clear hW hr hb h xo ds hL hK
 go_wp2_with fail
 refine HC.out.mono ?_
 rintro e w1 ⟨rfl,hg⟩
 have HG:=aA hg
 clear hg
 go_wp2_with fail
 go_ret
 exact ⟨rfl,HG.out.made HB.out⟩
set_option maxRecDepth 20000 in
set_option maxHeartbeats 2000000 in
theorem PV (xo:qC P tell D A.tE A.bN X kU kV kW kX kY kZ lA) (ds:DS P tell sz HM iX D) (h:qQ P D X A Z U Y w) (hK:fJ D K Y) (qP:K+10000≤900000000) (x nn c a b:Int) (hZ:Z≤100000000000) (hall:(tell (eK P Y Y.order.length).st).length≤1000000000000) :
  Calls Tryz.prog 18 #[.pointer (some ⟨A.bL,0,none⟩),.agg #[.int .i64 7,.int .i64 x,.int .i64 nn,.int .i64 c,.int .i64 a,.int .i64 b]] w fun e w'=>e = .returned (.bool true)∧nK P D X A (Z+4) U w Y w':=by
 go_enter Tryz.func18,Tryz.ntmps18
 go_upto_region 1 with fail
 generalize hW:World.alloc w _=W
 have hb:Below w.heap.size w W:=by rw [←hW];exact aB w _
 have hr:Row W w.heap.size 38 [.int .i64 7,.int .i64 x,.int .i64 nn,.int .i64 c,.int .i64 a,.int .i64 b]:=by rw [←hW];exact Row.new' rfl
 have b0:=hr.cell_of (i:=0) rfl
 have b1:=hr.cell_of (i:=1) rfl
 have b2:=hr.cell_of (i:=2) rfl
 have hL:=h.at xo hb
 have LM:¬U w.heap.size:=fun c9=>by have:=h.ul _ c9;omega
 have HC:=aA (BF xo ds hL (hK.mono (by omega)) (by omega) hall)
 have HH:=aA h
 have HX:=aA xo
 have HB:=aA hb
 clear hW hr hb h xo ds hL hK
 go_wp2_with fail
 refine HC.out.mono ?_
 rintro e w1 ⟨rfl,hg⟩
 have HG:=aA hg
 clear hg
 go_wp2_with fail
 go_ret
 exact ⟨rfl,HG.out.made HB.out⟩
set_option maxRecDepth 20000 in
set_option maxHeartbeats 2000000 in
theorem PW (xo:qC P tell D A.tE A.bN X kU kV kW kX kY kZ lA) (h:qQ P D X A Z U Y w) (x nn c a b:Int) :
  Calls Tryz.prog 18 #[.pointer (some ⟨A.bL,0,none⟩),.agg #[.int .i64 8,.int .i64 x,.int .i64 nn,.int .i64 c,.int .i64 a,.int .i64 b]] w fun e w'=>e = .returned (.bool true)∧nK P D X A Z U w Y w':=by
 go_enter Tryz.func18,Tryz.ntmps18
 go_upto_region 1 with fail
 generalize hW:World.alloc w _=W
 have hb:Below w.heap.size w W:=by rw [←hW];exact aB w _
 have hr:Row W w.heap.size 38 [.int .i64 8,.int .i64 x,.int .i64 nn,.int .i64 c,.int .i64 a,.int .i64 b]:=by rw [←hW];exact Row.new' rfl
 have b0:=hr.cell_of (i:=0) rfl
 have b1:=hr.cell_of (i:=1) rfl
 have b2:=hr.cell_of (i:=2) rfl
 have hL:=h.at xo hb
 have LM:¬U w.heap.size:=fun c9=>by have:=h.ul _ c9;omega
 have HC:=aA (BC xo hL)
 have HH:=aA h
 have HX:=aA xo
 have HB:=aA hb
 clear hW hr hb h xo hL
 go_wp2_with fail
 refine HC.out.mono ?_
 rintro e w1 ⟨rfl,hg⟩
 have HG:=aA hg
 clear hg
 go_wp2_with fail
 go_ret
 exact ⟨rfl,((HH.out.at HX.out HB.out).below HX.out HG.out).made HB.out⟩
set_option maxRecDepth 20000 in
set_option maxHeartbeats 2000000 in
theorem UX (xo:qC P tell D A.tE A.bN X kU kV kW kX kY kZ lA) (h:qQ P D X A Z U Y w) (x nn c a b:Int) (k:Int) (hk:k<1∨8<k) :
  Calls Tryz.prog 18 #[.pointer (some ⟨A.bL,0,none⟩),.agg #[.int .i64 k,.int .i64 x,.int .i64 nn,.int .i64 c,.int .i64 a,.int .i64 b]] w fun e w'=>e = .returned (.bool true)∧nK P D X A Z U w Y w':=by
 have k1:(k == 1)=false:=beq_eq_false_iff_ne.2 (by omega)
 have k2:(k == 2)=false:=beq_eq_false_iff_ne.2 (by omega)
 have k3:(k == 3)=false:=beq_eq_false_iff_ne.2 (by omega)
 have k4:(k == 4)=false:=beq_eq_false_iff_ne.2 (by omega)
 have k5:(k == 5)=false:=beq_eq_false_iff_ne.2 (by omega)
 have k6:(k == 6)=false:=beq_eq_false_iff_ne.2 (by omega)
 have k7:(k == 7)=false:=beq_eq_false_iff_ne.2 (by omega)
 have k8:(k == 8)=false:=beq_eq_false_iff_ne.2 (by omega)
 clear hk
 go_enter Tryz.func18,Tryz.ntmps18
 go_upto_region 1 with fail
 generalize hW:World.alloc w _=W
 have hb:Below w.heap.size w W:=by rw [←hW];exact aB w _
 have hr:Row W w.heap.size 38 [.int .i64 k,.int .i64 x,.int .i64 nn,.int .i64 c,.int .i64 a,.int .i64 b]:=by rw [←hW];exact Row.new' rfl
 have b0:=hr.cell_of (i:=0) rfl
 have b1:=hr.cell_of (i:=1) rfl
 have b2:=hr.cell_of (i:=2) rfl
 have HH:=aA (h.below xo hb)
 clear hW hr hb h xo
 go_wp2_with fail
 go_ret
 exact ⟨rfl,HH.out⟩
set_option maxRecDepth 20000 in
set_option maxHeartbeats 2000000 in
theorem PX (xo:qC P tell D A.tE A.bN X kU kV kW kX kY kZ lA) (ds:DS P tell sz HM iX D) (h:qQ P D X A Z U Y w) (hK:fJ D K Y) (qP:K+10000≤900000000) (x nn c a b:Int) (_hx0 : -9223372036854775808≤x) (_hx1:x≤9223372036854775807) (hn0 : -9223372036854775808≤nn) (lD:nn≤9223372036854775807) :
  Calls Tryz.prog 18 #[.pointer (some ⟨A.bL,0,none⟩),.agg #[.int .i64 2,.int .i64 x,.int .i64 nn,.int .i64 c,.int .i64 a,.int .i64 b]] w fun e w'=>e = .returned (.bool true)∧∃ Y',nK P D X A Z U w Y' w'∧fJ D (K+4000) Y':=by
 go_enter Tryz.func18,Tryz.ntmps18
 go_upto_region 1 with fail
 generalize hW:World.alloc w _=W
 have hb:Below w.heap.size w W:=by rw [←hW];exact aB w _
 have hr:Row W w.heap.size 38 [.int .i64 2,.int .i64 x,.int .i64 nn,.int .i64 c,.int .i64 a,.int .i64 b]:=by rw [←hW];exact Row.new' rfl
 have b0:=hr.cell_of (i:=0) rfl
 have b1:=hr.cell_of (i:=1) rfl
 have b2:=hr.cell_of (i:=2) rfl
 have hL:=h.at xo hb
 have LM:¬U w.heap.size:=fun c9=>by have:=h.ul _ c9;omega
 obtain ⟨p0,p1⟩:=pP nn 400 (by decide)
 obtain ⟨m,hm⟩:∃ m:Nat,1+pk nn 400=(m:Int):=⟨(1+pk nn 400).toNat,by omega⟩
 have HP:=aA (fun (W':World)=>yP nn 400 W' (by decide) (by decide) hn0 lD)
 have hmb:m≤400:=by omega
 have HC:=aA (fun (W':World) (hB:Below W.heap.size W W')=>lawSteps xo ds (qQ.at xo hL hB) hK x m (by omega))
 have LN:=aA ((hK.fR x m).mono (show K+m≤K+4000 by omega))
 have HH:=aA h
 have HX:=aA xo
 have HB:=aA hb
 have HL:=aA hL
 have hwp:IntKind.i64.wrap (1+pk nn 400)=(m:Int):=by rw [hm];exact dJ _ (by omega) (by omega)
 clear hW hr hb h xo ds hL hK hm hn0 lD
 generalize pk nn 400=q at *
 go_upto_region 7 with fail
 refine gO (S:=(fun w'=>w'.cell? ⟨w.heap.size,1,none⟩=some (.int .i64 x)∧w'.cell? ⟨w.heap.size,2,none⟩=some (.int .i64 nn))) 9 rfl (by kernel_rfl) ?_ (fun hHeld=>?_)
 ·exact ⟨b1,b2⟩
 iterate 5 (refine tk 8 (by rfl) (by kernel_rfl) (by exact fun _ _ _ h=>h) (.inl ⟨by rfl,fun w hS=>by (try dsimp only at hS);go_simp;(try with_reducible rfl)⟩) (by assumption) ?_;try go_frame)
 refine aU 5 (by rfl) (by kernel_rfl) (fun K hK=>?_)
 go_simp
 refine (HP.out _).mono ?_
 rintro e w2 ⟨rfl,rfl⟩
 go_wp2_with fail
 refine hK.out _ _ ?_ (fun hHeld=>?_)
 ·exact hHeld
 clear hK K
 (try go_frame)
 iterate 1 (refine tk 8 (by rfl) (by kernel_rfl) (by exact fun _ _ _ h=>h) (.inl ⟨by rfl,fun w hS=>by (try dsimp only at hS);go_simp;(try with_reducible rfl)⟩) (by assumption) ?_;try go_frame)
 refine aU 7 (by rfl) (by kernel_rfl) (fun K hK=>?_)
 go_simp
 (try rw [hwp])
 refine (HC.out _ (Below.drew (Below.refl _ _))).mono ?_
 rintro e w3 ⟨rfl,hg⟩
 have q1:w3.cell? ⟨w.heap.size,1,none⟩=some (.int .i64 x):=bM b1 (hg.fr.block _ (World.block_lt_of_cell? _ _ b1) LM)
 have q2:w3.cell? ⟨w.heap.size,2,none⟩=some (.int .i64 nn):=bM b2 (hg.fr.block _ (World.block_lt_of_cell? _ _ b2) LM)
 have HG:=aA hg
 clear hg
 go_wp2_with fail
 refine hK.out _ _ ?_ (fun hHeld=>?_)
 ·exact ⟨q1,q2⟩
 clear hK K
 (try go_frame)
 iterate 1 (refine tk 8 (by rfl) (by kernel_rfl) (by exact fun _ _ _ h=>h) (.inl ⟨by rfl,fun w hS=>by (try dsimp only at hS);go_simp;(try with_reducible rfl)⟩) (by assumption) ?_;try go_frame)
 refine wpAnyH_done (by kernel_rfl) ?_ _
 (try go_wp2_with fail)
 go_ret
 exact ⟨rfl,_,(HG.out.made (Below.drew (Below.refl _ _))).made HB.out,LN.out⟩
set_option maxRecDepth 20000 in
set_option maxHeartbeats 2000000 in
theorem PY (xo:qC P tell D A.tE A.bN X kU kV kW kX kY kZ lA) (ds:DS P tell sz HM iX D) (h:qQ P D X A Z U Y w) (hK:fJ D K Y) (qP:K+10000≤900000000) (x nn c a b:Int) (hx0 : -9223372036854775808≤x) (hx1:x≤9223372036854775807) (hn0 : -9223372036854775808≤nn) (lD:nn≤9223372036854775807) :
  Calls Tryz.prog 18 #[.pointer (some ⟨A.bL,0,none⟩),.agg #[.int .i64 3,.int .i64 x,.int .i64 nn,.int .i64 c,.int .i64 a,.int .i64 b]] w fun e w'=>e = .returned (.bool true)∧∃ Y',nK P D X A Z U w Y' w'∧fJ D (K+4000) Y':=by
 go_enter Tryz.func18,Tryz.ntmps18
 go_upto_region 1 with fail
 generalize hW:World.alloc w _=W
 have hb:Below w.heap.size w W:=by rw [←hW];exact aB w _
 have hr:Row W w.heap.size 38 [.int .i64 3,.int .i64 x,.int .i64 nn,.int .i64 c,.int .i64 a,.int .i64 b]:=by rw [←hW];exact Row.new' rfl
 have b0:=hr.cell_of (i:=0) rfl
 have b1:=hr.cell_of (i:=1) rfl
 have b2:=hr.cell_of (i:=2) rfl
 have hL:=h.at xo hb
 have LM:¬U w.heap.size:=fun c9=>by have:=h.ul _ c9;omega
 have rN:D.n≤64:=by obtain ⟨_,_,_,_,_,_,_,_,hl9,-⟩:=h.ex;exact hl9.d.n.2.1
 obtain ⟨p0,p1⟩:=pP nn 60 (by decide)
 obtain ⟨m,hm⟩:∃ m:Nat,1+pk nn 60=(m:Int):=⟨(1+pk nn 60).toNat,by omega⟩
 have HP:=aA (fun (W':World)=>yP nn 60 W' (by decide) (by decide) hn0 lD)
 have hmb:m≤60:=by omega
 have HC:=aA (fun (W':World) (hB:Below W.heap.size W W')=>US xo ds (qQ.at xo hL hB) hK x hx0 hx1 m hmb (by omega))
 have LN:=aA ((hK.jD (pk x D.n) (m*D.n)).mono (show K+m*D.n≤K+4000 by have:=Nat.mul_le_mul hmb rN;omega))
 have HH:=aA h
 have HX:=aA xo
 have HB:=aA hb
 have HL:=aA hL
 have hwp:IntKind.i64.wrap (1+pk nn 60)=(m:Int):=by rw [hm];exact dJ _ (by omega) (by omega)
 clear hW hr hb h xo ds hL hK hm hx0 hx1 hn0 lD
 generalize pk nn 60=q at *
 go_upto_region 9 with fail
 refine gO (S:=(fun w'=>w'.cell? ⟨w.heap.size,1,none⟩=some (.int .i64 x)∧w'.cell? ⟨w.heap.size,2,none⟩=some (.int .i64 nn))) 9 rfl (by kernel_rfl) ?_ (fun hHeld=>?_)
 ·exact ⟨b1,b2⟩
 iterate 5 (refine tk 8 (by rfl) (by kernel_rfl) (by exact fun _ _ _ h=>h) (.inl ⟨by rfl,fun w hS=>by (try dsimp only at hS);go_simp;(try with_reducible rfl)⟩) (by assumption) ?_;try go_frame)
 refine aU 5 (by rfl) (by kernel_rfl) (fun K hK=>?_)
 go_simp
 refine (HP.out _).mono ?_
 rintro e w2 ⟨rfl,rfl⟩
 go_wp2_with fail
 refine hK.out _ _ ?_ (fun hHeld=>?_)
 ·exact hHeld
 clear hK K
 (try go_frame)
 iterate 1 (refine tk 8 (by rfl) (by kernel_rfl) (by exact fun _ _ _ h=>h) (.inl ⟨by rfl,fun w hS=>by (try dsimp only at hS);go_simp;(try with_reducible rfl)⟩) (by assumption) ?_;try go_frame)
 refine aU 7 (by rfl) (by kernel_rfl) (fun K hK=>?_)
 go_simp
 (try rw [hwp])
 refine (HC.out _ (Below.drew (Below.refl _ _))).mono ?_
 rintro e w3 ⟨rfl,hg⟩
 have q1:w3.cell? ⟨w.heap.size,1,none⟩=some (.int .i64 x):=bM b1 (hg.fr.block _ (World.block_lt_of_cell? _ _ b1) LM)
 have q2:w3.cell? ⟨w.heap.size,2,none⟩=some (.int .i64 nn):=bM b2 (hg.fr.block _ (World.block_lt_of_cell? _ _ b2) LM)
 have HG:=aA hg
 clear hg
 go_wp2_with fail
 refine hK.out _ _ ?_ (fun hHeld=>?_)
 ·exact ⟨q1,q2⟩
 clear hK K
 (try go_frame)
 iterate 1 (refine tk 8 (by rfl) (by kernel_rfl) (by exact fun _ _ _ h=>h) (.inl ⟨by rfl,fun w hS=>by (try dsimp only at hS);go_simp;(try with_reducible rfl)⟩) (by assumption) ?_;try go_frame)
 refine wpAnyH_done (by kernel_rfl) ?_ _
 (try go_wp2_with fail)
 go_ret
 exact ⟨rfl,_,(HG.out.made (Below.drew (Below.refl _ _))).made HB.out,LN.out⟩
end
end Go.Proofs.YtefjhnhdagolhaaGreat
namespace Go.Proofs.YtefjhnhdagolhaaGreat
open Go.RowKit
open M (aI aC aD aR aT cnt marks tagged num YI)
attribute [local go_sem ↓] Go.wp_at_zero Go.wp_at_succ
section
variable {σ:Type} {P:M.Plain σ} {tell:σ→List Int} {sz:σ→Nat} {HM:World→Value→σ→Prop} {D:DL} {X:(Nat→Prop)→aR→World→Prop} {A:LL} {Y:aR} {w:World} {kU kV kW kX kY kZ lA Z K:Nat} {U:Nat→Prop}
theorem qB.later {S:Nat→Prop} {Y':aR} {w1 w2:World} (xo:qC P tell D A.tE A.bN X kU kV kW kX kY kZ lA) (h:qB X S w Y' w1) (hb:Below w1.heap.size w1 w2):qB X S w Y' w2 :=
 ⟨xo.stay _ _ _ _ _ h.x (fun k hk=>hb.block k (xo.lt _ _ _ h.x k hk)) (fun k hk=>by
  rcases hk with c|c
  ·exact .inl c
  ·exact .inr ⟨c.1,Nat.lt_of_lt_of_le c.2 hb.size⟩) (fun k hk=>by
  rcases hk with c|c
  ·exact Nat.lt_of_lt_of_le (xo.lt _ _ _ h.x k (.inl c)) hb.size
  ·exact c.2),h.fr.trans (Fr.cV hb)⟩
theorem qB.drew {S:Nat→Prop} {Y':aR} {w1:World} (xo:qC P tell D A.tE A.bN X kU kV kW kX kY kZ lA) (h:qB X S w Y' w1):qB X S w Y' w1.drew:=h.later xo (Below.drew (Below.refl _ _))
set_option maxRecDepth 20000 in
set_option maxHeartbeats 4000000 in
theorem PZ (xo:qC P tell D A.tE A.bN X kU kV kW kX kY kZ lA) (ds:DS P tell sz HM iX D) (h:qQ P D X A Z U Y w) (hK:fJ D K Y) (qP:K+10000≤900000000) (x nn c a b:Int) :
  Calls Tryz.prog 18 #[.pointer (some ⟨A.bL,0,none⟩),.agg #[.int .i64 1,.int .i64 x,.int .i64 nn,.int .i64 c,.int .i64 a,.int .i64 b]] w fun e w'=>e = .returned (.bool true)∧∃ Y',nK P D X A Z U w Y' w'∧fJ D (K+4000) Y':=by
 have hmx:=xo.mBe
 have hcx:=xo.cBe
 go_enter Tryz.func18,Tryz.ntmps18
 go_upto_region 1 with fail
 generalize hW:World.alloc w _=W
 have hb:Below w.heap.size w W:=by rw [←hW];exact aB w _
 have hr:Row W w.heap.size 38 [.int .i64 1,.int .i64 x,.int .i64 nn,.int .i64 c,.int .i64 a,.int .i64 b]:=by rw [←hW];exact Row.new' rfl
 have b0:=hr.cell_of (i:=0) rfl
 have b1:=hr.cell_of (i:=1) rfl
 have b3:=hr.cell_of (i:=3) rfl
 have b4:=hr.cell_of (i:=4) rfl
 have b5:=hr.cell_of (i:=5) rfl
 have LM:¬U w.heap.size:=fun c9=>by have:=h.ul _ c9;omega
 obtain ⟨⟨SX,SD,T,bC,ms,is,jO,jP,hl,hu,z1,z2⟩,ul⟩:=h.at xo (Below.drew hb)
 have hnX:¬SX w.heap.size:=fun c9=>LM (hu _ (.inl c9))
 have hnD:¬SD w.heap.size:=fun c9=>LM (hu _ (.inr (.inl c9)))
 have d0:W.cell? ⟨A.bL,0,none⟩=some (.pointer (some ⟨A.bX,0,none⟩)):=hl.row.cell_of (i:=0) rfl
 have dx:W.cell? ⟨A.bX,0,none⟩=some (.iface A.tE (.pointer (some ⟨A.bN,0,none⟩))):=hl.obj.cell_of (i:=0) rfl
 have HBX:=aA (xo.be _ _ _ x (⟨c,a,b⟩:M.Op) hl.x)
 have aDX:=aA (show ∀ w3,qB X SX W.drew (NI D.n Y x ⟨c,a,b⟩) w3→Row w3 A.bL 90 _∧Row w3 A.bX 74 _∧Row w3 w.heap.size 38 _ from fun w3 hg=>⟨(hl.yO xo hg).row,(hl.yO xo hg).obj,hr.of_block (hg.fr.block _ hr.lt hnX)⟩)
 have HBD:=aA (fun w3 (hg:qB X SX W.drew (NI D.n Y x ⟨c,a,b⟩) w3)=>XU ds ((hl.yO xo (hg.drew xo)).d) (hK.mono (by omega)) x (⟨c,a,b⟩:M.Op))
 have GM:=aA (fun w3 w5 (hg:qB X SX W.drew (NI D.n Y x ⟨c,a,b⟩) w3) (hd:lM P iX D SD w3.drew (NI D.n Y x ⟨c,a,b⟩) w5)=>(hl.both xo hu ul z1 z2 (hg.drew xo) hd).made (Below.drew hb))
 have LN:=aA ((hK.NI x (⟨c,a,b⟩:M.Op)).mono (show K+1≤K+4000 by omega))
 clear hW hr hb h xo ds hl hu ul z1 z2 hK
 generalize beE D.n Y x=er at *
 generalize NI D.n Y x ⟨c,a,b⟩=Y' at *
 go_upto_region 3 with fail
 refine gO (S:=(fun w'=>w'.cell? ⟨A.bL,0,none⟩=some (.pointer (some ⟨A.bX,0,none⟩))∧w'.cell? ⟨A.bX,0,none⟩=some (.iface A.tE (.pointer (some ⟨A.bN,0,none⟩)))∧w'.cell? ⟨w.heap.size,1,none⟩=some (.int .i64 x)∧w'.cell? ⟨w.heap.size,3,none⟩=some (.int .i64 c)∧w'.cell? ⟨w.heap.size,4,none⟩=some (.int .i64 a)∧w'.cell? ⟨w.heap.size,5,none⟩=some (.int .i64 b))) 13 rfl (by kernel_rfl) ?_ (fun hHeld=>?_)
 ·exact ⟨d0,dx,b1,b3,b4,b5⟩
 iterate 11 (refine tk 12 (by rfl) (by kernel_rfl) (by exact fun _ _ _ h=>h) (.inl ⟨by rfl,fun w hS=>by (try dsimp only at hS);go_simp;(try with_reducible rfl)⟩) (by assumption) ?_;try go_frame)
 refine aU 11 (by rfl) (by kernel_rfl) (fun K hK=>?_)
 go_simp
 refine HBX.out.mono ?_
 rintro e w3 ⟨rfl,hg⟩
 obtain ⟨r1,r2,r3⟩:=aDX.out w3 hg
 have HG:=aA hg
 clear hg
 go_wp2_with fail
 refine hK.out _ _ ?_ (fun hHeld=>?_)
 ·exact ⟨r1.cell_of rfl,r2.cell_of rfl,r3.cell_of rfl,r3.cell_of rfl,r3.cell_of rfl,r3.cell_of rfl⟩
 clear hK K
 (try go_frame)
 iterate 1 (refine tk 12 (by rfl) (by kernel_rfl) (by exact fun _ _ _ h=>h) (.inl ⟨by rfl,fun w hS=>by (try dsimp only at hS);go_simp;(try with_reducible rfl)⟩) (by assumption) ?_;try go_frame)
 refine wpAnyH_done (by kernel_rfl) ?_ _
 obtain ⟨-,-,e1,e3,e4,e5⟩:=hHeld
 have s1:w3.cell? ⟨A.bL,1,none⟩=some (.pointer (some ⟨D.b,0,none⟩)):=r1.cell_of rfl
 have VP:=aA r3
 have jF:=aA r1
 clear r1 r2 r3 d0 dx b0 b1 b3 b4 b5 hmx hcx
 go_upto_region 4 with fail
 have aHi:=aA (HBD.out w3 HG.out)
 have HF2:=aA (fun w5 hd=>GM.out w3 w5 HG.out hd)
 clear HBD GM HG aDX
 go_region_with (go_at_call 43;refine aHi.out.mono ?_;rintro e w5 ⟨rfl,hd⟩;have HD5:=aA (HF2.out w5 hd);clear hd)
 all_goals go_wp2_with fail
 all_goals go_ret
 all_goals exact ⟨dR (by simp),_,HD5.out,LN.out⟩
end
end Go.Proofs.YtefjhnhdagolhaaGreat
