import Derived.Test.YtefjhnhdagolhaaGreatQ35
import Derived.Deep.DeepCutAuto
import Derived.Test.YtefjhnhdagolhaaGreatQ20
namespace Go.Proofs.YtefjhnhdagolhaaGreat
open Go.RowKit
open M (aI aC aD aR aT cnt marks tagged num YI)
attribute [local go_sem ↓] Go.wp_at_zero Go.wp_at_succ
section
variable {σ:Type} {P:M.Plain σ} {tell:σ→List Int} {sz:σ→Nat} {HM:World→Value→σ→Prop} {D:DL} {X:(Nat→Prop)→aR→World→Prop} {A:LL} {Y:aR} {w:World} {kU kV kW kX kY kZ lA Z K:Nat} {U:Nat→Prop}
theorem aY {b:Nat}:∀ (vs:List Value) (o:Nat) (W:World) (k:Nat),k≠b→(W.setCells b o vs).heap[k]?=W.heap[k]?
 |[],_,_,_,_=>rfl
 |v::vs,o,W,k,hk=>by
  show ((W.setCell ⟨b,o,none⟩ v).setCells b (o+1) vs).heap[k]?=_
  rw [aY vs (o+1) _ k hk,Below.heap_setCell _ _ _ k hk]
theorem dW {b:Nat}:∀ (vs:List Value) (o:Nat) (W:World),(W.setCells b o vs).heap.size=W.heap.size
 |[],_,_=>rfl
 |v::vs,o,W=>by
  show ((W.setCell ⟨b,o,none⟩ v).setCells b (o+1) vs).heap.size=_
  rw [dW vs (o+1) _]
  simp [World.setCell]
theorem lV {b:Nat}:∀ (vs:List Value) (o:Nat) (W:World),(W.setCells b o vs).os=W.os∧(W.setCells b o vs).tape=W.tape∧(W.setCells b o vs).output=W.output
 |[],_,_=>⟨rfl,rfl,rfl⟩
 |v::vs,o,W=>by
  have:=lV (b:=b) vs (o+1) (W.setCell ⟨b,o,none⟩ v)
  exact this
theorem nS {w1 w2:World} {b1 o1 b2 o2 b3 o3 o4 o5 o6:Nat} {v1 v2 v3 v4 v5 v6:Value} (h:w1.cell? ⟨b1,o1,none⟩=some v1∧w1.cell? ⟨b2,o2,none⟩=some v2∧w1.cell? ⟨b3,o3,none⟩=some v3∧w1.cell? ⟨b3,o4,none⟩=some v4∧w1.cell? ⟨b3,o5,none⟩=some v5∧w1.cell? ⟨b3,o6,none⟩=some v6)
  (h1:w2.heap[b1]?=w1.heap[b1]?) (h2:w2.heap[b2]?=w1.heap[b2]?) (h3:w2.heap[b3]?=w1.heap[b3]?):w2.cell? ⟨b1,o1,none⟩=some v1∧w2.cell? ⟨b2,o2,none⟩=some v2∧w2.cell? ⟨b3,o3,none⟩=some v3∧w2.cell? ⟨b3,o4,none⟩=some v4∧w2.cell? ⟨b3,o5,none⟩=some v5∧w2.cell? ⟨b3,o6,none⟩=some v6 :=
 ⟨bM h.1 h1,bM h.2.1 h2,bM h.2.2.1 h3,bM h.2.2.2.1 h3,bM h.2.2.2.2.1 h3,bM h.2.2.2.2.2 h3⟩
theorem qB.UY {S:Nat→Prop} {Y':aR} {Wa w5:World} (xo:qC P tell D A.tE A.bN X kU kV kW kX kY kZ lA) (hb:Below w.heap.size w Wa) (hS:∀ k,S k→k<w.heap.size) (hz:w.heap.size<Wa.heap.size) (h:qB X S Wa Y' w5) (vs:List Value):qB X S w Y' (w5.setCells w.heap.size 0 vs):=by
 have hs:=h.fr.size
 refine ⟨xo.stay _ _ _ _ _ h.x (fun k hk=>aY vs 0 w5 k ?_) (fun k hk=>?_) (fun k hk=>?_),?_⟩
 ·rintro rfl
  rcases hk with c|c
  ·have:=hS _ c;omega
  ·omega
 ·rcases hk with c|c
  ·exact .inl c
  ·exact .inr ⟨by omega,by rw [dW];exact c.2⟩
 ·rw [dW]
  rcases hk with c|c
  ·have:=hS k c;omega
  ·have:=c.2;rw [dW] at this;exact this
 ·obtain ⟨q1,q2,q3⟩:=lV (b:=w.heap.size) vs 0 w5
  refine ⟨q1.trans (h.fr.os.trans hb.os),q2.trans (h.fr.tape.trans hb.tape),q3.trans (h.fr.output.trans hb.output),by rw [dW];omega,fun k hk hn=>?_⟩
  rw [aY vs 0 w5 k (by omega),h.fr.block k (by omega) hn]
  exact hb.block k hk
theorem qB.UZ {S:Nat→Prop} {Y':aR} {w5:World} (xo:qC P tell D A.tE A.bN X kU kV kW kX kY kZ lA) (h:qB X S w Y' w5) (ob:Obj) (vs:List Value):qB X S w Y' ((w5.alloc ob).setCells w5.heap.size 0 vs):=h.later xo (bA (Nat.le_refl _) _ _ _ (aB _ _))
theorem lM.UY {S:Nat→Prop} {Y':aR} {Wa w5:World} (ds:DS P tell sz HM iX D) (hw:DW P iX D S Y w) (hb:Below w.heap.size w Wa) (hz:w.heap.size<Wa.heap.size) (h:lM P iX D S Wa Y' w5) (vs:List Value):lM P iX D S w Y' (w5.setCells w.heap.size 0 vs):=by
 have hs:=h.fr.size
 have hS:=hw.doc.lt
 refine hw.left ds ⟨h.dw.doc.stay (fun k hk=>aY vs 0 w5 k ?_) (fun k hk=>?_) (fun k hk=>?_),?_⟩ h.dw.yi
 ·rintro rfl
  rcases hk with c|c
  ·have:=hS _ c;omega
  ·omega
 ·rcases hk with c|c
  ·exact .inl c
  ·exact .inr ⟨by omega,by rw [dW];exact c.2⟩
 ·rw [dW]
  rcases hk with c|c
  ·have:=hS k c;omega
  ·have:=c.2;rw [dW] at this;exact this
 ·obtain ⟨q1,q2,q3⟩:=lV (b:=w.heap.size) vs 0 w5
  refine ⟨q1.trans (h.fr.os.trans hb.os),q2.trans (h.fr.tape.trans hb.tape),q3.trans (h.fr.output.trans hb.output),by rw [dW];omega,fun k hk hn=>?_⟩
  rw [aY vs 0 w5 k (by omega),h.fr.block k (by omega) hn]
  exact hb.block k hk
theorem lM.later {S:Nat→Prop} {Y':aR} {w5 w6:World} (ds:DS P tell sz HM iX D) (hw:DW P iX D S Y w) (h:lM P iX D S w Y' w5) (hb:Below w5.heap.size w5 w6):lM P iX D S w Y' w6 :=
 hw.left ds ((⟨h.dw.doc,h.fr⟩:dL D S w Y' w5).next (dL.below h.dw.doc hb)) h.dw.yi
theorem lM.UZ {S:Nat→Prop} {Y':aR} {w5:World} (ds:DS P tell sz HM iX D) (hw:DW P iX D S Y w) (h:lM P iX D S w Y' w5) (ob:Obj) (vs:List Value):lM P iX D S w Y' ((w5.alloc ob).setCells w5.heap.size 0 vs):=h.later ds hw (bA (Nat.le_refl _) _ _ _ (aB _ _))
theorem qB.cJ {S:Nat→Prop} {Y':aR} {w5:World} (_xo:qC P tell D A.tE A.bN X kU kV kW kX kY kZ lA) (h:qB X S w.drew Y' w5):qB X S w Y' w5:=⟨h.x,⟨h.fr.os,h.fr.tape,h.fr.output,h.fr.size,h.fr.block⟩⟩
theorem lM.cJ {S:Nat→Prop} {Y':aR} {w5:World} (_ds:DS P tell sz HM iX D) (_hw:DW P iX D S Y w) (h:lM P iX D S w.drew Y' w5):lM P iX D S w Y' w5:=⟨h.dw,⟨h.fr.os,h.fr.tape,h.fr.output,h.fr.size,h.fr.block⟩⟩
set_option maxRecDepth 20000 in
set_option maxHeartbeats 8000000 in
theorem aBz (xo:qC P tell D A.tE A.bN X kU kV kW kX kY kZ lA) (ds:DS P tell sz HM iX D) (h:qQ P D X A Z U Y w) (hK:fJ D K Y) (qP:K+10000≤900000000) (x nn c a b:Int) :
  Calls Tryz.prog 18 #[.pointer (some ⟨A.bL,0,none⟩),.agg #[.int .i64 4,.int .i64 x,.int .i64 nn,.int .i64 c,.int .i64 a,.int .i64 b]] w fun e w'=>e = .returned (.bool true)∧∃ Y',nK P D X A Z U w Y' w'∧fJ D (K+4000) Y':=by
 have hmx:=xo.mDo
 have hcx:=xo.cDo
 go_enter Tryz.func18,Tryz.ntmps18
 go_upto_region 1 with fail
 generalize hW:World.alloc w _=W
 have hb:Below w.heap.size w W:=by rw [←hW];exact aB w _
 have hr:Row W w.heap.size 38 [.int .i64 4,.int .i64 x,.int .i64 nn,.int .i64 c,.int .i64 a,.int .i64 b]:=by rw [←hW];exact Row.new' rfl
 have b0:=hr.cell_of (i:=0) rfl
 have b1:=hr.cell_of (i:=1) rfl
 have b3:=hr.cell_of (i:=3) rfl
 have b4:=hr.cell_of (i:=4) rfl
 have b5:=hr.cell_of (i:=5) rfl
 have OZ:w.heap.size<W.heap.size:=hr.lt
 have LM:¬U w.heap.size:=fun c9=>by have:=h.ul _ c9;omega
 obtain ⟨⟨SX,SD,T,bC,ms,is,jO,jP,hl,hu,z1,z2⟩,ul⟩:=h.at xo hb
 have hnX:¬SX w.heap.size:=fun c9=>LM (hu _ (.inl c9))
 have hnD:¬SD w.heap.size:=fun c9=>LM (hu _ (.inr (.inl c9)))
 have d0:W.cell? ⟨A.bL,0,none⟩=some (.pointer (some ⟨A.bX,0,none⟩)):=hl.row.cell_of (i:=0) rfl
 have dx:W.cell? ⟨A.bX,0,none⟩=some (.iface A.tE (.pointer (some ⟨A.bN,0,none⟩))):=hl.obj.cell_of (i:=0) rfl
 obtain ⟨lD,rS,xQ⟩:=hl.d.n
 have LN:=aA (fJ.UL hl.d.yi rS xQ hK x (⟨c,a,b⟩:M.Op))
 have HL:=aA hl
 have HX:=aA xo
 have WB:=aA ds
 have HU:=aA (And.intro hu (And.intro ul (And.intro z1 z2)))
 have HBX:=aA (fun (Wa:World) (hB:Below W.heap.size W Wa)=>xo.dd SX Y Wa x (⟨c,a,b⟩:M.Op) K (xo.stay _ _ _ _ _ hl.x (fun k hk=>hB.block k (hl.xl k hk)) (fun _ q=>q) (fun k hk=>Nat.lt_of_lt_of_le (hl.xl k hk) hB.size)) hK (by omega))
 have HB:=aA hb
 have HR:=aA hr
 have HK:=aA hK
 unfold QT at HBX
 have HT:=aA (show ∀ Wa,DW P iX D SD Y Wa→Calls Tryz.prog 47 #[.pointer (some ⟨D.b,0,none⟩),.int .i64 x,.agg #[.int .i64 c,.int .i64 a,.int .i64 b]] Wa fun e w'=>e = .returned (QT (XT P D.n D.cap Y x ⟨c,a,b⟩))∧lM P iX D SD Wa (UL D.n D.cap Y x ⟨c,a,b⟩) w' from fun Wa hd=>aG5 ds hd hK (by omega) x (⟨c,a,b⟩:M.Op))
 unfold QT at HT
 generalize (XT P D.n D.cap Y x ⟨c,a,b⟩).1=rs at *
 generalize (XT P D.n D.cap Y x ⟨c,a,b⟩).2.1=rv at *
 generalize (XT P D.n D.cap Y x ⟨c,a,b⟩).2.2=re at *
 generalize UL D.n D.cap Y x ⟨c,a,b⟩=Y' at *
 clear hW hr hb h xo ds hl hu ul z1 z2 hK
 go_upto_region 11 with fail
 go_cut [7,8] (fun p7 e8 w'=>∃ b7:Nat,p7 = .pointer (some ⟨b7,0,none⟩)∧e8 = .int .i64 re∧Row w' b7 94 [.int .i64 rs,.int .i64 rv]∧W.heap.size≤b7∧qB X SX W Y' w')
 case first =>
  have uI:A.bL<W.heap.size:=HL.out.row.lt
  have XX:A.bX<W.heap.size:=HL.out.obj.lt
  have hnL:¬SX A.bL:=fun c9=>(HL.out.dx _ c9).2.2.1 rfl
  have aDZ:¬SX A.bX:=fun c9=>(HL.out.dx _ c9).2.2.2 rfl
  have hnW:¬SX W.heap.size:=fun c9=>by have:=HL.out.xl _ c9;omega
  have HXL:=aA HL.out.xl
  have IQ:=aA (show ∀ w5,Fr SX (W.alloc (.cells #[.int .i64 0,.int .i64 0] 94)).drew w5→Row w5 W.heap.size 94 [.int .i64 0,.int .i64 0] from fun w5 hf=>(show Row (W.alloc (.cells #[.int .i64 0,.int .i64 0] 94)).drew W.heap.size 94 [.int .i64 0,.int .i64 0] from Row.new W [.int .i64 0,.int .i64 0] _).of_block (hf.block _ (by simp) hnW))
  refine gO (S:=(fun w'=>w'.cell? ⟨A.bL,0,none⟩=some (.pointer (some ⟨A.bX,0,none⟩))∧w'.cell? ⟨A.bX,0,none⟩=some (.iface A.tE (.pointer (some ⟨A.bN,0,none⟩)))∧w'.cell? ⟨w.heap.size,1,none⟩=some (.int .i64 x)∧w'.cell? ⟨w.heap.size,3,none⟩=some (.int .i64 c)∧w'.cell? ⟨w.heap.size,4,none⟩=some (.int .i64 a)∧w'.cell? ⟨w.heap.size,5,none⟩=some (.int .i64 b))) 18 rfl (by kernel_rfl) ?_ (fun hHeld=>?_)
  ·exact ⟨d0,dx,b1,b3,b4,b5⟩
  iterate 11 (refine tk 17 (by rfl) (by kernel_rfl) (by exact fun _ _ _ h=>h) (.inl ⟨by rfl,fun w hS=>by (try dsimp only at hS);go_simp;(try with_reducible rfl)⟩) (by assumption) ?_;try go_frame)
  refine wpAnyH_ready (rs:=[11,15]) (by kernel_rfl) (by simp) (rc (by rfl) (fun K hK=>?_) (rc (by rfl) (fun K hK=>?_) AllReadyH.nil))
  ·go_simp
   refine (HBX.out _ (by repeat (first|exact Below.refl _ _|refine Below.drew ?_|refine Below.alloc ?_ (by first|(simp;done)|(simp;omega)) _))).mono ?_
   rintro e w5 ⟨rfl,LO⟩
   have eP:=LO.fr
   have VA:=aA LO
   clear LO
   go_wp2_with fail
   refine hK.out _ _ ?_ (fun hHeld=>?_)
   ·exact nS hHeld (eP.block _ (by first|exact uI|(simp;omega)) hnL) (eP.block _ (by first|exact XX|(simp;omega)) aDZ) (eP.block _ (by first|exact OZ|(simp;omega)) hnX)
   clear hK K
   (try go_frame)
   iterate 3 (refine tk 17 (by rfl) (by kernel_rfl) (by exact fun _ _ _ h=>h) (.inl ⟨by rfl,fun w hS=>by (try dsimp only at hS);go_simp;(try with_reducible rfl)⟩) (by assumption) ?_;try go_frame)
   refine aU 15 (by rfl) (by kernel_rfl) (fun K hK=>?_)
   go_simp
   refine hK.out _ _ ?_ (fun hHeld=>?_)
   ·exact nS hHeld ((aB _ _).block _ (by first|exact uI|(have q:=eP.size;simp at q;omega))) ((aB _ _).block _ (by first|exact XX|(have q:=eP.size;simp at q;omega))) ((aB _ _).block _ (by first|exact OZ|(have q:=eP.size;simp at q;omega)))
   clear hK K
   (try go_frame)
   refine aU 16 (by rfl) (by kernel_rfl) (fun K hK=>?_)
   rw [if_pos (by rfl)]
   refine wp_store_mid _ _ _ rfl _ 0 #[.int .i64 rs,.int .i64 rv] rfl rfl ?_ (by kernel_rfl) (by simp [Value.oneCell']) ?_
   ·first|exact Row.there (Row.new _ [_,_] _) (by simp)|exact Row.there (IQ.out _ eP) (by simp)
   refine hK.out _ _ ?_ (fun hHeld=>?_)
   ·exact nS hHeld (aY _ _ _ _ (by first|omega|(have q:=eP.size;simp at q;omega))) (aY _ _ _ _ (by first|omega|(have q:=eP.size;simp at q;omega))) (aY _ _ _ _ (by first|omega|(have q:=eP.size;simp at q;omega)))
   clear hK K
   (try go_frame)
   iterate 1 (refine tk 17 (by rfl) (by kernel_rfl) (by exact fun _ _ _ h=>h) (.inl ⟨by rfl,fun w hS=>by (try dsimp only at hS);go_simp;(try with_reducible rfl)⟩) (by assumption) ?_;try go_frame)
   refine wpAnyH_done (by kernel_rfl) ?_ _
   (try go_wp2_with fail)
   go_meet
   case rel =>
    first
     |exact ⟨w5.heap.size,rfl,rfl,((Row.new w5 [.int .i64 0,.int .i64 0] 94).set 0 _).set 1 _,eP.size,qB.UZ HX.out (qB.cJ HX.out VA.out) _ [.int .i64 rs,.int .i64 rv]⟩
     |exact ⟨W.heap.size,rfl,rfl,((IQ.out _ eP).set 0 _).set 1 _,Nat.le_refl _,qB.UY HX.out (Below.drew (aB W _)) HXL.out (by simp) VA.out [.int .i64 rs,.int .i64 rv]⟩
  ·go_simp
   refine hK.out _ _ ?_ (fun hHeld=>?_)
   ·exact nS hHeld ((aB _ _).block _ (by first|exact uI|(have q:=eP.size;simp at q;omega))) ((aB _ _).block _ (by first|exact XX|(have q:=eP.size;simp at q;omega))) ((aB _ _).block _ (by first|exact OZ|(have q:=eP.size;simp at q;omega)))
   clear hK K
   (try go_frame)
   refine aU 11 (by rfl) (by kernel_rfl) (fun K hK=>?_)
   go_simp
   refine (HBX.out _ (by repeat (first|exact Below.refl _ _|refine Below.drew ?_|refine Below.alloc ?_ (by first|(simp;done)|(simp;omega)) _))).mono ?_
   rintro e w5 ⟨rfl,LO⟩
   have eP:=LO.fr
   have VA:=aA LO
   clear LO
   go_wp2_with fail
   refine hK.out _ _ ?_ (fun hHeld=>?_)
   ·exact nS hHeld (eP.block _ (by first|exact uI|(simp;omega)) hnL) (eP.block _ (by first|exact XX|(simp;omega)) aDZ) (eP.block _ (by first|exact OZ|(simp;omega)) hnX)
   clear hK K
   (try go_frame)
   iterate 3 (refine tk 16 (by rfl) (by kernel_rfl) (by exact fun _ _ _ h=>h) (.inl ⟨by rfl,fun w hS=>by (try dsimp only at hS);go_simp;(try with_reducible rfl)⟩) (by assumption) ?_;try go_frame)
   refine aU 16 (by rfl) (by kernel_rfl) (fun K hK=>?_)
   rw [if_pos (by rfl)]
   refine wp_store_mid _ _ _ rfl _ 0 #[.int .i64 rs,.int .i64 rv] rfl rfl ?_ (by kernel_rfl) (by simp [Value.oneCell']) ?_
   ·first|exact Row.there (Row.new _ [_,_] _) (by simp)|exact Row.there (IQ.out _ eP) (by simp)
   refine hK.out _ _ ?_ (fun hHeld=>?_)
   ·exact nS hHeld (aY _ _ _ _ (by first|omega|(have q:=eP.size;simp at q;omega))) (aY _ _ _ _ (by first|omega|(have q:=eP.size;simp at q;omega))) (aY _ _ _ _ (by first|omega|(have q:=eP.size;simp at q;omega)))
   clear hK K
   (try go_frame)
   iterate 1 (refine tk 17 (by rfl) (by kernel_rfl) (by exact fun _ _ _ h=>h) (.inl ⟨by rfl,fun w hS=>by (try dsimp only at hS);go_simp;(try with_reducible rfl)⟩) (by assumption) ?_;try go_frame)
   refine wpAnyH_done (by kernel_rfl) ?_ _
   (try go_wp2_with fail)
   go_meet
   case rel =>
    first
     |exact ⟨w5.heap.size,rfl,rfl,((Row.new w5 [.int .i64 0,.int .i64 0] 94).set 0 _).set 1 _,eP.size,qB.UZ HX.out (qB.cJ HX.out VA.out) _ [.int .i64 rs,.int .i64 rv]⟩
     |exact ⟨W.heap.size,rfl,rfl,((IQ.out _ eP).set 0 _).set 1 _,Nat.le_refl _,qB.UY HX.out (Below.drew (aB W _)) HXL.out (by simp) VA.out [.int .i64 rs,.int .i64 rv]⟩
 case rest =>
  rename World=>W5
  obtain ⟨b7,rfl,rfl,hr7,h7,UQ⟩:=hcut
  have hlx:=HL.out.yO HX.out UQ
  have rb:Row W5 w.heap.size 38 _:=HR.out.of_block (UQ.fr.block _ HR.out.lt hnX)
  have e1:=rb.cell_of (i:=1) rfl
  have e3:=rb.cell_of (i:=3) rfl
  have e4:=rb.cell_of (i:=4) rfl
  have e5:=rb.cell_of (i:=5) rfl
  have s1:W5.cell? ⟨A.bL,1,none⟩=some (.pointer (some ⟨D.b,0,none⟩)):=hlx.row.cell_of rfl
  have HLX:=aA hlx
  have HRB:=aA rb
  have IV:=aA hr7
  have HGX:=aA UQ
  have h7l:b7<W5.heap.size:=hr7.lt
  have hn7:¬SD b7:=fun c9=>by have:=HL.out.d.doc.lt b7 c9;omega
  clear hlx rb hr7 UQ d0 dx b0 b1 b3 b4 b5 hmx hcx
  go_upto_region 12 with fail
  go_cut [9,10] (fun p9 e10 w'=>∃ b9:Nat,p9 = .pointer (some ⟨b9,0,none⟩)∧e10 = .int .i64 re∧Row w' b9 94 [.int .i64 rs,.int .i64 rv]∧Row w' b7 94 [.int .i64 rs,.int .i64 rv]∧lM P iX D SD W5 Y' w')
  case first =>
   have uI:A.bL<W5.heap.size:=HLX.out.row.lt
   have aKs:D.b<W5.heap.size:=by obtain ⟨_,_,_,_,_,q⟩:=HLX.out.d.doc;exact q.obj.lt
   have XY:w.heap.size<W5.heap.size:=HRB.out.lt
   have hnL:¬SD A.bL:=fun c9=>(HL.out.dd _ c9).2.1 rfl
   have hnW:¬SD W5.heap.size:=fun c9=>by have:=HLX.out.d.doc.lt _ c9;omega
   have ZT:=aA HLX.out.d
   have IQ:=aA (show ∀ w5,Fr SD (W5.alloc (.cells #[.int .i64 0,.int .i64 0] 94)).drew w5→Row w5 W5.heap.size 94 [.int .i64 0,.int .i64 0] from fun w5 hf=>(show Row (W5.alloc (.cells #[.int .i64 0,.int .i64 0] 94)).drew W5.heap.size 94 [.int .i64 0,.int .i64 0] from Row.new W5 [.int .i64 0,.int .i64 0] _).of_block (hf.block _ (by simp) hnW))
   have HBD:=aA (fun (Wa:World) (hB:Below W5.heap.size W5 Wa)=>HT.out Wa (ZT.out.GV (fun k hk=>hB.block k (ZT.out.doc.lt k hk)) hB.size))
   have s0:W5.cell? ⟨A.bL,0,none⟩=some (.pointer (some ⟨A.bX,0,none⟩)):=HLX.out.row.cell_of rfl
   refine gO (S:=(fun w'=>w'.cell? ⟨A.bL,0,none⟩=some (.pointer (some ⟨A.bX,0,none⟩))∧w'.cell? ⟨A.bL,1,none⟩=some (.pointer (some ⟨D.b,0,none⟩))∧w'.cell? ⟨w.heap.size,1,none⟩=some (.int .i64 x)∧w'.cell? ⟨w.heap.size,3,none⟩=some (.int .i64 c)∧w'.cell? ⟨w.heap.size,4,none⟩=some (.int .i64 a)∧w'.cell? ⟨w.heap.size,5,none⟩=some (.int .i64 b))) 15 rfl (by kernel_rfl) ?_ (fun hHeld=>?_)
   ·exact ⟨s0,s1,e1,e3,e4,e5⟩
   iterate 8 (refine tk 14 (by rfl) (by kernel_rfl) (by exact fun _ _ _ h=>h) (.inl ⟨by rfl,fun w hS=>by (try dsimp only at hS);go_simp;(try with_reducible rfl)⟩) (by assumption) ?_;try go_frame)
   refine wpAnyH_ready (rs:=[8,12]) (by kernel_rfl) (by simp) (rc (by rfl) (fun K hK=>?_) (rc (by rfl) (fun K hK=>?_) AllReadyH.nil))
   ·go_simp
    refine (HBD.out _ (by repeat (first|exact Below.refl _ _|refine Below.drew ?_|refine Below.alloc ?_ (by first|(simp;done)|(simp;omega)) _))).mono ?_
    rintro e w5 ⟨rfl,LO⟩
    have eP:=LO.fr
    have VA:=aA LO
    clear LO
    go_wp2_with fail
    refine hK.out _ _ ?_ (fun hHeld=>?_)
    ·exact nS hHeld (eP.block _ (by first|exact uI|(simp;omega)) hnL) (eP.block _ (by first|exact uI|(simp;omega)) hnL) (eP.block _ (by first|exact XY|(simp;omega)) hnD)
    clear hK K
    (try go_frame)
    iterate 3 (refine tk 14 (by rfl) (by kernel_rfl) (by exact fun _ _ _ h=>h) (.inl ⟨by rfl,fun w hS=>by (try dsimp only at hS);go_simp;(try with_reducible rfl)⟩) (by assumption) ?_;try go_frame)
    refine aU 12 (by rfl) (by kernel_rfl) (fun K hK=>?_)
    go_simp
    refine hK.out _ _ ?_ (fun hHeld=>?_)
    ·exact nS hHeld ((aB _ _).block _ (by first|exact uI|(have q:=eP.size;simp at q;omega))) ((aB _ _).block _ (by first|exact uI|(have q:=eP.size;simp at q;omega))) ((aB _ _).block _ (by first|exact XY|(have q:=eP.size;simp at q;omega)))
    clear hK K
    (try go_frame)
    refine aU 13 (by rfl) (by kernel_rfl) (fun K hK=>?_)
    rw [if_pos (by rfl)]
    refine wp_store_mid _ _ _ rfl _ 0 #[.int .i64 rs,.int .i64 rv] rfl rfl ?_ (by kernel_rfl) (by simp [Value.oneCell']) ?_
    ·first|exact Row.there (Row.new _ [_,_] _) (by simp)|exact Row.there (IQ.out _ eP) (by simp)
    refine hK.out _ _ ?_ (fun hHeld=>?_)
    ·exact nS hHeld (aY _ _ _ _ (by first|omega|(have q:=eP.size;simp at q;omega))) (aY _ _ _ _ (by first|omega|(have q:=eP.size;simp at q;omega))) (aY _ _ _ _ (by first|omega|(have q:=eP.size;simp at q;omega)))
    clear hK K
    (try go_frame)
    iterate 1 (refine tk 14 (by rfl) (by kernel_rfl) (by exact fun _ _ _ h=>h) (.inl ⟨by rfl,fun w hS=>by (try dsimp only at hS);go_simp;(try with_reducible rfl)⟩) (by assumption) ?_;try go_frame)
    refine wpAnyH_done (by kernel_rfl) ?_ _
    (try go_wp2_with fail)
    go_meet
    case rel =>
     first
      |exact ⟨w5.heap.size,rfl,rfl,((Row.new w5 [.int .i64 0,.int .i64 0] 94).set 0 _).set 1 _,(IV.out.of_block (eP.block _ h7l hn7)).of_block ((aY [.int .i64 rs,.int .i64 rv] 0 _ _ (by have q:=eP.size;simp at q;omega)).trans ((aB _ _).block _ (by have q:=eP.size;simp at q;omega))),lM.UZ WB.out ZT.out (lM.cJ WB.out ZT.out VA.out) _ [.int .i64 rs,.int .i64 rv]⟩
      |exact ⟨W5.heap.size,rfl,rfl,((IQ.out _ eP).set 0 _).set 1 _,((IV.out.alloc _).of_block (eP.block _ (by simp;omega) hn7)).of_block (aY [.int .i64 rs,.int .i64 rv] 0 _ _ (by omega)),lM.UY WB.out ZT.out (Below.drew (aB W5 _)) (by simp) VA.out [.int .i64 rs,.int .i64 rv]⟩
   ·go_simp
    refine hK.out _ _ ?_ (fun hHeld=>?_)
    ·exact nS hHeld ((aB _ _).block _ (by first|exact uI|(have q:=eP.size;simp at q;omega))) ((aB _ _).block _ (by first|exact uI|(have q:=eP.size;simp at q;omega))) ((aB _ _).block _ (by first|exact XY|(have q:=eP.size;simp at q;omega)))
    clear hK K
    (try go_frame)
    refine aU 8 (by rfl) (by kernel_rfl) (fun K hK=>?_)
    go_simp
    refine (HBD.out _ (by repeat (first|exact Below.refl _ _|refine Below.drew ?_|refine Below.alloc ?_ (by first|(simp;done)|(simp;omega)) _))).mono ?_
    rintro e w5 ⟨rfl,LO⟩
    have eP:=LO.fr
    have VA:=aA LO
    clear LO
    go_wp2_with fail
    refine hK.out _ _ ?_ (fun hHeld=>?_)
    ·exact nS hHeld (eP.block _ (by first|exact uI|(simp;omega)) hnL) (eP.block _ (by first|exact uI|(simp;omega)) hnL) (eP.block _ (by first|exact XY|(simp;omega)) hnD)
    clear hK K
    (try go_frame)
    iterate 3 (refine tk 13 (by rfl) (by kernel_rfl) (by exact fun _ _ _ h=>h) (.inl ⟨by rfl,fun w hS=>by (try dsimp only at hS);go_simp;(try with_reducible rfl)⟩) (by assumption) ?_;try go_frame)
    refine aU 13 (by rfl) (by kernel_rfl) (fun K hK=>?_)
    rw [if_pos (by rfl)]
    refine wp_store_mid _ _ _ rfl _ 0 #[.int .i64 rs,.int .i64 rv] rfl rfl ?_ (by kernel_rfl) (by simp [Value.oneCell']) ?_
    ·first|exact Row.there (Row.new _ [_,_] _) (by simp)|exact Row.there (IQ.out _ eP) (by simp)
    refine hK.out _ _ ?_ (fun hHeld=>?_)
    ·exact nS hHeld (aY _ _ _ _ (by first|omega|(have q:=eP.size;simp at q;omega))) (aY _ _ _ _ (by first|omega|(have q:=eP.size;simp at q;omega))) (aY _ _ _ _ (by first|omega|(have q:=eP.size;simp at q;omega)))
    clear hK K
    (try go_frame)
    iterate 1 (refine tk 14 (by rfl) (by kernel_rfl) (by exact fun _ _ _ h=>h) (.inl ⟨by rfl,fun w hS=>by (try dsimp only at hS);go_simp;(try with_reducible rfl)⟩) (by assumption) ?_;try go_frame)
    refine wpAnyH_done (by kernel_rfl) ?_ _
    (try go_wp2_with fail)
    go_meet
    case rel =>
     first
      |exact ⟨w5.heap.size,rfl,rfl,((Row.new w5 [.int .i64 0,.int .i64 0] 94).set 0 _).set 1 _,(IV.out.of_block (eP.block _ h7l hn7)).of_block ((aY [.int .i64 rs,.int .i64 rv] 0 _ _ (by have q:=eP.size;simp at q;omega)).trans ((aB _ _).block _ (by have q:=eP.size;simp at q;omega))),lM.UZ WB.out ZT.out (lM.cJ WB.out ZT.out VA.out) _ [.int .i64 rs,.int .i64 rv]⟩
      |exact ⟨W5.heap.size,rfl,rfl,((IQ.out _ eP).set 0 _).set 1 _,((IV.out.alloc _).of_block (eP.block _ (by simp;omega) hn7)).of_block (aY [.int .i64 rs,.int .i64 rv] 0 _ _ (by omega)),lM.UY WB.out ZT.out (Below.drew (aB W5 _)) (by simp) VA.out [.int .i64 rs,.int .i64 rv]⟩
  case rest =>
   obtain ⟨b9,rfl,rfl,hr9,hr7,hd⟩:=hcut
   have y0:=hr7.cell_of (i:=0) rfl
   have y1:=hr7.cell_of (i:=1) rfl
   have z0:=hr9.cell_of (i:=0) rfl
   have z1:=hr9.cell_of (i:=1) rfl
   have HF:=aA ((HL.out.both HX.out HU.out.1 HU.out.2.1 HU.out.2.2.1 HU.out.2.2.2 HGX.out hd).made HB.out)
   clear hr9 hr7 hd e1 e3 e4 e5 s1
   go_wp2_with fail
   go_ret
   exact ⟨dR (by simp),_,HF.out,LN.out⟩
end
end Go.Proofs.YtefjhnhdagolhaaGreat
namespace Go.Proofs.YtefjhnhdagolhaaGreat
open Go.RowKit
open M (aI aC aD aR aT cnt marks tagged num YI)
attribute [local go_sem ↓] Go.wp_at_zero Go.wp_at_succ
def BG (x:Int):Prop:=-9223372036854775808≤x∧x≤9223372036854775807
structure qF where
 k:Int
 t:Int
 n:Int
 c:Int
 a:Int
 b:Int
def qF.val (x:qF):Value:=.agg #[.int .i64 x.k,.int .i64 x.t,.int .i64 x.n,.int .i64 x.c,.int .i64 x.a,.int .i64 x.b]
section
variable {σ:Type} {P:M.Plain σ} {tell:σ→List Int} {sz:σ→Nat} {HM:World→Value→σ→Prop} {D:DL} {X:(Nat→Prop)→aR→World→Prop} {A:LL} {Y:aR} {w:World} {kU kV kW kX kY kZ lA Z K:Nat} {U:Nat→Prop}
def mI (P:M.Plain σ) (tell:σ→List Int) (D:DL):Prop:=∀ Y,YI P D.n D.cap Y→fJ D 1000000000 Y→(tell (eK P Y Y.order.length).st).length≤1000000000000
theorem XZ (xo:qC P tell D A.tE A.bN X kU kV kW kX kY kZ lA) (ds:DS P tell sz HM iX D) (tf:mI P tell D) (h:qQ P D X A Z U Y w) (hK:fJ D K Y) (qP:K+10000≤900000000) (hZ:Z≤100000000000) (x:qF) (ht:BG x.t) (hn:BG x.n) :
  Calls Tryz.prog 18 #[.pointer (some ⟨A.bL,0,none⟩),x.val] w fun e w'=>e = .returned (.bool true)∧∃ Y',nK P D X A (Z+4) U w Y' w'∧fJ D (K+4000) Y':=by
 have hT:(tell (eK P Y Y.order.length).st).length≤1000000000000:=by
  obtain ⟨SX,SD,T,bC,ms,is,jO,jP,hl,-⟩:=h.ex
  exact tf Y hl.d.yi (hK.mono (by omega))
 have same:∀ {e:Ending} {w':World},(e = .returned (.bool true)∧nK P D X A Z U w Y w')→e = .returned (.bool true)∧∃ Y',nK P D X A (Z+4) U w Y' w'∧fJ D (K+4000) Y':=fun q=>⟨q.1,_,q.2.more (by omega),hK.mono (by omega)⟩
 have ZU:∀ {e:Ending} {w':World},(e = .returned (.bool true)∧nK P D X A (Z+4) U w Y w')→e = .returned (.bool true)∧∃ Y',nK P D X A (Z+4) U w Y' w'∧fJ D (K+4000) Y':=fun q=>⟨q.1,_,q.2,hK.mono (by omega)⟩
 have more:∀ {e:Ending} {w':World},(e = .returned (.bool true)∧∃ Y',nK P D X A Z U w Y' w'∧fJ D (K+4000) Y')→e = .returned (.bool true)∧∃ Y',nK P D X A (Z+4) U w Y' w'∧fJ D (K+4000) Y':=fun q=>by
  obtain ⟨q1,Y',q2,q3⟩:=q
  exact ⟨q1,Y',q2.more (by omega),q3⟩
 obtain ⟨k,t,n,c,a,b⟩:=x
 unfold qF.val
 by_cases k0:k<1∨8<k
 ·exact (UX xo h t n c a b k k0).mono fun _ _=>same
 ·have hk:k=1∨k=2∨k=3∨k=4∨k=5∨k=6∨k=7∨k=8:=by omega
  rcases hk with rfl|rfl|rfl|rfl|rfl|rfl|rfl|rfl
  ·exact (PZ xo ds h hK qP t n c a b).mono fun _ _=>more
  ·exact (PX xo ds h hK qP t n c a b ht.1 ht.2 hn.1 hn.2).mono fun _ _=>more
  ·exact (PY xo ds h hK qP t n c a b ht.1 ht.2 hn.1 hn.2).mono fun _ _=>more
  ·exact (aBz xo ds h hK qP t n c a b).mono fun _ _=>more
  ·exact (LK xo ds h hK qP t n c a b).mono fun _ _=>same
  ·exact (PU xo ds h hK qP t n c a b hZ).mono fun _ _=>ZU
  ·exact (PV xo ds h hK qP t n c a b hZ hT).mono fun _ _=>ZU
  ·exact (PW xo h t n c a b).mono fun _ _=>same
theorem GX (h:qQ P D X A Z U Y w) (hZ:Z≤100000000000) :
  Calls Tryz.prog 19 #[.pointer (some ⟨A.bL,0,none⟩)] w fun e w'=>e = .returned (.bool true)∧Below w.heap.size w w':=by
 obtain ⟨SX,SD,T,bC,ms,is,jO,jP,hl,-,z1,z2⟩:=h.ex
 exact OQ A.bL _ _ ms is jO jP 1099511627776 (Nat.le_refl _) w hl.row hl.m.entries hl.i.entries (by omega) (by omega) (fun s k hs=>⟨by have:=(hl.m.vN _ hs).1;dsimp only at this;omega,(hl.m.vN _ hs).2.1⟩) (fun s k hs=>⟨by have:=(hl.i.vN _ hs).1;dsimp only at this;omega,(hl.i.vN _ hs).2.1⟩)
set_option maxRecDepth 20000 in
set_option maxHeartbeats 2000000 in
theorem VB (xo:qC P tell D A.tE A.bN X kU kV kW kX kY kZ lA) (ds:DS P tell sz HM iX D) (tf:mI P tell D) (h:qQ P D X A Z U Y w) (hK:fJ D 1000000000 Y) (hZ:Z≤90000000000) :
  Calls Tryz.prog 20 #[.pointer (some ⟨A.bL,0,none⟩)] w fun e w'=>e = .returned (.bool true)∧nK P D X A (Z+8) U w Y w':=by
 obtain ⟨SX,SD,T,bC,ms,is,jO,jP,hl,-⟩:=h.ex
 obtain ⟨lD,rS,-⟩:=hl.d.n
 have hT:=tf Y hl.d.yi hK
 have c1:w.cell? ⟨A.bL,1,none⟩=some (.pointer (some ⟨D.b,0,none⟩)):=hl.row.cell_of rfl
 have c7:w.cell? ⟨D.b,7,none⟩=some (.slice (some ⟨D.g,0,none⟩) D.n D.gc):=by obtain ⟨_,_,_,_,_,q⟩:=hl.d.doc;exact q.cS rfl
 have HC:=aA (And.intro c1 c7)
 have HA:=aA (fun (W:World) (hb:Below w.heap.size w W) (x:Int)=>BB xo ds (h.at xo hb) hK x)
 have HO:=aA (fun (W:World) (hb:Below w.heap.size w W)=>BD xo ds (h.at xo hb) hK (by omega))
 have HS:=aA (fun (W:World) (U':Nat→Prop) (hw:qQ P D X A (Z+4) U' Y W)=>BF xo ds hw hK (by omega) hT)
 have HX:=aA xo
 clear hl h c1 c7 xo ds tf hK hT
 go_enter Tryz.func20,Tryz.ntmps20
 go_wp2
 go_loopw [3] (fun i w'=>∃ k:Nat,k≤D.n+2∧i = .int .i64 ((k:Int)-1)∧Below w.heap.size w w') (fun i _=>D.n+2-(intOf i+1).toNat)
 case atStart=>exact ⟨0,Nat.zero_le _,rfl,Below.refl _ _⟩
 case round =>
  obtain ⟨k,hk,rfl,hB⟩:=hrel
  have c1:=cell_later hB HC.out.1
  have c7:=cell_later hB HC.out.2
  by_cases hlt:k<D.n+2
  ·have hlt':(k:Int)-1≤(D.n:Int):=by omega
   have HAk:=aA (HA.out _ hB ((k:Int)-1))
   have HB:=aA hB
   clear hB
   go_wp2_with fail
   refine HAk.out.mono ?_
   rintro e w1 ⟨rfl,dU⟩
   have jW:=aA (Below.next HB.out dU HB.out.size)
   clear dU c1 c7
   go_wp2
   go_roundw
   case rel=>exact ⟨k+1,by omega,by go_num,jW.out⟩
   case measure=>simp [intOf];omega
  ·have hlt':¬(k:Int)-1≤(D.n:Int):=by omega
   have HOk:=aA (HO.out _ hB)
   have HB:=aA hB
   clear hB
   go_wp2_with fail
   refine HOk.out.mono ?_
   rintro e w1 ⟨rfl,g1⟩
   go_wp2_with fail
   refine (HS.out _ _ g1.law).mono ?_
   rintro e w2 ⟨rfl,g2⟩
   have g12:=g1.next g2
   go_wp2_with fail
   refine (BC HX.out g12.law).mono ?_
   rintro e w3 ⟨rfl,b3⟩
   have l3:=g12.law.at HX.out b3
   go_wp2_with fail
   refine (GX l3 (by omega)).mono ?_
   rintro e w4 ⟨rfl,b4⟩
   have b34:=Below.next b3 b4 b3.size
   have HF:=aA ((g12.next (g12.law.below HX.out b34)).made HB.out)
   clear g1 g2 g12 b3 l3 b4 b34
   go_wp2_with fail
   go_ret
   exact ⟨rfl,HF.out⟩
end
end Go.Proofs.YtefjhnhdagolhaaGreat
namespace Go.Proofs.YtefjhnhdagolhaaGreat
open Go.RowKit
open M (aI aC aD aR aT cnt marks tagged num YI)
theorem QA {w:World} {b:Nat} {t:TypeId} {m:Nat} (h:Row w b t (zeros (.int .i64 0) m)):Fn w b t m (fun _=>.int .i64 0):=by
 have e:zeros (.int .i64 0) m=(List.range m).map (fun _=>Value.int .i64 0):=by
  apply List.ext_getElem
  ·simp [zeros]
  ·intro i h1 h2;simp [zeros]
 unfold Fn
 rw [←e]
 exact h
theorem aHm {n g b:Nat} {bT bF:Nat→Nat} (hiT:∀ s t,s<n→t<n→bT s=bT t→s=t) (hiF:∀ s t,s<n→t<n→bF s=bF t→s=t) (hx:∀ s t,s<n→t<n→bT s≠bF t)
  (h1:∀ t,t<n→bT t≠g) (h2:∀ t,t<n→bF t≠g) (h3:∀ t,t<n→bT t≠b) (h4:∀ t,t<n→bF t≠b) (h5:b≠g) :
  ∃ bC:Nat→Nat,bC b=0∧bC g=1∧(∀ t,t<n→bC (bT t)=4*t+4)∧∀ t,t<n→bC (bF t)=4*t+5:=by
 classical
 refine ⟨fun k=>if h:∃ t,t<n∧k=bT t then 4*h.choose+4 else if h:∃ t,t<n∧k=bF t then 4*h.choose+5 else if k=g then 1 else 0,?_,?_,fun t ht=>?_,fun t ht=>?_⟩
 ·dsimp only
  rw [dif_neg (fun ⟨s,hs,e⟩=>h3 s hs e.symm),dif_neg (fun ⟨s,hs,e⟩=>h4 s hs e.symm),if_neg h5]
 ·dsimp only
  rw [dif_neg (fun ⟨s,hs,e⟩=>h1 s hs e.symm),dif_neg (fun ⟨s,hs,e⟩=>h2 s hs e.symm),if_pos rfl]
 ·dsimp only
  have h:∃ s,s<n∧bT t=bT s:=⟨t,ht,rfl⟩
  rw [dif_pos h]
  have:=hiT _ _ ht h.choose_spec.1 h.choose_spec.2
  omega
 ·dsimp only
  have h:∃ s,s<n∧bF t=bF s:=⟨t,ht,rfl⟩
  rw [dif_neg (fun ⟨s,hs,e⟩=>hx s t hs ht e.symm),dif_pos h]
  have:=hiF _ _ ht h.choose_spec.1 h.choose_spec.2
  omega
theorem DW.new {σ:Type} (P:M.Plain σ) {w0 w:World} {kind:Int} {n cap:Nat} {st co:Int} {nx ou:List Int} {vn vo:Value} {b:Nat} (h:lI w0 kind n (cap:Int) st co nx ou vn vo b w) (hn:1≤n) (rN:n≤64) (hc:cap≤64) :
  ∃ (D:DL) (S:Nat→Prop),D.b=b∧D.n=n∧D.cap=cap∧D.kind=kind∧D.st=st∧D.co=co∧D.nx=nx∧D.ou=ou∧((kind≠5∧D.vn=vn∧D.vo=vo)∨(kind=5∧∃ g1 g2,D.vn = .slice (some ⟨g1,0,none⟩) nx.length nx.length∧D.vo = .slice (some ⟨g2,0,none⟩) ou.length ou.length)) ∧
   (∀ k,S k→w0.heap.size≤k∧k<w.heap.size)∧DW P iX D S M.Y0 w:=by
 obtain ⟨W1,RU,CI,v,bT,bF,rfl,hb,hI,hv⟩:=h
 obtain ⟨hE,hO,hT,hD,hB⟩:=hI
 obtain ⟨hl,⟨rfl,hn0⟩|⟨g,gc,cur,rfl,uY,hg,hnc,hcm,hcs,RV⟩⟩:=hO
 ·omega
 ·have lg:g<w.heap.size:=by have:=Array.getElem?_eq_some_iff.mp hg;exact this.1
  have hz:=hb.size
  have hiT:∀ s t,s<n→t<n→bT s=bT t→s=t:=fun s t hs ht q=>by
   rcases Nat.lt_trichotomy s t with c|c|c
   ·exact absurd q (hD s t c ht).1
   ·exact c
   ·exact absurd q.symm (hD t s c hs).1
  have hiF:∀ s t,s<n→t<n→bF s=bF t→s=t:=fun s t hs ht q=>by
   rcases Nat.lt_trichotomy s t with c|c|c
   ·exact absurd q (hD s t c ht).2.2.2
   ·exact c
   ·exact absurd q.symm (hD t s c hs).2.2.2
  have hx:∀ s t,s<n→t<n→bT s≠bF t:=fun s t hs ht q=>by
   rcases Nat.lt_trichotomy s t with c|c|c
   ·exact absurd q (hD s t c ht).2.1
   ·subst c;exact (hT s hs).2.2.2.2.2.2 q
   ·exact absurd q.symm (hD t s c hs).2.2.1
  have hgT:∀ t,t<n→bT t≠g:=fun t ht q=>(hT t ht).2.2.2.2.1 (by rw [q];rfl)
  have hgF:∀ t,t<n→bF t≠g:=fun t ht q=>(hT t ht).2.2.2.2.2.1 (by rw [q];rfl)
  obtain ⟨bC,q0,q1,q2,q3⟩:=aHm (b:=W1.heap.size) hiT hiF hx hgT hgF (fun t ht=>by have:=(hT t ht).2.2.1;omega) (fun t ht=>by have:=(hT t ht).2.2.2.1;omega) (by omega)
  let D:DL:={b:=W1.heap.size,n:=n,cap:=cap,g:=g,gc:=gc,bT:=bT,bF:=bF,kind:=kind,st:=st,co:=co,vn:=RU,vo:=CI,nx:=nx,ou:=ou}
  have dr:DR D (fun k=>w0.heap.size≤k∧k<w.heap.size) M.Y0 w (fun k=>if k<W1.heap.size then 7 else bC k) (fun _=>.slice none 0 0) (fun _=>.slice none 0 0) (.slice none 0 0) (fun _=>.slice none 0 0):={
   n1:=hn
   n64:=rN
   vD:=hc
   obj:=hE
   zD:=⟨⟨hz,hE.lt⟩,(if_neg (Nat.lt_irrefl _)).trans q0⟩
   ptr:=fun t ht=>by
    rw [cell_of_row w g _ cur _ _ hg]
    have:(ptrs bT n)[t]?=some (.pointer (some ⟨bT t,0,none⟩)):=by simp [ptrs,List.getElem?_range (show t<n from ht)]
    rw [←RV,List.getElem?_take] at this
    split at this
    ·simpa using this
    ·cases this
   IP:=⟨⟨by show w0.heap.size≤g;omega,lg⟩,(if_neg (show ¬g<W1.heap.size by omega)).trans q1⟩
   th:=fun t ht=>(hT t ht).1
   zE:=fun t ht=>⟨⟨by have:=(hT t ht).2.2.1;show w0.heap.size≤bT t;omega,(hT t ht).1.lt⟩,(if_neg (show ¬bT t<W1.heap.size by have:=(hT t ht).2.2.1;omega)).trans (q2 t ht)⟩
   fl:=fun t ht=>QA (hT t ht).2.1
   zF:=fun t ht=>⟨⟨by have:=(hT t ht).2.2.2.1;show w0.heap.size≤bF t;omega,(hT t ht).2.1.lt⟩,(if_neg (show ¬bF t<W1.heap.size by have:=(hT t ht).2.2.2.1;omega)).trans (q3 t ht)⟩
   ops:=fun t ht=>World.ownsRow_nil _ _ _ _
   pK:=fun t ht k e=>by cases e
   AU:=World.ownsRow_nil _ _ _ _
   qA:=fun k e=>by cases e
   KU:=fun i hi=>absurd hi (Nat.not_lt_zero _)
   rZ:=fun i hi=>absurd hi (Nat.not_lt_zero _)
   vQ:=fun t ht=>KT.nil _
   uA:=fun t ht k e=>by cases e
   lt:=fun k hk=>hk.2
   au:=fun k5=>by
    rcases hv with ⟨h1,-⟩|⟨-,g1,g2,h2,h3,h4,h5,h6,h7⟩
    ·exact absurd k5 h1
    ·have z6:=h6.lt
     have z7:=h7.lt
     have z:=hB.size
     exact ⟨g1,g2,h2,h3,h6.old hB,h7.old hB,⟨⟨h4,by omega⟩,if_pos z6⟩,⟨h5,by omega⟩,if_pos z7⟩}
  refine ⟨D,fun k=>w0.heap.size≤k∧k<w.heap.size,rfl,rfl,rfl,rfl,rfl,rfl,rfl,rfl,?_,fun k hk=>hk,⟨_,_,_,_,_,dr⟩,YI.new P n cap,0,fun _ _=>Nat.zero_le _,Nat.zero_le _,trivial⟩
  rcases hv with ⟨h1,rfl,rfl⟩|⟨h1,g1,g2,h2,h3,h4,h5,h6,h7⟩
  ·exact .inl ⟨h1,rfl,rfl⟩
  ·exact .inr ⟨h1,g1,g2,h2,h3⟩
theorem qQ.new {σ:Type} {P:M.Plain σ} {tell:σ→List Int} {D:DL} {X:(Nat→Prop)→aR→World→Prop} {A:LL} {SX SD:Nat→Prop} {Y:aR} {kU kV kW kX kY kZ lA:Nat} (xo:qC P tell D A.tE A.bN X kU kV kW kX kY kZ lA) {B:Nat} {w1 wr w:World}
  (hd:DW P iX D SD Y w1) (hdB:∀ k,SD k→B≤k∧k<w1.heap.size) (hx:X SX Y wr) (hxB:∀ k,SX k→w1.heap.size≤k∧k<wr.heap.size∧k≠A.bX) (hbX:w1.heap.size≤A.bX) (hB:B≤w1.heap.size) (dU:Below w1.heap.size w1 wr) (hb:Below wr.heap.size wr w)
  (hoX:Row wr A.bX 74 [.iface A.tE (.pointer (some ⟨A.bN,0,none⟩))]) (hL:A.bL=wr.heap.size) (hrow:Row w A.bL 90 [.pointer (some ⟨A.bX,0,none⟩),.pointer (some ⟨D.b,0,none⟩),.slice none 0 0,.slice none 0 0]) :
  qQ P D X A 0 (fun k=>B≤k∧k<w.heap.size) Y w:=by
 have z1:=dU.size
 have z2:=hb.size
 have lX:=hoX.lt
 have lL:=hrow.lt
 have aP:=Below.next dU hb z1
 refine ⟨⟨SX,SD,fun _=>False,fun _=>0,.slice none 0 0,.slice none 0 0,[],[],?_,?_,Nat.le_refl _,Nat.le_refl _⟩,fun k hk=>hk.2⟩
 ·exact {
   row:=hrow
   obj:=hoX.old hb
   x:=xo.stay _ _ _ _ _ hx (fun k hk=>hb.block k (hxB k hk).2.1) (fun _ q=>q) (fun k hk=>by have:=hxB k hk;omega)
   xl:=fun k hk=>by have:=hxB k hk;omega
   d:=hd.GV (fun k hk=>aP.block k (hdB k hk).2) (by omega)
   m:=⟨World.ownsRow_nil _ _ _ _,fun k e=>(by cases e),fun e he=>(by cases he)⟩
   i:=⟨World.ownsRow_nil _ _ _ _,fun k e=>(by cases e),fun e he=>(by cases he)⟩
   tl:=fun k hk=>hk.elim
   dx:=fun k hk=>by have:=hxB k hk;exact ⟨fun c=>by have:=hdB k c;omega,fun c=>c,by omega,by omega⟩
   dd:=fun k hk=>by have:=hdB k hk;exact ⟨fun c=>c,by omega,by omega⟩
   dt:=fun k hk=>hk.elim
   ne:=by omega}
 ·rintro k (c|c|c|c|c)
  ·have:=hxB k c;exact ⟨by omega,by omega⟩
  ·have:=hdB k c;exact ⟨by omega,by omega⟩
  ·exact c.elim
  ·exact ⟨by omega,by omega⟩
  ·exact ⟨by omega,by omega⟩
theorem fJ.new (D:DL):fJ D 0 M.Y0:=⟨fun _ _=>Nat.le_refl _,Nat.le_refl _⟩
end Go.Proofs.YtefjhnhdagolhaaGreat
