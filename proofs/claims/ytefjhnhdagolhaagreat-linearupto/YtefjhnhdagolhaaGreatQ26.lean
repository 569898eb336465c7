import Derived.Test.YtefjhnhdagolhaaGreatQ24
import Derived.Test.YtefjhnhdagolhaaGreatQ25
import Derived.Test.YtefjhnhdagolhaaGreatQ18
import Derived.Test.YtefjhnhdagolhaaGreatQ02
import Derived.Test.YtefjhnhdagolhaaGreatQ10
set_option maxHeartbeats 16000000
set_option maxRecDepth 20000
namespace Go.Proofs.YtefjhnhdagolhaaGreat
open int list tree
open Go.RowKit
open M (aI aC aD Op cY aS aK aQ aL aN)
attribute [local go_sem ↓] Go.wp_at_zero Go.wp_at_succ
def int.dH:Prop:=∀ {σ:Type} {R:SR σ} {L:Lt} {S:Nat→Prop} {E:aK σ} {w:World} {t:Nat} (_h:RE R L S E w) (_ht:t<L.n) {r p:Nat} (_hr:r<2*L.n+1) (_hp:p<aQ L.n),Calls Tryz.prog 224 #[.pointer (some ⟨L.bP,r*2,none⟩),.int .i64 (p:Int),.pointer (some ⟨L.g,t*28+14,none⟩)] w fun e w'=>e = .returned (.tuple #[])∧RE R L S {E with th:=aI E.th t {E.th t with dw:=aI (E.th t).dw p (E.rw r p)}} w'∧Fr L.own w w'
def list.dH:Prop:=∀ {σ:Type} {R:SR σ} {L:Lt} {S:Nat→Prop} {E:aK σ} {w:World} {t:Nat} (_h:RE R L S E w) (_ht:t<L.n) {r p:Nat} (_hr:r<2*L.n+1) (_hp:p<aQ L.n),Calls Tryz.prog 278 #[.pointer (some ⟨L.bP,r*2,none⟩),.int .i64 (p:Int),.pointer (some ⟨L.g,t*28+14,none⟩)] w fun e w'=>e = .returned (.tuple #[])∧RE R L S {E with th:=aI E.th t {E.th t with dw:=aI (E.th t).dw p (E.rw r p)}} w'∧Fr L.own w w'
def tree.dH:Prop:=∀ {σ:Type} {R:SR σ} {L:Lt} {S:Nat→Prop} {E:aK σ} {w:World} {t:Nat} (_h:RE R L S E w) (_ht:t<L.n) {r p:Nat} (_hr:r<2*L.n+1) (_hp:p<aQ L.n),Calls Tryz.prog 352 #[.pointer (some ⟨L.bP,r*2,none⟩),.int .i64 (p:Int),.pointer (some ⟨L.g,t*28+14,none⟩)] w fun e w'=>e = .returned (.tuple #[])∧RE R L S {E with th:=aI E.th t {E.th t with dw:=aI (E.th t).dw p (E.rw r p)}} w'∧Fr L.own w w'
def row.dH:Prop:=∀ {σ:Type} {R:SR σ} {L:Lt} {S:Nat→Prop} {E:aK σ} {w:World} {t:Nat} (_h:RE R L S E w) (_ht:t<L.n) {r p:Nat} (_hr:r<2*L.n+1) (_hp:p<aQ L.n),Calls Tryz.prog 315 #[.pointer (some ⟨L.bP,r*2,none⟩),.int .i64 (p:Int),.pointer (some ⟨L.g,t*30+14,none⟩)] w fun e w'=>e = .returned (.tuple #[])∧RE R L S {E with th:=aI E.th t {E.th t with dw:=aI (E.th t).dw p (E.rw r p)}} w'∧Fr L.own w w'
open row in
theorem mM:int.dH∧list.dH∧tree.dH∧row.dH:=by
 refine ⟨@mkK _ 0 ?_,@mkK _ 1 ?_,@mkK _ 2 ?_,@mkK _ 3 ?_⟩<;>intro kk σ R L S E w t h ht r p hr hp
 all_goals
  obtain ⟨cv,cf,pv,hc,-,-,-,-⟩:=h.cells ht rfl
  have hn:=h.ok.n64
  have KW:aQ L.n≤200:=by unfold M.aQ M.tw;omega
  have ZS:=hc 14 _ (by decide) rfl
  have p0:=h.zR hr
  have d0:w.cell? ⟨L.bW r,p,none⟩=some (.int .i64 (E.rw r p)):=(h.rw r hr).cell hp
  have th:w.there (L.gD t) p 1:=(h.gd t ht).there hp
  have nPD:L.bP≠L.gD t:=by obtain ⟨sp,q2,-⟩:=h.po;exact Row.apart q2 (h.gd t ht) (by decide)
  have ngD:L.g≠L.gD t:=by obtain ⟨T,q,-⟩:=h.th;exact Row.apart q (h.gd t ht) (by decide)
  have nWD:L.bW r≠L.gD t:=Row.apart (h.rw r hr) (h.gd t ht) (by decide)
  have hp':(p:Int)<(aQ L.n:Int):=by omega
  have H1:=aA (h.fY t ht p (E.rw r p))
  clear h hc
  first|(have _:Kn 0:=kk;go_enter Tryz.func224,Tryz.ntmps224)|(have _:Kn 1:=kk;go_enter Tryz.func278,Tryz.ntmps278)|(have _:Kn 2:=kk;go_enter Tryz.func352,Tryz.ntmps352)|(have _:Kn 3:=kk;go_enter Tryz.func315,Tryz.ntmps315)
  go_wp2
  first|(have _:Kn 0:=kk;refine fR (S:=(fun w'=>w'.cell? ⟨L.g,t*28+14,none⟩=some (.slice (some ⟨L.gD t,0,none⟩) (aQ L.n) (aQ L.n))∧w'.cell? ⟨L.bP,r*2,none⟩=some (.slice (some ⟨L.bW r,0,none⟩) (aQ L.n) (aQ L.n))∧w'.cell? ⟨L.bW r,p,none⟩=some (.int .i64 (E.rw r p))∧w'.there (L.gD t) (p) 1)) 14 rfl (by kernel_rfl) ?_ (fun hHeld=>?_))|(have _:Kn 1:=kk;refine fR (S:=(fun w'=>w'.cell? ⟨L.g,t*28+14,none⟩=some (.slice (some ⟨L.gD t,0,none⟩) (aQ L.n) (aQ L.n))∧w'.cell? ⟨L.bP,r*2,none⟩=some (.slice (some ⟨L.bW r,0,none⟩) (aQ L.n) (aQ L.n))∧w'.cell? ⟨L.bW r,p,none⟩=some (.int .i64 (E.rw r p))∧w'.there (L.gD t) (p) 1)) 14 rfl (by kernel_rfl) ?_ (fun hHeld=>?_))|(have _:Kn 2:=kk;refine fR (S:=(fun w'=>w'.cell? ⟨L.g,t*28+14,none⟩=some (.slice (some ⟨L.gD t,0,none⟩) (aQ L.n) (aQ L.n))∧w'.cell? ⟨L.bP,r*2,none⟩=some (.slice (some ⟨L.bW r,0,none⟩) (aQ L.n) (aQ L.n))∧w'.cell? ⟨L.bW r,p,none⟩=some (.int .i64 (E.rw r p))∧w'.there (L.gD t) (p) 1)) 14 rfl (by kernel_rfl) ?_ (fun hHeld=>?_))|(have _:Kn 3:=kk;refine fR (S:=(fun w'=>w'.cell? ⟨L.g,t*30+14,none⟩=some (.slice (some ⟨L.gD t,0,none⟩) (aQ L.n) (aQ L.n))∧w'.cell? ⟨L.bP,r*2,none⟩=some (.slice (some ⟨L.bW r,0,none⟩) (aQ L.n) (aQ L.n))∧w'.cell? ⟨L.bW r,p,none⟩=some (.int .i64 (E.rw r p))∧w'.there (L.gD t) (p) 1)) 14 rfl (by kernel_rfl) ?_ (fun hHeld=>?_))
  ·exact ⟨ZS,p0,d0,th⟩
  iterate 11 (refine tk 13 (by rfl) (by kernel_rfl) (by exact fun _ _ _ h=>h) (.inl ⟨by rfl,fun w hS=>by (try dsimp only at hS);go_simp;(try with_reducible rfl)⟩) (by assumption) ?_;try go_frame)
  refine bQ 11 (by rfl) (by kernel_rfl) (fun K hK=>?_)
  go_simp
  refine (rT (L.bW r) p _ _ hHeld.2.2.1).mono ?_
  rintro e w3 ⟨rfl,rfl⟩
  go_wp2_with fail
  refine hK.out _ _ ?_ (fun hHeld=>?_)
  ·exact hHeld
  clear hK K
  (try go_frame)
  iterate 1 (refine tk 13 (by rfl) (by kernel_rfl) (by exact fun _ _ _ h=>h) (.inl ⟨by rfl,fun w hS=>by (try dsimp only at hS);go_simp;(try with_reducible rfl)⟩) (by assumption) ?_;try go_frame)
  refine bQ 13 (by rfl) (by kernel_rfl) (fun K hK=>?_)
  rw [if_pos (by rfl)]
  refine aU _ _ _ rfl (L.gD t) p (.int .i64 (E.rw r p)) rfl rfl rfl rfl hHeld.2.2.2 (by kernel_rfl) ?_
  refine hK.out _ _ ?_ (fun hHeld=>?_)
  ·exact ⟨aH hHeld.1 (by first|exact .inr (by dsimp only;omega)|exact .inl (by assumption)|exact .inl (Ne.symm (by assumption))),aH hHeld.2.1 (by first|exact .inr (by dsimp only;omega)|exact .inl (by assumption)|exact .inl (Ne.symm (by assumption))),aH hHeld.2.2.1 (by first|exact .inr (by dsimp only;omega)|exact .inl (by assumption)|exact .inl (Ne.symm (by assumption))),cR hHeld.2.2.2 _ rfl _⟩
  clear hK K
  (try go_frame)
  refine wpAnyH_done (by kernel_rfl) ?_ _
  clear hHeld
  go_wp2
  exact bodyPost_ret (v:=.tuple #[]) (by simp [results,Tryz.results224,Tryz.results278,Tryz.results352,Tryz.results315,go_sem]) rfl ⟨rfl,H1.out.drew,(Fr.set w (pF ht) _).drew⟩
theorem int.qF:dH:=mM.1
theorem list.qF:dH:=mM.2.1
theorem tree.qF:dH:=mM.2.2.1
theorem row.qF:dH:=mM.2.2.2
def int.eM:Prop:=∀ {σ:Type} {R:SR σ} {L:Lt} {S:Nat→Prop} {E:aK σ} {w:World} {t:Nat} (_h:RE R L S E w) (_ht:t<L.n) {r:Nat} (_hr:r<2*L.n+1) {v f:cY σ} (_hv:E.eX r=some (v,f)),Calls Tryz.prog 224 #[.pointer (some ⟨L.bP,r*2,none⟩),.int .i64 (aQ L.n:Int),.pointer (some ⟨L.g,t*28+14,none⟩)] w fun e w'=>e = .returned (.tuple #[])∧aF R L S w {E with th:=aI E.th t {E.th t with now:=some v,cD:=some v}} w'
def list.eM:Prop:=∀ {σ:Type} {R:SR σ} {L:Lt} {S:Nat→Prop} {E:aK σ} {w:World} {t:Nat} (_h:RE R L S E w) (_ht:t<L.n) {r:Nat} (_hr:r<2*L.n+1) {v f:cY σ} (_hv:E.eX r=some (v,f)),Calls Tryz.prog 278 #[.pointer (some ⟨L.bP,r*2,none⟩),.int .i64 (aQ L.n:Int),.pointer (some ⟨L.g,t*28+14,none⟩)] w fun e w'=>e = .returned (.tuple #[])∧aF R L S w {E with th:=aI E.th t {E.th t with now:=some v,cD:=some v}} w'
def tree.eM:Prop:=∀ {σ:Type} {R:SR σ} {L:Lt} {S:Nat→Prop} {E:aK σ} {w:World} {t:Nat} (_h:RE R L S E w) (_ht:t<L.n) {r:Nat} (_hr:r<2*L.n+1) {v f:cY σ} (_hv:E.eX r=some (v,f)),Calls Tryz.prog 352 #[.pointer (some ⟨L.bP,r*2,none⟩),.int .i64 (aQ L.n:Int),.pointer (some ⟨L.g,t*28+14,none⟩)] w fun e w'=>e = .returned (.tuple #[])∧aF R L S w {E with th:=aI E.th t {E.th t with now:=some v,cD:=some v}} w'
theorem pH:int.eM∧list.eM∧tree.eM:=by
 refine ⟨@mkK _ 0 ?_,@mkK _ 1 ?_,@mkK _ 2 ?_⟩<;>intro kk σ R L S E w t h ht r hr v f hv
 all_goals
  obtain ⟨KX,KY,pv,hc,hcv,eD,-,hfz⟩:=h.cells ht rfl
  obtain ⟨c0,c1,rfl⟩:=aE hcv.1
  obtain ⟨d0,d1,rfl⟩:=aE eD.1
  first
   |have _:Kn 0:=kk
    obtain ⟨b,cv,cf,NV,hIb,hrow,sO,hfr⟩:∃ b cv cf,w.cell? ⟨L.bP,r*2+1,none⟩=some (.pointer (some ⟨b,0,none⟩))∧(S b∧¬L.own b)∧Row w b 227 (cv++cf)∧int.aV R (fun k=>S k∧¬L.own k) w v cv∧int.aV R (fun k=>S k∧¬L.own k) w f cf:=by
     obtain ⟨sp,q1,q2⟩:=h.po
     obtain ⟨b,cv,cf,a1,a2,a3,a4,a5⟩:=q2 r hr v f hv
     refine ⟨b,cv,cf,?_,a2,a3,a4,a5⟩
     have:=q1.cell hr (show 1<2 by decide)
     rw [this,a1]
     rfl
   |have _:Kn 1:=kk
    obtain ⟨b,cv,cf,NV,hIb,hrow,sO,hfr⟩:∃ b cv cf,w.cell? ⟨L.bP,r*2+1,none⟩=some (.pointer (some ⟨b,0,none⟩))∧(S b∧¬L.own b)∧Row w b 241 (cv++cf)∧list.aV R (fun k=>S k∧¬L.own k) w v cv∧list.aV R (fun k=>S k∧¬L.own k) w f cf:=by
     obtain ⟨sp,q1,q2⟩:=h.po
     obtain ⟨b,cv,cf,a1,a2,a3,a4,a5⟩:=q2 r hr v f hv
     refine ⟨b,cv,cf,?_,a2,a3,a4,a5⟩
     have:=q1.cell hr (show 1<2 by decide)
     rw [this,a1]
     rfl
   |have _:Kn 2:=kk
    obtain ⟨b,cv,cf,NV,hIb,hrow,sO,hfr⟩:∃ b cv cf,w.cell? ⟨L.bP,r*2+1,none⟩=some (.pointer (some ⟨b,0,none⟩))∧(S b∧¬L.own b)∧Row w b 269 (cv++cf)∧tree.aV R (fun k=>S k∧¬L.own k) w v cv∧tree.aV R (fun k=>S k∧¬L.own k) w f cf:=by
     obtain ⟨sp,q1,q2⟩:=h.po
     obtain ⟨b,cv,cf,a1,a2,a3,a4,a5⟩:=q2 r hr v f hv
     refine ⟨b,cv,cf,?_,a2,a3,a4,a5⟩
     have:=q1.cell hr (show 1<2 by decide)
     rw [this,a1]
     rfl
  obtain ⟨x0,x1,rfl⟩:=aE (aV.len R sO)
  obtain ⟨y0,y1,rfl⟩:=aE (aV.len R hfr)
  have hn:=h.ok.n64
  have KW:aQ L.n≤200:=by unfold M.aQ M.tw;omega
  have p0:=h.zR hr
  have e0:=hc 15 _ (by decide) rfl
  have e1:=hc 16 _ (by decide) rfl
  have e2:=hc 17 _ (by decide) rfl
  have e3:=hc 18 _ (by decide) rfl
  have ef0:=hfz (t*28+15)
  have ef1:=hfz (t*28+16)
  have ef2:=hfz (t*28+17)
  have ef3:=hfz (t*28+18)
  have ox0:=aV.one R sO x0 (by simp)
  have ox1:=aV.one R sO x1 (by simp)
  have vc0:w.cell? ⟨b,0,none⟩=some x0:=hrow.cell_of rfl
  have vc1:w.cell? ⟨b,1,none⟩=some x1:=hrow.cell_of rfl
  have hgb:L.g<w.heap.size:=h.lt _ (h.ow _ kH)
  have HH:=aA h
  have HV:=aA sO
  have HW:=aA (And.intro NV hrow)
  clear h hc hcv eD sO hfr NV hrow hfz hv
  have VX:=cA (P:=Tryz.prog) ox0
  have VY:=cA (P:=Tryz.prog) ox1
  first|(have _:Kn 0:=kk;go_enter Tryz.func224,Tryz.ntmps224)|(have _:Kn 1:=kk;go_enter Tryz.func278,Tryz.ntmps278)|(have _:Kn 2:=kk;go_enter Tryz.func352,Tryz.ntmps352)
  go_wp2_with fail
  first|(have _:Kn 0:=kk;refine (int.jE L.bP (r*2+1) b _ w HW.out.1 HW.out.2 rfl).mono ?_)|(have _:Kn 1:=kk;refine (list.jE L.bP (r*2+1) b _ w HW.out.1 HW.out.2 rfl).mono ?_)|(have _:Kn 2:=kk;refine (tree.jE L.bP (r*2+1) b _ w HW.out.1 HW.out.2 rfl).mono ?_)
  rintro e w1 ⟨rfl,rfl⟩
  go_wp2_with fail
  obtain ⟨r1,k1⟩:=HH.out.jQ ht ([x0,x1]++[x0,x1]) 0 (by simp) (by simp) HV.out HV.out (fun j hj=>by rw [if_pos ⟨Nat.zero_le _,by simpa using hj⟩];rfl) {E.th t with now:=some v,cD:=some v} rfl
  exact bodyPost_end (v:=.tuple #[]) (by simp [results,Tryz.results224,Tryz.results278,Tryz.results352,go_sem]) rfl ⟨rfl,(aF.of r1 k1 rfl).next (aF.below (aF.of r1 k1 rfl).re (aB _ _))⟩
theorem int.oH:eM:=pH.1
theorem list.oH:eM:=pH.2.1
theorem tree.oH:eM:=pH.2.2
theorem row.oH {σ:Type} {R:SR σ} {L:Lt} {S:Nat→Prop} {E:aK σ} {w:World} {t:Nat} (h:RE R L S E w) (ht:t<L.n) {r:Nat} (hr:r<2*L.n+1) {v f:cY σ} (hv:E.eX r=some (v,f)) :
  Calls Tryz.prog 315 #[.pointer (some ⟨L.bP,r*2,none⟩),.int .i64 (aQ L.n:Int),.pointer (some ⟨L.g,t*30+14,none⟩)] w fun e w'=>e = .returned (.tuple #[])∧aF R L S w {E with th:=aI E.th t {E.th t with now:=some v,cD:=some v}} w':=by
 obtain ⟨KX,KY,pv,hc,hcv,eD,-,hfz⟩:=h.cells ht rfl
 obtain ⟨c0,c1,c2,rfl⟩:=aE hcv.1
 obtain ⟨d0,d1,d2,rfl⟩:=aE eD.1
 obtain ⟨b,cv,cf,NV,hIb,hrow,sO,hfr⟩:∃ b cv cf,w.cell? ⟨L.bP,r*2+1,none⟩=some (.pointer (some ⟨b,0,none⟩))∧(S b∧¬L.own b)∧Row w b 255 (cv++cf)∧aV R (fun k=>S k∧¬L.own k) w v cv∧aV R (fun k=>S k∧¬L.own k) w f cf:=by
  obtain ⟨sp,q1,q2⟩:=h.po
  obtain ⟨b,cv,cf,a1,a2,a3,a4,a5⟩:=q2 r hr v f hv
  refine ⟨b,cv,cf,?_,a2,a3,a4,a5⟩
  have:=q1.cell hr (show 1<2 by decide)
  rw [this,a1]
  rfl
 obtain ⟨x0,x1,x2,rfl⟩:=aE (aV.len R sO)
 obtain ⟨y0,y1,y2,rfl⟩:=aE (aV.len R hfr)
 have hn:=h.ok.n64
 have KW:aQ L.n≤200:=by unfold M.aQ M.tw;omega
 have p0:=h.zR hr
 have e0:=hc 15 _ (by decide) rfl
 have e1:=hc 16 _ (by decide) rfl
 have e2:=hc 17 _ (by decide) rfl
 have e3:=hc 18 _ (by decide) rfl
 have e4:=hc 19 _ (by decide) rfl
 have e5:=hc 20 _ (by decide) rfl
 have ef0:=hfz (t*30+15)
 have ef1:=hfz (t*30+16)
 have ef2:=hfz (t*30+17)
 have ef3:=hfz (t*30+18)
 have ef4:=hfz (t*30+19)
 have ef5:=hfz (t*30+20)
 have ox0:=aV.one R sO x0 (by simp)
 have ox1:=aV.one R sO x1 (by simp)
 have ox2:=aV.one R sO x2 (by simp)
 have vc0:w.cell? ⟨b,0,none⟩=some x0:=hrow.cell_of rfl
 have vc1:w.cell? ⟨b,1,none⟩=some x1:=hrow.cell_of rfl
 have vc2:w.cell? ⟨b,2,none⟩=some x2:=hrow.cell_of rfl
 have hgb:L.g<w.heap.size:=h.lt _ (h.ow _ kH)
 have HH:=aA h
 have HV:=aA sO
 have HW:=aA (And.intro NV hrow)
 clear h hc hcv eD sO hfr NV hrow hfz hv
 have VX:=cA (P:=Tryz.prog) ox0
 have VY:=cA (P:=Tryz.prog) ox1
 have aDI:=cA (P:=Tryz.prog) ox2
 go_enter Tryz.func315,Tryz.ntmps315
 go_wp2_with fail
 refine (jE L.bP (r*2+1) b _ w HW.out.1 HW.out.2 rfl).mono ?_
 rintro e w1 ⟨rfl,rfl⟩
 go_wp2_with fail
 obtain ⟨r1,k1⟩:=HH.out.jQ ht ([x0,x1,x2]++[x0,x1,x2]) 0 (by simp) (by simp) HV.out HV.out (fun j hj=>by rw [if_pos ⟨Nat.zero_le _,by simpa using hj⟩];rfl) {E.th t with now:=some v,cD:=some v} rfl
 exact bodyPost_end (v:=.tuple #[]) (by simp [results,Tryz.results315,go_sem]) rfl ⟨rfl,(aF.of r1 k1 rfl).next (aF.below (aF.of r1 k1 rfl).re (aB _ _))⟩
def int.copied {σ:Type} (E:aK σ) (t n:Nat):aS σ :=
 if (E.th t).past<aQ n then {E.th t with dw:=aI (E.th t).dw (E.th t).past (E.rw (E.th t).aR (E.th t).past)} else {E.th t with now:=(E.eX (E.th t).aR).map Prod.fst,cD:=(E.eX (E.th t).aR).map Prod.fst}
theorem int.zG {σ:Type} (E:aK σ) (t n:Nat):(copied E t n).past=(E.th t).past:=by unfold copied;split<;>rfl
def int.gW:Prop:=∀ {σ:Type} {R:SR σ} {L:Lt} {S:Nat→Prop} {E:aK σ} {w:World} {t:Nat} (_h:RE R L S E w) (_ht:t<L.n) (_hr:(E.th t).aR<2*L.n+1) (_hp:(E.th t).past≤aQ L.n) (_hs:(E.eX (E.th t).aR).isSome),Calls Tryz.prog 224 #[.pointer (some ⟨L.bP,(E.th t).aR*2,none⟩),.int .i64 ((E.th t).past:Int),.pointer (some ⟨L.g,t*28+14,none⟩)] w fun e w'=>e = .returned (.tuple #[])∧aF R L S w {E with th:=aI E.th t (copied E t L.n)} w'
def list.gW:Prop:=∀ {σ:Type} {R:SR σ} {L:Lt} {S:Nat→Prop} {E:aK σ} {w:World} {t:Nat} (_h:RE R L S E w) (_ht:t<L.n) (_hr:(E.th t).aR<2*L.n+1) (_hp:(E.th t).past≤aQ L.n) (_hs:(E.eX (E.th t).aR).isSome),Calls Tryz.prog 278 #[.pointer (some ⟨L.bP,(E.th t).aR*2,none⟩),.int .i64 ((E.th t).past:Int),.pointer (some ⟨L.g,t*28+14,none⟩)] w fun e w'=>e = .returned (.tuple #[])∧aF R L S w {E with th:=aI E.th t (copied E t L.n)} w'
def tree.gW:Prop:=∀ {σ:Type} {R:SR σ} {L:Lt} {S:Nat→Prop} {E:aK σ} {w:World} {t:Nat} (_h:RE R L S E w) (_ht:t<L.n) (_hr:(E.th t).aR<2*L.n+1) (_hp:(E.th t).past≤aQ L.n) (_hs:(E.eX (E.th t).aR).isSome),Calls Tryz.prog 352 #[.pointer (some ⟨L.bP,(E.th t).aR*2,none⟩),.int .i64 ((E.th t).past:Int),.pointer (some ⟨L.g,t*28+14,none⟩)] w fun e w'=>e = .returned (.tuple #[])∧aF R L S w {E with th:=aI E.th t (copied E t L.n)} w'
def row.gW:Prop:=∀ {σ:Type} {R:SR σ} {L:Lt} {S:Nat→Prop} {E:aK σ} {w:World} {t:Nat} (_h:RE R L S E w) (_ht:t<L.n) (_hr:(E.th t).aR<2*L.n+1) (_hp:(E.th t).past≤aQ L.n) (_hs:(E.eX (E.th t).aR).isSome),Calls Tryz.prog 315 #[.pointer (some ⟨L.bP,(E.th t).aR*2,none⟩),.int .i64 ((E.th t).past:Int),.pointer (some ⟨L.g,t*30+14,none⟩)] w fun e w'=>e = .returned (.tuple #[])∧aF R L S w {E with th:=aI E.th t (copied E t L.n)} w'
open row in
theorem uT:int.gW∧list.gW∧tree.gW∧row.gW:=by
 refine ⟨?_,?_,?_,?_⟩<;>intro σ R L S E w t h ht hr hp hs
 all_goals
  unfold copied
  by_cases q:(E.th t).past<aQ L.n
  ·rw [if_pos q]
   refine (qF h ht hr q).mono ?_
   rintro e w1 ⟨rfl,r1,k1⟩
   exact ⟨rfl,aF.of r1 k1 rfl⟩
  ·rw [if_neg q]
   obtain ⟨⟨v,f⟩,hv⟩:=Option.isSome_iff_exists.1 hs
   have hq:(E.th t).past=aQ L.n:=by omega
   have:=oH h ht hr hv
   rw [hv]
   simp only [hq] at this ⊢
   exact this
theorem int.AK:gW:=uT.1
theorem list.AK:gW:=uT.2.1
theorem tree.AK:gW:=uT.2.2.1
theorem row.AK:gW:=uT.2.2.2
def int.dV:Prop:=∀ {σ:Type} {R:SR σ} {L:Lt} {S:Nat→Prop} {E:aK σ} {w:World} {t:Nat} (_h:RE R L S E w) (_ht:t<L.n) (_hr:(E.th t).aR<2*L.n+1) (_hp:(E.th t).past≤aQ L.n) (_hN:(E.th t).stamp≤1000000000) (_hs:(E.eX (E.th t).aR).isSome),Calls Tryz.prog 208 #[.pointer (some ⟨L.g,t*28,none⟩)] w fun e w'=>e = .returned (.tuple #[])∧aF R L S w {E with th:=aI E.th t ((copied E t L.n).pass (aQ L.n+1) 6)} w'
def list.dV:Prop:=∀ {σ:Type} {R:SR σ} {L:Lt} {S:Nat→Prop} {E:aK σ} {w:World} {t:Nat} (_h:RE R L S E w) (_ht:t<L.n) (_hr:(E.th t).aR<2*L.n+1) (_hp:(E.th t).past≤aQ L.n) (_hN:(E.th t).stamp≤1000000000) (_hs:(E.eX (E.th t).aR).isSome),Calls Tryz.prog 267 #[.pointer (some ⟨L.g,t*28,none⟩)] w fun e w'=>e = .returned (.tuple #[])∧aF R L S w {E with th:=aI E.th t ((copied E t L.n).pass (aQ L.n+1) 6)} w'
def tree.dV:Prop:=∀ {σ:Type} {R:SR σ} {L:Lt} {S:Nat→Prop} {E:aK σ} {w:World} {t:Nat} (_h:RE R L S E w) (_ht:t<L.n) (_hr:(E.th t).aR<2*L.n+1) (_hp:(E.th t).past≤aQ L.n) (_hN:(E.th t).stamp≤1000000000) (_hs:(E.eX (E.th t).aR).isSome),Calls Tryz.prog 341 #[.pointer (some ⟨L.g,t*28,none⟩)] w fun e w'=>e = .returned (.tuple #[])∧aF R L S w {E with th:=aI E.th t ((copied E t L.n).pass (aQ L.n+1) 6)} w'
def row.dV:Prop:=∀ {σ:Type} {R:SR σ} {L:Lt} {S:Nat→Prop} {E:aK σ} {w:World} {t:Nat} (_h:RE R L S E w) (_ht:t<L.n) (_hr:(E.th t).aR<2*L.n+1) (_hp:(E.th t).past≤aQ L.n) (_hN:(E.th t).stamp≤1000000000) (_hs:(E.eX (E.th t).aR).isSome),Calls Tryz.prog 304 #[.pointer (some ⟨L.g,t*30,none⟩)] w fun e w'=>e = .returned (.tuple #[])∧aF R L S w {E with th:=aI E.th t ((copied E t L.n).pass (aQ L.n+1) 6)} w'
open row in
theorem oI:int.dV∧list.dV∧tree.dV∧row.dV:=by
 refine ⟨@mkK _ 0 ?_,@mkK _ 1 ?_,@mkK _ 2 ?_,@mkK _ 3 ?_⟩<;>intro kk σ R L S E w t h ht hr hp hN hs
 all_goals
  obtain ⟨c0,c4,-,VU,s0,s4⟩:=h.parts ht rfl
  have hn:=h.ok.n64
  have zF:=h.ok.n1
  have KW:aQ L.n≤200:=by unfold M.aQ M.tw;omega
  have hr':((E.th t).aR:Int)<2*(L.n:Int)+1:=by omega
  have hm:=aA (show (((E.th t).stamp:Int)*129+((E.th t).aR:Int)) % 129=((E.th t).aR:Int) by omega)
  have hcp:(copied E t L.n).stamp=(E.th t).stamp∧(copied E t L.n).aR=(E.th t).aR:=by unfold copied;split<;>exact ⟨rfl,rfl⟩
  have HH:=aA h
  have HP:=aA (fun (W:World) (hW:RE R L S E W)=>AK hW ht hr hp hs)
  clear h hs
  first|(have _:Kn 0:=kk;go_enter Tryz.func208,Tryz.ntmps208)|(have _:Kn 1:=kk;go_enter Tryz.func267,Tryz.ntmps267)|(have _:Kn 2:=kk;go_enter Tryz.func341,Tryz.ntmps341)|(have _:Kn 3:=kk;go_enter Tryz.func304,Tryz.ntmps304)
  go_wp2
  first|(have _:Kn 0:=kk;refine fR (S:=(fun w'=>w'.cell? ⟨L.g,t*28,none⟩=some (.pointer (some ⟨L.bS,0,none⟩))∧w'.cell? ⟨L.g,t*28+4,none⟩=some (.int .i64 ((E.th t).past:Int))∧w'.cell? ⟨L.g,t*28+13,none⟩=some (.int .i64 (((E.th t).stamp:Int)*129+((E.th t).aR:Int)))∧w'.cell? ⟨L.bS,4,none⟩=some (.slice (some ⟨L.bP,0,none⟩) (2*L.n+1) (2*L.n+1)))) 21 rfl (by kernel_rfl) ?_ (fun hHeld=>?_))|(have _:Kn 1:=kk;refine fR (S:=(fun w'=>w'.cell? ⟨L.g,t*28,none⟩=some (.pointer (some ⟨L.bS,0,none⟩))∧w'.cell? ⟨L.g,t*28+4,none⟩=some (.int .i64 ((E.th t).past:Int))∧w'.cell? ⟨L.g,t*28+13,none⟩=some (.int .i64 (((E.th t).stamp:Int)*129+((E.th t).aR:Int)))∧w'.cell? ⟨L.bS,4,none⟩=some (.slice (some ⟨L.bP,0,none⟩) (2*L.n+1) (2*L.n+1)))) 21 rfl (by kernel_rfl) ?_ (fun hHeld=>?_))|(have _:Kn 2:=kk;refine fR (S:=(fun w'=>w'.cell? ⟨L.g,t*28,none⟩=some (.pointer (some ⟨L.bS,0,none⟩))∧w'.cell? ⟨L.g,t*28+4,none⟩=some (.int .i64 ((E.th t).past:Int))∧w'.cell? ⟨L.g,t*28+13,none⟩=some (.int .i64 (((E.th t).stamp:Int)*129+((E.th t).aR:Int)))∧w'.cell? ⟨L.bS,4,none⟩=some (.slice (some ⟨L.bP,0,none⟩) (2*L.n+1) (2*L.n+1)))) 21 rfl (by kernel_rfl) ?_ (fun hHeld=>?_))|(have _:Kn 3:=kk;refine fR (S:=(fun w'=>w'.cell? ⟨L.g,t*30,none⟩=some (.pointer (some ⟨L.bS,0,none⟩))∧w'.cell? ⟨L.g,t*30+4,none⟩=some (.int .i64 ((E.th t).past:Int))∧w'.cell? ⟨L.g,t*30+13,none⟩=some (.int .i64 (((E.th t).stamp:Int)*129+((E.th t).aR:Int)))∧w'.cell? ⟨L.bS,4,none⟩=some (.slice (some ⟨L.bP,0,none⟩) (2*L.n+1) (2*L.n+1)))) 21 rfl (by kernel_rfl) ?_ (fun hHeld=>?_))
  ·exact ⟨c0,c4,VU,s4⟩
  iterate 11 (refine tk 20 (by rfl) (by kernel_rfl) (by exact fun _ _ _ h=>h) (.inl ⟨by rfl,fun w hS=>by (try dsimp only at hS);go_simp;(try with_reducible rfl)⟩) (by assumption) ?_;try go_frame)
  iterate 7 (refine tk 22 (by rfl) (by kernel_rfl) (by exact fun _ _ _ h=>h) (.inl ⟨by rfl,fun w hS=>by (try dsimp only at hS);go_simp;(try with_reducible rfl)⟩) (by assumption) ?_;try go_frame)
  refine bQ 11 (by rfl) (by kernel_rfl) (fun K hK=>?_)
  go_simp
  refine (rN _ _ (by omega) (by omega)).mono ?_
  rintro e w2 ⟨rfl,rfl⟩
  rw [hm.out]
  go_wp2_with fail
  refine hK.out _ _ ?_ (fun hHeld=>?_)
  ·exact hHeld
  clear hK K
  (try go_frame)
  iterate 1 (refine tk 13 (by rfl) (by kernel_rfl) (by exact fun _ _ _ h=>h) (.inl ⟨by rfl,fun w hS=>by (try dsimp only at hS);go_simp;(try with_reducible rfl)⟩) (by assumption) ?_;try go_frame)
  refine bQ 20 (by rfl) (by kernel_rfl) (fun K hK=>?_)
  go_simp
  refine (HP.out w.drew HH.out.drew).mono ?_
  rintro e w3 ⟨rfl,L3⟩
  go_wp2_with fail
  refine hK.out _ _ ?_ (fun hHeld=>?_)
  ·obtain ⟨z0,z4,-,z13,-,ZT⟩:=L3.re.parts ht (aC _ _ _);rw [zG] at z4;rw [hcp.1,hcp.2] at z13;exact ⟨z0,z4,z13,ZT⟩
  clear hK K
  (try go_frame)
  refine wpAnyH_done (by kernel_rfl) ?_ _
  obtain ⟨z0,z4,-,-,zs0,-⟩:=L3.re.parts ht (aC _ _ _)
  have HL:=aA (show aF R L S w {E with th:=aI E.th t (copied E t L.n)} w3 from ⟨L3.re,⟨L3.fr.os,L3.fr.tape,L3.fr.output,L3.fr.size,L3.fr.block⟩⟩)
  clear hHeld c0 c4 VU s0 s4 z4
  go_wp2_with fail
  refine (uM (L.n:Int) _ (by omega) (by omega)).mono ?_
  rintro e w4 ⟨rfl,cT⟩
  rw [CP]
  have QH:=aA (HL.out.next (aF.below HL.out.re cT))
  go_wp2_with fail
  refine (kD QH.out.re ht (aQ L.n+1) 6 (by omega) (by simp only [aC,zG];omega)).mono ?_
  rintro e w5 ⟨rfl,r5,k5⟩
  have HR:=aA (And.intro r5 k5)
  clear r5 k5
  go_wp2
  refine bodyPost_end (v:=.tuple #[]) (by simp [results,Tryz.results208,Tryz.results267,Tryz.results341,Tryz.results304,go_sem]) rfl ⟨rfl,QH.out.next (aF.of (HR.out.1.cast ?_) HR.out.2 rfl)⟩
  simp only [bM,aC]
theorem int.pI:dV:=oI.1
theorem list.pI:dV:=oI.2.1
theorem tree.pI:dV:=oI.2.2.1
theorem row.pI:dV:=oI.2.2.2
def int.fB (x:Int):Prop:=0≤x∧x<65536
def int.waits {σ:Type} (e:aS σ) (k:Nat):List Nat:=(List.range k).filter fun i=>M.lA e.tg i != M.lA e.dw i
theorem int.NW {σ:Type} (e:aS σ) (k:Nat):waits e (k+1)=waits e k++if M.lA e.tg k != M.lA e.dw k then [k] else []:=by
 unfold waits
 rw [List.range_succ,List.filter_append]
 congr 1
 by_cases h:(M.lA e.tg k != M.lA e.dw k)=true
 ·simp [h]
 ·simp [h]
theorem int.FM {σ:Type} (e:aS σ) (k:Nat):(waits e k).length≤k:=by
 unfold waits
 exact Nat.le_trans (List.length_filter_le _ _) (by simp)
def int.eO:Prop:=∀ {σ:Type} {R:SR σ} {L:Lt} {S:Nat→Prop} {E:aK σ} {w:World} {t:Nat} (_h:RE R L S E w) (_ht:t<L.n) (_hw:∀ k,k<M.tw L.n→fB ((E.th t).tg k)∧fB ((E.th t).dw k)),Calls Tryz.prog 228 #[.pointer (some ⟨L.g,t*28,none⟩)] w fun e w'=>∃ v,e = .returned v∧w'.ownsRow w.heap.size 3 1 v ((E.th t).waiting L.n).length (ints (((E.th t).waiting L.n).map Int.ofNat))∧Below w.heap.size w w'
def list.eO:Prop:=∀ {σ:Type} {R:SR σ} {L:Lt} {S:Nat→Prop} {E:aK σ} {w:World} {t:Nat} (_h:RE R L S E w) (_ht:t<L.n) (_hw:∀ k,k<M.tw L.n→fB ((E.th t).tg k)∧fB ((E.th t).dw k)),Calls Tryz.prog 280 #[.pointer (some ⟨L.g,t*28,none⟩)] w fun e w'=>∃ v,e = .returned v∧w'.ownsRow w.heap.size 3 1 v ((E.th t).waiting L.n).length (ints (((E.th t).waiting L.n).map Int.ofNat))∧Below w.heap.size w w'
def tree.eO:Prop:=∀ {σ:Type} {R:SR σ} {L:Lt} {S:Nat→Prop} {E:aK σ} {w:World} {t:Nat} (_h:RE R L S E w) (_ht:t<L.n) (_hw:∀ k,k<M.tw L.n→fB ((E.th t).tg k)∧fB ((E.th t).dw k)),Calls Tryz.prog 354 #[.pointer (some ⟨L.g,t*28,none⟩)] w fun e w'=>∃ v,e = .returned v∧w'.ownsRow w.heap.size 3 1 v ((E.th t).waiting L.n).length (ints (((E.th t).waiting L.n).map Int.ofNat))∧Below w.heap.size w w'
def row.eO:Prop:=∀ {σ:Type} {R:SR σ} {L:Lt} {S:Nat→Prop} {E:aK σ} {w:World} {t:Nat} (_h:RE R L S E w) (_ht:t<L.n) (_hw:∀ k,k<M.tw L.n→fB ((E.th t).tg k)∧fB ((E.th t).dw k)),Calls Tryz.prog 317 #[.pointer (some ⟨L.g,t*30,none⟩)] w fun e w'=>∃ v,e = .returned v∧w'.ownsRow w.heap.size 3 1 v ((E.th t).waiting L.n).length (ints (((E.th t).waiting L.n).map Int.ofNat))∧Below w.heap.size w w'
open row in
theorem qG:int.eO∧list.eO∧tree.eO∧row.eO:=by
 refine ⟨@mkK _ 0 ?_,@mkK _ 1 ?_,@mkK _ 2 ?_,@mkK _ 3 ?_⟩<;>intro kk σ R L S E w t h ht hw
 all_goals
  obtain ⟨mi,hmi,hmz⟩:=Option.map_eq_some_iff.1 ZG
  simp only [Prod.mk.injEq] at hmz
  obtain ⟨WA,WB,WC⟩:=hmz
  have HMI:=aA hmi
  have HM1:=aA WA
  have RX:=aA WB
  have YB:=aA WC
  obtain ⟨cv,cf,pv,hc,hcv,eD,-,-⟩:=h.cells ht rfl
  first|(have _:Kn 0:=kk;obtain ⟨x0,x1,rfl⟩:=int.aE hcv.1)|(have _:Kn 1:=kk;obtain ⟨x0,x1,rfl⟩:=int.aE hcv.1)|(have _:Kn 2:=kk;obtain ⟨x0,x1,rfl⟩:=int.aE hcv.1)|(have _:Kn 3:=kk;obtain ⟨x0,x1,x2,rfl⟩:=row.aE hcv.1)
  first|(have _:Kn 0:=kk;obtain ⟨y0,y1,rfl⟩:=int.aE eD.1)|(have _:Kn 1:=kk;obtain ⟨y0,y1,rfl⟩:=int.aE eD.1)|(have _:Kn 2:=kk;obtain ⟨y0,y1,rfl⟩:=int.aE eD.1)|(have _:Kn 3:=kk;obtain ⟨y0,y1,y2,rfl⟩:=row.aE eD.1)
  have hn:=h.ok.n64
  first|(have _:Kn 0:=kk;have c0:w.cell? ⟨L.g,t*28,none⟩=some (.pointer (some ⟨L.bS,0,none⟩)):=hc 0 _ (by decide) rfl)|(have _:Kn 1:=kk;have c0:w.cell? ⟨L.g,t*28,none⟩=some (.pointer (some ⟨L.bS,0,none⟩)):=hc 0 _ (by decide) rfl)|(have _:Kn 2:=kk;have c0:w.cell? ⟨L.g,t*28,none⟩=some (.pointer (some ⟨L.bS,0,none⟩)):=hc 0 _ (by decide) rfl)|(have _:Kn 3:=kk;have c0:w.cell? ⟨L.g,t*30,none⟩=some (.pointer (some ⟨L.bS,0,none⟩)):=hc 0 _ (by decide) rfl)
  have ZS:=hc 14 _ (by decide) rfl
  first|(have _:Kn 0:=kk;have cg:=hc 19 _ (by decide) rfl)|(have _:Kn 1:=kk;have cg:=hc 19 _ (by decide) rfl)|(have _:Kn 2:=kk;have cg:=hc 19 _ (by decide) rfl)|(have _:Kn 3:=kk;have cg:=hc 21 _ (by decide) rfl)
  have s0:w.cell? ⟨L.bS,0,none⟩=some (.int .i64 (L.n:Int)):=h.sh.cell_of rfl
  have HD:=aA (fun k (hk:k<M.aQ L.n)=>(h.gd t ht).cell hk)
  have HG:=aA (fun k (hk:k<M.tw L.n)=>(h.gg t ht).cell hk)
  have HC:=aA (And.intro ZS cg)
  have HW:=aA hw
  clear h hc hcv eD hmi WA WB WC ZS cg hw
  have haw:∀ k,k<L.n→k / 16<M.tw L.n:=fun k hk=>by unfold M.tw;omega
  have hbw:∀ k,k<L.n→k / 16<M.aQ L.n:=fun k hk=>by unfold M.aQ;have:=haw k hk;omega
  generalize M.tw L.n=a at *
  generalize M.aQ L.n=b at *
  generalize L.gG t=gg at *
  generalize L.gD t=gd at *
  first|(have _:Kn 0:=kk;go_enter Tryz.func228,Tryz.ntmps228)|(have _:Kn 1:=kk;go_enter Tryz.func280,Tryz.ntmps280)|(have _:Kn 2:=kk;go_enter Tryz.func354,Tryz.ntmps354)|(have _:Kn 3:=kk;go_enter Tryz.func317,Tryz.ntmps317)
  go_wp2
  go_loopw [3,13] (fun th i w'=>∃ k:Nat,k≤L.n∧i = .int .i64 (k:Int)∧Below w.heap.size w w'∧w'.ownsRow w.heap.size 3 1 th (waits (E.th t) k).length (ints ((waits (E.th t) k).map Int.ofNat))) (fun _ i _=>L.n-(intOf i).toNat)
  case atStart=>exact ⟨0,Nat.zero_le _,rfl,Below.refl _ _,World.ownsRow_nil _ _ _ _⟩
  case round =>
   obtain ⟨k,hk,rfl,hB,hO⟩:=hrel
   by_cases hlt:k<L.n
   ·have hlt':(k:Int)<(L.n:Int):=by omega
    have hq:=haw k hlt
    have hq2:=hbw k hlt
    have d14:=cell_later hB HC.out.1
    have dg:=cell_later hB HC.out.2
    have a1:=cell_later hB (HG.out _ hq)
    have a2:=cell_later hB (HD.out _ hq2)
    obtain ⟨⟨u1,u2⟩,u3,u4⟩:=HW.out _ hq
    have aDN:(M.lA (E.th t).tg k != M.lA (E.th t).dw k)=(decide (((E.th t).tg (k / 16) / 2 ^ (k % 16)) % 2=1) != decide (((E.th t).dw (k / 16) / 2 ^ (k % 16)) % 2=1)):=rfl
    have HBT:=aA (NW (E.th t) k)
    rw [aDN] at HBT
    generalize (E.th t).tg (k / 16)=x1 at *
    generalize (E.th t).dw (k / 16)=x2 at *
    generalize hy1:decide ((x1 / 2 ^ (k % 16)) % 2=1)=y1 at *
    generalize hy2:decide ((x2 / 2 ^ (k % 16)) % 2=1)=y2 at *
    have HB:=aA hB
    have HO:=aA hO
    have H1:=aA (fun (W:World) (hW:W.cell? ⟨gg,k / 16,none⟩=some (.int .i64 x1))=>KU gg a a k x1 W (by omega) hq hW u1 u2)
    have H2:=aA (fun (W:World) (hW:W.cell? ⟨gd,k / 16,none⟩=some (.int .i64 x2))=>KU gd b b k x2 W (by omega) hq2 hW u3 u4)
    rw [hy1] at H1
    rw [hy2] at H2
    have A1:=aA (fun n=>Calls.quiet_of (n:=n) (H1.out (wr.drewN n) a1))
    have A2:=aA (fun n=>Calls.quiet_of (n:=n) (H2.out (wr.drewN n) a2))
    clear hB hO a1 a2 H1 H2 aDN hy1 hy2 hq hq2 u1 u2 u3 u4
    go_wp2
    go_quiet ((go_at_call 242;first|(with_reducible exact A1.out _)|(with_reducible exact A2.out _)))
    have HN:=aA (FM (E.th t) k)
    have aBC:=HB.out.size
    cases y1<;>cases y2
    case' false.true|true.false =>
     have hw1:=aA (show waits (E.th t) (k+1)=waits (E.th t) k++[k] by have e:=HBT.out;simpa using e)
     go_wp2_with (at_builtin;refine oW _ rfl (.tmp 30) (.tmp 32) 22 rfl w.heap.size 3 mi (.int .i64 0) 1 8 Tryz.underlying22 HMI.out HM1.out RX.out YB.out rfl (by decide) _ (waits (E.th t) k).length _ rfl ((show (wr.drewN nq).ownsRow w.heap.size 3 1 _ _ _ from HO.out).kept (KF (aB _ _)) (by cases (Value.ownBlock _)<;>simp)) ⟨(wr.drewN nq).heap.size,0,none⟩ 1 1 [.int .i64 (k:Int)] rfl rfl (World.news_of_block (Row.new _ _ _)) (by simp [Value.oneCell']) (by decide) (by have:=HN.out;unfold maxLen;omega) (by have:=HN.out;omega) (by simp;omega) ?_)
     intro g3 c3 w3 hown mR hl3 JX
     have cE:Below w.heap.size w w3:=(Below.next (Below.drewN HB.out nq) (aB (wr.drewN nq) _) aBC).grown mR (by simp;omega) (fun q hq=>(HO.out.lt q hq).1)
     have HR:=aA (And.intro cE hown)
     clear hown mR hl3 JX cE
     go_wp2
     go_roundw
     case rel =>
      refine ⟨k+1,by omega,by go_num,HR.out.1,?_⟩
      rw [hw1.out]
      have:=HR.out.2
      simpa [ints] using this
     case measure=>simp [intOf];omega
    all_goals
     have hw1:=aA (show waits (E.th t) (k+1)=waits (E.th t) k by have e:=HBT.out;simpa using e)
     go_wp2
     go_roundw
     case rel=>exact ⟨k+1,by omega,by go_num,Below.drewN HB.out _,by rw [hw1.out];exact HO.out⟩
     case measure=>simp [intOf];omega
   ·have hlt':¬(k:Int)<(L.n:Int):=by omega
    have hkn:k=L.n:=by omega
    have HB:=aA (show Below w.heap.size w wr from hB)
    have HO:=aA (show wr.ownsRow w.heap.size 3 1 _ ((E.th t).waiting L.n).length (ints (((E.th t).waiting L.n).map Int.ofNat)) by rw [hkn] at hO;exact hO)
    clear hB hO hkn
    go_wp2
    go_ret
    exact ⟨_,rfl,HO.out,HB.out⟩
theorem int.uU:eO:=qG.1
theorem list.uU:eO:=qG.2.1
theorem tree.uU:eO:=qG.2.2.1
theorem row.uU:eO:=qG.2.2.2
end Go.Proofs.YtefjhnhdagolhaaGreat
