import Derived.Test.YtefjhnhdagolhabGreatQ21
import Derived.Test.YtefjhnhdagolhabGreatQ22
import Derived.Test.YtefjhnhdagolhabGreatQ16
import Derived.Test.YtefjhnhdagolhabGreatQ02
import Derived.Test.YtefjhnhdagolhabGreatQ10
set_option maxHeartbeats 16000000
set_option maxRecDepth 20000
namespace Go.Proofs.YtefjhnhdagolhabGreat
open int list tree
open Go.RowKit
open M (aH aC aE Op cY aS aK aR aL aM)
attribute [local go_sem ↓] Go.wp_at_zero Go.wp_at_succ
def int.dH:Prop:=∀ {σ:Type} {R:SR σ} {L:Lt} {S:Nat→Prop} {E:aK σ} {w:World} {t:Nat} (_h:RE R L S E w) (_ht:t<L.n) {r p:Nat} (_hr:r<2*L.n+1) (_hp:p<aR L.n),Calls Tryz.prog 135 #[.pointer (some ⟨L.bP,r*2,none⟩),.int .i64 (p:Int),.pointer (some ⟨L.g,t*28+14,none⟩)] w fun e w'=>e = .returned (.tuple #[])∧RE R L S {E with th:=aH E.th t {E.th t with dw:=aH (E.th t).dw p (E.rw r p)}} w'∧Fr L.own w w'
def list.dH:Prop:=∀ {σ:Type} {R:SR σ} {L:Lt} {S:Nat→Prop} {E:aK σ} {w:World} {t:Nat} (_h:RE R L S E w) (_ht:t<L.n) {r p:Nat} (_hr:r<2*L.n+1) (_hp:p<aR L.n),Calls Tryz.prog 190 #[.pointer (some ⟨L.bP,r*2,none⟩),.int .i64 (p:Int),.pointer (some ⟨L.g,t*28+14,none⟩)] w fun e w'=>e = .returned (.tuple #[])∧RE R L S {E with th:=aH E.th t {E.th t with dw:=aH (E.th t).dw p (E.rw r p)}} w'∧Fr L.own w w'
def tree.dH:Prop:=∀ {σ:Type} {R:SR σ} {L:Lt} {S:Nat→Prop} {E:aK σ} {w:World} {t:Nat} (_h:RE R L S E w) (_ht:t<L.n) {r p:Nat} (_hr:r<2*L.n+1) (_hp:p<aR L.n),Calls Tryz.prog 264 #[.pointer (some ⟨L.bP,r*2,none⟩),.int .i64 (p:Int),.pointer (some ⟨L.g,t*28+14,none⟩)] w fun e w'=>e = .returned (.tuple #[])∧RE R L S {E with th:=aH E.th t {E.th t with dw:=aH (E.th t).dw p (E.rw r p)}} w'∧Fr L.own w w'
def row.dH:Prop:=∀ {σ:Type} {R:SR σ} {L:Lt} {S:Nat→Prop} {E:aK σ} {w:World} {t:Nat} (_h:RE R L S E w) (_ht:t<L.n) {r p:Nat} (_hr:r<2*L.n+1) (_hp:p<aR L.n),Calls Tryz.prog 227 #[.pointer (some ⟨L.bP,r*2,none⟩),.int .i64 (p:Int),.pointer (some ⟨L.g,t*30+14,none⟩)] w fun e w'=>e = .returned (.tuple #[])∧RE R L S {E with th:=aH E.th t {E.th t with dw:=aH (E.th t).dw p (E.rw r p)}} w'∧Fr L.own w w'
open row in
theorem mI:int.dH∧list.dH∧tree.dH∧row.dH:=by
 refine ⟨@mkK _ 0 ?_,@mkK _ 1 ?_,@mkK _ 2 ?_,@mkK _ 3 ?_⟩<;>intro kk σ R L S E w t h ht r p hr hp
 all_goals
  obtain ⟨cv,cf,pv,hc,-,-,-,-⟩:=h.cells ht rfl
  have hn:=h.ok.n64
  have PM:aR L.n≤200:=by unfold M.aR M.tw;omega
  have YJ:=hc 14 _ (by decide) rfl
  have p0:=h.zI hr
  have d0:w.cell? ⟨L.bW r,p,none⟩=some (.int .i64 (E.rw r p)):=(h.rw r hr).cell hp
  have th:w.there (L.gD t) p 1:=(h.gd t ht).there hp
  have nPD:L.bP≠L.gD t:=by obtain ⟨sp,q2,-⟩:=h.po;exact Row.apart q2 (h.gd t ht) (by decide)
  have ngD:L.g≠L.gD t:=by obtain ⟨T,q,-⟩:=h.th;exact Row.apart q (h.gd t ht) (by decide)
  have nWD:L.bW r≠L.gD t:=Row.apart (h.rw r hr) (h.gd t ht) (by decide)
  have hp':(p:Int)<(aR L.n:Int):=by omega
  have H1:=aA (h.fX t ht p (E.rw r p))
  clear h hc
  first|(have _:Kn 0:=kk;go_enter Tryz.func135,Tryz.ntmps135)|(have _:Kn 1:=kk;go_enter Tryz.func190,Tryz.ntmps190)|(have _:Kn 2:=kk;go_enter Tryz.func264,Tryz.ntmps264)|(have _:Kn 3:=kk;go_enter Tryz.func227,Tryz.ntmps227)
  go_wp2
  first|(have _:Kn 0:=kk;refine fQ (S:=(fun w'=>w'.cell? ⟨L.g,t*28+14,none⟩=some (.slice (some ⟨L.gD t,0,none⟩) (aR L.n) (aR L.n))∧w'.cell? ⟨L.bP,r*2,none⟩=some (.slice (some ⟨L.bW r,0,none⟩) (aR L.n) (aR L.n))∧w'.cell? ⟨L.bW r,p,none⟩=some (.int .i64 (E.rw r p))∧w'.there (L.gD t) (p) 1)) 14 rfl (by kernel_rfl) ?_ (fun hHeld=>?_))|(have _:Kn 1:=kk;refine fQ (S:=(fun w'=>w'.cell? ⟨L.g,t*28+14,none⟩=some (.slice (some ⟨L.gD t,0,none⟩) (aR L.n) (aR L.n))∧w'.cell? ⟨L.bP,r*2,none⟩=some (.slice (some ⟨L.bW r,0,none⟩) (aR L.n) (aR L.n))∧w'.cell? ⟨L.bW r,p,none⟩=some (.int .i64 (E.rw r p))∧w'.there (L.gD t) (p) 1)) 14 rfl (by kernel_rfl) ?_ (fun hHeld=>?_))|(have _:Kn 2:=kk;refine fQ (S:=(fun w'=>w'.cell? ⟨L.g,t*28+14,none⟩=some (.slice (some ⟨L.gD t,0,none⟩) (aR L.n) (aR L.n))∧w'.cell? ⟨L.bP,r*2,none⟩=some (.slice (some ⟨L.bW r,0,none⟩) (aR L.n) (aR L.n))∧w'.cell? ⟨L.bW r,p,none⟩=some (.int .i64 (E.rw r p))∧w'.there (L.gD t) (p) 1)) 14 rfl (by kernel_rfl) ?_ (fun hHeld=>?_))|(have _:Kn 3:=kk;refine fQ (S:=(fun w'=>w'.cell? ⟨L.g,t*30+14,none⟩=some (.slice (some ⟨L.gD t,0,none⟩) (aR L.n) (aR L.n))∧w'.cell? ⟨L.bP,r*2,none⟩=some (.slice (some ⟨L.bW r,0,none⟩) (aR L.n) (aR L.n))∧w'.cell? ⟨L.bW r,p,none⟩=some (.int .i64 (E.rw r p))∧w'.there (L.gD t) (p) 1)) 14 rfl (by kernel_rfl) ?_ (fun hHeld=>?_))
  ·exact ⟨YJ,p0,d0,th⟩
  iterate 11 (refine tk 13 (by rfl) (by kernel_rfl) (by exact fun _ _ _ h=>h) (.inl ⟨by rfl,fun w hS=>by (try dsimp only at hS);go_simp;(try with_reducible rfl)⟩) (by assumption) ?_;try go_frame)
  refine bK 11 (by rfl) (by kernel_rfl) (fun K hK=>?_)
  go_simp
  refine (rE (L.bW r) p _ _ hHeld.2.2.1).mono ?_
  rintro e w3 ⟨rfl,rfl⟩
  go_wp2_with fail
  refine hK.out _ _ ?_ (fun hHeld=>?_)
  ·exact hHeld
  clear hK K
  (try go_frame)
  iterate 1 (refine tk 13 (by rfl) (by kernel_rfl) (by exact fun _ _ _ h=>h) (.inl ⟨by rfl,fun w hS=>by (try dsimp only at hS);go_simp;(try with_reducible rfl)⟩) (by assumption) ?_;try go_frame)
  refine bK 13 (by rfl) (by kernel_rfl) (fun K hK=>?_)
  rw [if_pos (by rfl)]
  refine aP _ _ _ rfl (L.gD t) p (.int .i64 (E.rw r p)) rfl rfl rfl rfl hHeld.2.2.2 (by kernel_rfl) ?_
  refine hK.out _ _ ?_ (fun hHeld=>?_)
  ·exact ⟨aJ hHeld.1 (by first|exact .inr (by dsimp only;omega)|exact .inl (by assumption)|exact .inl (Ne.symm (by assumption))),aJ hHeld.2.1 (by first|exact .inr (by dsimp only;omega)|exact .inl (by assumption)|exact .inl (Ne.symm (by assumption))),aJ hHeld.2.2.1 (by first|exact .inr (by dsimp only;omega)|exact .inl (by assumption)|exact .inl (Ne.symm (by assumption))),bM hHeld.2.2.2 _ rfl _⟩
  clear hK K
  (try go_frame)
  refine wpAnyH_done (by kernel_rfl) ?_ _
  clear hHeld
  go_wp2
  exact bodyPost_ret (v:=.tuple #[]) (by simp [results,Tryz.results135,Tryz.results190,Tryz.results264,Tryz.results227,go_sem]) rfl ⟨rfl,H1.out.drew,(Fr.set w (oV ht) _).drew⟩
theorem int.pV:dH:=mI.1
theorem list.pV:dH:=mI.2.1
theorem tree.pV:dH:=mI.2.2.1
theorem row.pV:dH:=mI.2.2.2
def int.eO:Prop:=∀ {σ:Type} {R:SR σ} {L:Lt} {S:Nat→Prop} {E:aK σ} {w:World} {t:Nat} (_h:RE R L S E w) (_ht:t<L.n) {r:Nat} (_hr:r<2*L.n+1) {v f:cY σ} (_hv:E.eV r=some (v,f)),Calls Tryz.prog 135 #[.pointer (some ⟨L.bP,r*2,none⟩),.int .i64 (aR L.n:Int),.pointer (some ⟨L.g,t*28+14,none⟩)] w fun e w'=>e = .returned (.tuple #[])∧aF R L S w {E with th:=aH E.th t {E.th t with now:=some v,cC:=some v}} w'
def list.eO:Prop:=∀ {σ:Type} {R:SR σ} {L:Lt} {S:Nat→Prop} {E:aK σ} {w:World} {t:Nat} (_h:RE R L S E w) (_ht:t<L.n) {r:Nat} (_hr:r<2*L.n+1) {v f:cY σ} (_hv:E.eV r=some (v,f)),Calls Tryz.prog 190 #[.pointer (some ⟨L.bP,r*2,none⟩),.int .i64 (aR L.n:Int),.pointer (some ⟨L.g,t*28+14,none⟩)] w fun e w'=>e = .returned (.tuple #[])∧aF R L S w {E with th:=aH E.th t {E.th t with now:=some v,cC:=some v}} w'
def tree.eO:Prop:=∀ {σ:Type} {R:SR σ} {L:Lt} {S:Nat→Prop} {E:aK σ} {w:World} {t:Nat} (_h:RE R L S E w) (_ht:t<L.n) {r:Nat} (_hr:r<2*L.n+1) {v f:cY σ} (_hv:E.eV r=some (v,f)),Calls Tryz.prog 264 #[.pointer (some ⟨L.bP,r*2,none⟩),.int .i64 (aR L.n:Int),.pointer (some ⟨L.g,t*28+14,none⟩)] w fun e w'=>e = .returned (.tuple #[])∧aF R L S w {E with th:=aH E.th t {E.th t with now:=some v,cC:=some v}} w'
theorem oX:int.eO∧list.eO∧tree.eO:=by
 refine ⟨@mkK _ 0 ?_,@mkK _ 1 ?_,@mkK _ 2 ?_⟩<;>intro kk σ R L S E w t h ht r hr v f hv
 all_goals
  obtain ⟨KL,KM,pv,hc,hcv,eE,-,hfz⟩:=h.cells ht rfl
  obtain ⟨c0,c1,rfl⟩:=aD hcv.1
  obtain ⟨d0,d1,rfl⟩:=aD eE.1
  first
   |have _:Kn 0:=kk
    obtain ⟨b,cv,cf,NF,hIb,hrow,sB,hfr⟩:∃ b cv cf,w.cell? ⟨L.bP,r*2+1,none⟩=some (.pointer (some ⟨b,0,none⟩))∧(S b∧¬L.own b)∧Row w b 122 (cv++cf)∧int.aV R (fun k=>S k∧¬L.own k) w v cv∧int.aV R (fun k=>S k∧¬L.own k) w f cf:=by
     obtain ⟨sp,q1,q2⟩:=h.po
     obtain ⟨b,cv,cf,a1,a2,a3,a4,a5⟩:=q2 r hr v f hv
     refine ⟨b,cv,cf,?_,a2,a3,a4,a5⟩
     have:=q1.cell hr (show 1<2 by decide)
     rw [this,a1]
     rfl
   |have _:Kn 1:=kk
    obtain ⟨b,cv,cf,NF,hIb,hrow,sB,hfr⟩:∃ b cv cf,w.cell? ⟨L.bP,r*2+1,none⟩=some (.pointer (some ⟨b,0,none⟩))∧(S b∧¬L.own b)∧Row w b 136 (cv++cf)∧list.aV R (fun k=>S k∧¬L.own k) w v cv∧list.aV R (fun k=>S k∧¬L.own k) w f cf:=by
     obtain ⟨sp,q1,q2⟩:=h.po
     obtain ⟨b,cv,cf,a1,a2,a3,a4,a5⟩:=q2 r hr v f hv
     refine ⟨b,cv,cf,?_,a2,a3,a4,a5⟩
     have:=q1.cell hr (show 1<2 by decide)
     rw [this,a1]
     rfl
   |have _:Kn 2:=kk
    obtain ⟨b,cv,cf,NF,hIb,hrow,sB,hfr⟩:∃ b cv cf,w.cell? ⟨L.bP,r*2+1,none⟩=some (.pointer (some ⟨b,0,none⟩))∧(S b∧¬L.own b)∧Row w b 164 (cv++cf)∧tree.aV R (fun k=>S k∧¬L.own k) w v cv∧tree.aV R (fun k=>S k∧¬L.own k) w f cf:=by
     obtain ⟨sp,q1,q2⟩:=h.po
     obtain ⟨b,cv,cf,a1,a2,a3,a4,a5⟩:=q2 r hr v f hv
     refine ⟨b,cv,cf,?_,a2,a3,a4,a5⟩
     have:=q1.cell hr (show 1<2 by decide)
     rw [this,a1]
     rfl
  obtain ⟨x0,x1,rfl⟩:=aD (aV.len R sB)
  obtain ⟨y0,y1,rfl⟩:=aD (aV.len R hfr)
  have hn:=h.ok.n64
  have PM:aR L.n≤200:=by unfold M.aR M.tw;omega
  have p0:=h.zI hr
  have e0:=hc 15 _ (by decide) rfl
  have e1:=hc 16 _ (by decide) rfl
  have e2:=hc 17 _ (by decide) rfl
  have e3:=hc 18 _ (by decide) rfl
  have ef0:=hfz (t*28+15)
  have ef1:=hfz (t*28+16)
  have ef2:=hfz (t*28+17)
  have ef3:=hfz (t*28+18)
  have ox0:=aV.one R sB x0 (by simp)
  have ox1:=aV.one R sB x1 (by simp)
  have vc0:w.cell? ⟨b,0,none⟩=some x0:=hrow.cell_of rfl
  have vc1:w.cell? ⟨b,1,none⟩=some x1:=hrow.cell_of rfl
  have QX:L.g<w.heap.size:=h.lt _ (h.ow _ kE)
  have HH:=aA h
  have HV:=aA sB
  have HW:=aA (And.intro NF hrow)
  clear h hc hcv eE sB hfr NF hrow hfz hv
  have UR:=cA (P:=Tryz.prog) ox0
  have US:=cA (P:=Tryz.prog) ox1
  first|(have _:Kn 0:=kk;go_enter Tryz.func135,Tryz.ntmps135)|(have _:Kn 1:=kk;go_enter Tryz.func190,Tryz.ntmps190)|(have _:Kn 2:=kk;go_enter Tryz.func264,Tryz.ntmps264)
  go_wp2_with fail
  first|(have _:Kn 0:=kk;refine (int.iW L.bP (r*2+1) b _ w HW.out.1 HW.out.2 rfl).mono ?_)|(have _:Kn 1:=kk;refine (list.iW L.bP (r*2+1) b _ w HW.out.1 HW.out.2 rfl).mono ?_)|(have _:Kn 2:=kk;refine (tree.iW L.bP (r*2+1) b _ w HW.out.1 HW.out.2 rfl).mono ?_)
  rintro e w1 ⟨rfl,rfl⟩
  go_wp2_with fail
  obtain ⟨r1,k1⟩:=HH.out.jK ht ([x0,x1]++[x0,x1]) 0 (by simp) (by simp) HV.out HV.out (fun j hj=>by rw [if_pos ⟨Nat.zero_le _,by simpa using hj⟩];rfl) {E.th t with now:=some v,cC:=some v} rfl
  exact bodyPost_end (v:=.tuple #[]) (by simp [results,Tryz.results135,Tryz.results190,Tryz.results264,go_sem]) rfl ⟨rfl,(aF.of r1 k1 rfl).next (aF.below (aF.of r1 k1 rfl).re (aB _ _))⟩
theorem int.nU:eO:=oX.1
theorem list.nU:eO:=oX.2.1
theorem tree.nU:eO:=oX.2.2
theorem row.nU {σ:Type} {R:SR σ} {L:Lt} {S:Nat→Prop} {E:aK σ} {w:World} {t:Nat} (h:RE R L S E w) (ht:t<L.n) {r:Nat} (hr:r<2*L.n+1) {v f:cY σ} (hv:E.eV r=some (v,f)) :
  Calls Tryz.prog 227 #[.pointer (some ⟨L.bP,r*2,none⟩),.int .i64 (aR L.n:Int),.pointer (some ⟨L.g,t*30+14,none⟩)] w fun e w'=>e = .returned (.tuple #[])∧aF R L S w {E with th:=aH E.th t {E.th t with now:=some v,cC:=some v}} w':=by
 obtain ⟨KL,KM,pv,hc,hcv,eE,-,hfz⟩:=h.cells ht rfl
 obtain ⟨c0,c1,c2,rfl⟩:=aD hcv.1
 obtain ⟨d0,d1,d2,rfl⟩:=aD eE.1
 obtain ⟨b,cv,cf,NF,hIb,hrow,sB,hfr⟩:∃ b cv cf,w.cell? ⟨L.bP,r*2+1,none⟩=some (.pointer (some ⟨b,0,none⟩))∧(S b∧¬L.own b)∧Row w b 150 (cv++cf)∧aV R (fun k=>S k∧¬L.own k) w v cv∧aV R (fun k=>S k∧¬L.own k) w f cf:=by
  obtain ⟨sp,q1,q2⟩:=h.po
  obtain ⟨b,cv,cf,a1,a2,a3,a4,a5⟩:=q2 r hr v f hv
  refine ⟨b,cv,cf,?_,a2,a3,a4,a5⟩
  have:=q1.cell hr (show 1<2 by decide)
  rw [this,a1]
  rfl
 obtain ⟨x0,x1,x2,rfl⟩:=aD (aV.len R sB)
 obtain ⟨y0,y1,y2,rfl⟩:=aD (aV.len R hfr)
 have hn:=h.ok.n64
 have PM:aR L.n≤200:=by unfold M.aR M.tw;omega
 have p0:=h.zI hr
 have e0:=hc 15 _ (by decide) rfl
 have e1:=hc 16 _ (by decide) rfl
 have e2:=hc 17 _ (by decide) rfl
 have e3:=hc 18 _ (by decide) rfl
 have e4:=hc 19 _ (by decide) rfl
 have e5:=hc 20 _ (by decide) rfl
 have ef0:=hfz (t*30+15)
 have ef1:=hfz (t*30+16)
 have ef2:=hfz (t*30+17)
 have ef3:=hfz (t*30+18)
 have ef4:=hfz (t*30+19)
 have ef5:=hfz (t*30+20)
 have ox0:=aV.one R sB x0 (by simp)
 have ox1:=aV.one R sB x1 (by simp)
 have ox2:=aV.one R sB x2 (by simp)
 have vc0:w.cell? ⟨b,0,none⟩=some x0:=hrow.cell_of rfl
 have vc1:w.cell? ⟨b,1,none⟩=some x1:=hrow.cell_of rfl
 have vc2:w.cell? ⟨b,2,none⟩=some x2:=hrow.cell_of rfl
 have QX:L.g<w.heap.size:=h.lt _ (h.ow _ kE)
 have HH:=aA h
 have HV:=aA sB
 have HW:=aA (And.intro NF hrow)
 clear h hc hcv eE sB hfr NF hrow hfz hv
 have UR:=cA (P:=Tryz.prog) ox0
 have US:=cA (P:=Tryz.prog) ox1
 have aCD:=cA (P:=Tryz.prog) ox2
 go_enter Tryz.func227,Tryz.ntmps227
 go_wp2_with fail
 refine (iW L.bP (r*2+1) b _ w HW.out.1 HW.out.2 rfl).mono ?_
 rintro e w1 ⟨rfl,rfl⟩
 go_wp2_with fail
 obtain ⟨r1,k1⟩:=HH.out.jK ht ([x0,x1,x2]++[x0,x1,x2]) 0 (by simp) (by simp) HV.out HV.out (fun j hj=>by rw [if_pos ⟨Nat.zero_le _,by simpa using hj⟩];rfl) {E.th t with now:=some v,cC:=some v} rfl
 exact bodyPost_end (v:=.tuple #[]) (by simp [results,Tryz.results227,go_sem]) rfl ⟨rfl,(aF.of r1 k1 rfl).next (aF.below (aF.of r1 k1 rfl).re (aB _ _))⟩
def int.copied {σ:Type} (E:aK σ) (t n:Nat):aS σ :=
 if (E.th t).past<aR n then {E.th t with dw:=aH (E.th t).dw (E.th t).past (E.rw (E.th t).aQ (E.th t).past)} else {E.th t with now:=(E.eV (E.th t).aQ).map Prod.fst,cC:=(E.eV (E.th t).aQ).map Prod.fst}
theorem int.yT {σ:Type} (E:aK σ) (t n:Nat):(copied E t n).past=(E.th t).past:=by unfold copied;split<;>rfl
def int.gS:Prop:=∀ {σ:Type} {R:SR σ} {L:Lt} {S:Nat→Prop} {E:aK σ} {w:World} {t:Nat} (_h:RE R L S E w) (_ht:t<L.n) (_hr:(E.th t).aQ<2*L.n+1) (_hp:(E.th t).past≤aR L.n) (_hs:(E.eV (E.th t).aQ).isSome),Calls Tryz.prog 135 #[.pointer (some ⟨L.bP,(E.th t).aQ*2,none⟩),.int .i64 ((E.th t).past:Int),.pointer (some ⟨L.g,t*28+14,none⟩)] w fun e w'=>e = .returned (.tuple #[])∧aF R L S w {E with th:=aH E.th t (copied E t L.n)} w'
def list.gS:Prop:=∀ {σ:Type} {R:SR σ} {L:Lt} {S:Nat→Prop} {E:aK σ} {w:World} {t:Nat} (_h:RE R L S E w) (_ht:t<L.n) (_hr:(E.th t).aQ<2*L.n+1) (_hp:(E.th t).past≤aR L.n) (_hs:(E.eV (E.th t).aQ).isSome),Calls Tryz.prog 190 #[.pointer (some ⟨L.bP,(E.th t).aQ*2,none⟩),.int .i64 ((E.th t).past:Int),.pointer (some ⟨L.g,t*28+14,none⟩)] w fun e w'=>e = .returned (.tuple #[])∧aF R L S w {E with th:=aH E.th t (copied E t L.n)} w'
def tree.gS:Prop:=∀ {σ:Type} {R:SR σ} {L:Lt} {S:Nat→Prop} {E:aK σ} {w:World} {t:Nat} (_h:RE R L S E w) (_ht:t<L.n) (_hr:(E.th t).aQ<2*L.n+1) (_hp:(E.th t).past≤aR L.n) (_hs:(E.eV (E.th t).aQ).isSome),Calls Tryz.prog 264 #[.pointer (some ⟨L.bP,(E.th t).aQ*2,none⟩),.int .i64 ((E.th t).past:Int),.pointer (some ⟨L.g,t*28+14,none⟩)] w fun e w'=>e = .returned (.tuple #[])∧aF R L S w {E with th:=aH E.th t (copied E t L.n)} w'
def row.gS:Prop:=∀ {σ:Type} {R:SR σ} {L:Lt} {S:Nat→Prop} {E:aK σ} {w:World} {t:Nat} (_h:RE R L S E w) (_ht:t<L.n) (_hr:(E.th t).aQ<2*L.n+1) (_hp:(E.th t).past≤aR L.n) (_hs:(E.eV (E.th t).aQ).isSome),Calls Tryz.prog 227 #[.pointer (some ⟨L.bP,(E.th t).aQ*2,none⟩),.int .i64 ((E.th t).past:Int),.pointer (some ⟨L.g,t*30+14,none⟩)] w fun e w'=>e = .returned (.tuple #[])∧aF R L S w {E with th:=aH E.th t (copied E t L.n)} w'
open row in
theorem uC:int.gS∧list.gS∧tree.gS∧row.gS:=by
 refine ⟨?_,?_,?_,?_⟩<;>intro σ R L S E w t h ht hr hp hs
 all_goals
  unfold copied
  by_cases q:(E.th t).past<aR L.n
  ·rw [if_pos q]
   refine (pV h ht hr q).mono ?_
   rintro e w1 ⟨rfl,r1,k1⟩
   exact ⟨rfl,aF.of r1 k1 rfl⟩
  ·rw [if_neg q]
   obtain ⟨⟨v,f⟩,hv⟩:=Option.isSome_iff_exists.1 hs
   have hq:(E.th t).past=aR L.n:=by omega
   have:=nU h ht hr hv
   rw [hv]
   simp only [hq] at this ⊢
   exact this
theorem int.zY:gS:=uC.1
theorem list.zY:gS:=uC.2.1
theorem tree.zY:gS:=uC.2.2.1
theorem row.zY:gS:=uC.2.2.2
def int.dY:Prop:=∀ {σ:Type} {R:SR σ} {L:Lt} {S:Nat→Prop} {E:aK σ} {w:World} {t:Nat} (_h:RE R L S E w) (_ht:t<L.n) (_hr:(E.th t).aQ<2*L.n+1) (_hp:(E.th t).past≤aR L.n) (_hN:(E.th t).stamp≤1000000000) (_hs:(E.eV (E.th t).aQ).isSome),Calls Tryz.prog 118 #[.pointer (some ⟨L.g,t*28,none⟩)] w fun e w'=>e = .returned (.tuple #[])∧aF R L S w {E with th:=aH E.th t ((copied E t L.n).pass (aR L.n+1) 6)} w'
def list.dY:Prop:=∀ {σ:Type} {R:SR σ} {L:Lt} {S:Nat→Prop} {E:aK σ} {w:World} {t:Nat} (_h:RE R L S E w) (_ht:t<L.n) (_hr:(E.th t).aQ<2*L.n+1) (_hp:(E.th t).past≤aR L.n) (_hN:(E.th t).stamp≤1000000000) (_hs:(E.eV (E.th t).aQ).isSome),Calls Tryz.prog 178 #[.pointer (some ⟨L.g,t*28,none⟩)] w fun e w'=>e = .returned (.tuple #[])∧aF R L S w {E with th:=aH E.th t ((copied E t L.n).pass (aR L.n+1) 6)} w'
def tree.dY:Prop:=∀ {σ:Type} {R:SR σ} {L:Lt} {S:Nat→Prop} {E:aK σ} {w:World} {t:Nat} (_h:RE R L S E w) (_ht:t<L.n) (_hr:(E.th t).aQ<2*L.n+1) (_hp:(E.th t).past≤aR L.n) (_hN:(E.th t).stamp≤1000000000) (_hs:(E.eV (E.th t).aQ).isSome),Calls Tryz.prog 252 #[.pointer (some ⟨L.g,t*28,none⟩)] w fun e w'=>e = .returned (.tuple #[])∧aF R L S w {E with th:=aH E.th t ((copied E t L.n).pass (aR L.n+1) 6)} w'
def row.dY:Prop:=∀ {σ:Type} {R:SR σ} {L:Lt} {S:Nat→Prop} {E:aK σ} {w:World} {t:Nat} (_h:RE R L S E w) (_ht:t<L.n) (_hr:(E.th t).aQ<2*L.n+1) (_hp:(E.th t).past≤aR L.n) (_hN:(E.th t).stamp≤1000000000) (_hs:(E.eV (E.th t).aQ).isSome),Calls Tryz.prog 215 #[.pointer (some ⟨L.g,t*30,none⟩)] w fun e w'=>e = .returned (.tuple #[])∧aF R L S w {E with th:=aH E.th t ((copied E t L.n).pass (aR L.n+1) 6)} w'
open row in
theorem nV:int.dY∧list.dY∧tree.dY∧row.dY:=by
 refine ⟨@mkK _ 0 ?_,@mkK _ 1 ?_,@mkK _ 2 ?_,@mkK _ 3 ?_⟩<;>intro kk σ R L S E w t h ht hr hp hN hs
 all_goals
  obtain ⟨c0,c4,-,UM,s0,s4⟩:=h.parts ht rfl
  have hn:=h.ok.n64
  have yS:=h.ok.n1
  have PM:aR L.n≤200:=by unfold M.aR M.tw;omega
  have hr':((E.th t).aQ:Int)<2*(L.n:Int)+1:=by omega
  have hm:=aA (show (((E.th t).stamp:Int)*129+((E.th t).aQ:Int)) % 129=((E.th t).aQ:Int) by omega)
  have hcp:(copied E t L.n).stamp=(E.th t).stamp∧(copied E t L.n).aQ=(E.th t).aQ:=by unfold copied;split<;>exact ⟨rfl,rfl⟩
  have HH:=aA h
  have HP:=aA (fun (W:World) (hW:RE R L S E W)=>zY hW ht hr hp hs)
  clear h hs
  first|(have _:Kn 0:=kk;go_enter Tryz.func118,Tryz.ntmps118)|(have _:Kn 1:=kk;go_enter Tryz.func178,Tryz.ntmps178)|(have _:Kn 2:=kk;go_enter Tryz.func252,Tryz.ntmps252)|(have _:Kn 3:=kk;go_enter Tryz.func215,Tryz.ntmps215)
  go_wp2
  first|(have _:Kn 0:=kk;refine fQ (S:=(fun w'=>w'.cell? ⟨L.g,t*28,none⟩=some (.pointer (some ⟨L.bS,0,none⟩))∧w'.cell? ⟨L.g,t*28+4,none⟩=some (.int .i64 ((E.th t).past:Int))∧w'.cell? ⟨L.g,t*28+13,none⟩=some (.int .i64 (((E.th t).stamp:Int)*129+((E.th t).aQ:Int)))∧w'.cell? ⟨L.bS,4,none⟩=some (.slice (some ⟨L.bP,0,none⟩) (2*L.n+1) (2*L.n+1)))) 21 rfl (by kernel_rfl) ?_ (fun hHeld=>?_))|(have _:Kn 1:=kk;refine fQ (S:=(fun w'=>w'.cell? ⟨L.g,t*28,none⟩=some (.pointer (some ⟨L.bS,0,none⟩))∧w'.cell? ⟨L.g,t*28+4,none⟩=some (.int .i64 ((E.th t).past:Int))∧w'.cell? ⟨L.g,t*28+13,none⟩=some (.int .i64 (((E.th t).stamp:Int)*129+((E.th t).aQ:Int)))∧w'.cell? ⟨L.bS,4,none⟩=some (.slice (some ⟨L.bP,0,none⟩) (2*L.n+1) (2*L.n+1)))) 21 rfl (by kernel_rfl) ?_ (fun hHeld=>?_))|(have _:Kn 2:=kk;refine fQ (S:=(fun w'=>w'.cell? ⟨L.g,t*28,none⟩=some (.pointer (some ⟨L.bS,0,none⟩))∧w'.cell? ⟨L.g,t*28+4,none⟩=some (.int .i64 ((E.th t).past:Int))∧w'.cell? ⟨L.g,t*28+13,none⟩=some (.int .i64 (((E.th t).stamp:Int)*129+((E.th t).aQ:Int)))∧w'.cell? ⟨L.bS,4,none⟩=some (.slice (some ⟨L.bP,0,none⟩) (2*L.n+1) (2*L.n+1)))) 21 rfl (by kernel_rfl) ?_ (fun hHeld=>?_))|(have _:Kn 3:=kk;refine fQ (S:=(fun w'=>w'.cell? ⟨L.g,t*30,none⟩=some (.pointer (some ⟨L.bS,0,none⟩))∧w'.cell? ⟨L.g,t*30+4,none⟩=some (.int .i64 ((E.th t).past:Int))∧w'.cell? ⟨L.g,t*30+13,none⟩=some (.int .i64 (((E.th t).stamp:Int)*129+((E.th t).aQ:Int)))∧w'.cell? ⟨L.bS,4,none⟩=some (.slice (some ⟨L.bP,0,none⟩) (2*L.n+1) (2*L.n+1)))) 21 rfl (by kernel_rfl) ?_ (fun hHeld=>?_))
  ·exact ⟨c0,c4,UM,s4⟩
  iterate 11 (refine tk 20 (by rfl) (by kernel_rfl) (by exact fun _ _ _ h=>h) (.inl ⟨by rfl,fun w hS=>by (try dsimp only at hS);go_simp;(try with_reducible rfl)⟩) (by assumption) ?_;try go_frame)
  iterate 7 (refine tk 22 (by rfl) (by kernel_rfl) (by exact fun _ _ _ h=>h) (.inl ⟨by rfl,fun w hS=>by (try dsimp only at hS);go_simp;(try with_reducible rfl)⟩) (by assumption) ?_;try go_frame)
  refine bK 11 (by rfl) (by kernel_rfl) (fun K hK=>?_)
  go_simp
  refine (rA _ _ (by omega) (by omega)).mono ?_
  rintro e w2 ⟨rfl,rfl⟩
  rw [hm.out]
  go_wp2_with fail
  refine hK.out _ _ ?_ (fun hHeld=>?_)
  ·exact hHeld
  clear hK K
  (try go_frame)
  iterate 1 (refine tk 13 (by rfl) (by kernel_rfl) (by exact fun _ _ _ h=>h) (.inl ⟨by rfl,fun w hS=>by (try dsimp only at hS);go_simp;(try with_reducible rfl)⟩) (by assumption) ?_;try go_frame)
  refine bK 20 (by rfl) (by kernel_rfl) (fun K hK=>?_)
  go_simp
  refine (HP.out w.drew HH.out.drew).mono ?_
  rintro e w3 ⟨rfl,L3⟩
  go_wp2_with fail
  refine hK.out _ _ ?_ (fun hHeld=>?_)
  ·obtain ⟨z0,z4,-,z13,-,YK⟩:=L3.re.parts ht (aC _ _ _);rw [yT] at z4;rw [hcp.1,hcp.2] at z13;exact ⟨z0,z4,z13,YK⟩
  clear hK K
  (try go_frame)
  refine wpAnyH_done (by kernel_rfl) ?_ _
  obtain ⟨z0,z4,-,-,zs0,-⟩:=L3.re.parts ht (aC _ _ _)
  have HL:=aA (show aF R L S w {E with th:=aH E.th t (copied E t L.n)} w3 from ⟨L3.re,⟨L3.fr.os,L3.fr.tape,L3.fr.output,L3.fr.size,L3.fr.block⟩⟩)
  clear hHeld c0 c4 UM s0 s4 z4
  go_wp2_with fail
  refine (xM (L.n:Int) _ (by omega) (by omega)).mono ?_
  rintro e w4 ⟨rfl,cR⟩
  rw [CD]
  have PN:=aA (HL.out.next (aF.below HL.out.re cR))
  go_wp2_with fail
  refine (jZ PN.out.re ht (aR L.n+1) 6 (by omega) (by simp only [aC,yT];omega)).mono ?_
  rintro e w5 ⟨rfl,r5,k5⟩
  have HR:=aA (And.intro r5 k5)
  clear r5 k5
  go_wp2
  refine bodyPost_end (v:=.tuple #[]) (by simp [results,Tryz.results118,Tryz.results178,Tryz.results252,Tryz.results215,go_sem]) rfl ⟨rfl,PN.out.next (aF.of (HR.out.1.cast ?_) HR.out.2 rfl)⟩
  simp only [bR,aC]
theorem int.oY:dY:=nV.1
theorem list.oY:dY:=nV.2.1
theorem tree.oY:dY:=nV.2.2.1
theorem row.oY:dY:=nV.2.2.2
def int.eY (x:Int):Prop:=0≤x∧x<65536
def int.waits {σ:Type} (e:aS σ) (k:Nat):List Nat:=(List.range k).filter fun i=>M.kY e.tg i != M.kY e.dw i
theorem int.NG {σ:Type} (e:aS σ) (k:Nat):waits e (k+1)=waits e k++if M.kY e.tg k != M.kY e.dw k then [k] else []:=by
 unfold waits
 rw [List.range_succ,List.filter_append]
 congr 1
 by_cases h:(M.kY e.tg k != M.kY e.dw k)=true
 ·simp [h]
 ·simp [h]
theorem int.EX {σ:Type} (e:aS σ) (k:Nat):(waits e k).length≤k:=by
 unfold waits
 exact Nat.le_trans (List.length_filter_le _ _) (by simp)
def int.eP:Prop:=∀ {σ:Type} {R:SR σ} {L:Lt} {S:Nat→Prop} {E:aK σ} {w:World} {t:Nat} (_h:RE R L S E w) (_ht:t<L.n) (_hw:∀ k,k<M.tw L.n→eY ((E.th t).tg k)∧eY ((E.th t).dw k)),Calls Tryz.prog 140 #[.pointer (some ⟨L.g,t*28,none⟩)] w fun e w'=>∃ v,e = .returned v∧w'.ownsRow w.heap.size 3 1 v ((E.th t).waiting L.n).length (ints (((E.th t).waiting L.n).map Int.ofNat))∧Below w.heap.size w w'
def list.eP:Prop:=∀ {σ:Type} {R:SR σ} {L:Lt} {S:Nat→Prop} {E:aK σ} {w:World} {t:Nat} (_h:RE R L S E w) (_ht:t<L.n) (_hw:∀ k,k<M.tw L.n→eY ((E.th t).tg k)∧eY ((E.th t).dw k)),Calls Tryz.prog 192 #[.pointer (some ⟨L.g,t*28,none⟩)] w fun e w'=>∃ v,e = .returned v∧w'.ownsRow w.heap.size 3 1 v ((E.th t).waiting L.n).length (ints (((E.th t).waiting L.n).map Int.ofNat))∧Below w.heap.size w w'
def tree.eP:Prop:=∀ {σ:Type} {R:SR σ} {L:Lt} {S:Nat→Prop} {E:aK σ} {w:World} {t:Nat} (_h:RE R L S E w) (_ht:t<L.n) (_hw:∀ k,k<M.tw L.n→eY ((E.th t).tg k)∧eY ((E.th t).dw k)),Calls Tryz.prog 266 #[.pointer (some ⟨L.g,t*28,none⟩)] w fun e w'=>∃ v,e = .returned v∧w'.ownsRow w.heap.size 3 1 v ((E.th t).waiting L.n).length (ints (((E.th t).waiting L.n).map Int.ofNat))∧Below w.heap.size w w'
def row.eP:Prop:=∀ {σ:Type} {R:SR σ} {L:Lt} {S:Nat→Prop} {E:aK σ} {w:World} {t:Nat} (_h:RE R L S E w) (_ht:t<L.n) (_hw:∀ k,k<M.tw L.n→eY ((E.th t).tg k)∧eY ((E.th t).dw k)),Calls Tryz.prog 229 #[.pointer (some ⟨L.g,t*30,none⟩)] w fun e w'=>∃ v,e = .returned v∧w'.ownsRow w.heap.size 3 1 v ((E.th t).waiting L.n).length (ints (((E.th t).waiting L.n).map Int.ofNat))∧Below w.heap.size w w'
open row in
theorem pW:int.eP∧list.eP∧tree.eP∧row.eP:=by
 refine ⟨@mkK _ 0 ?_,@mkK _ 1 ?_,@mkK _ 2 ?_,@mkK _ 3 ?_⟩<;>intro kk σ R L S E w t h ht hw
 all_goals
  obtain ⟨mi,hmi,hmz⟩:=Option.map_eq_some_iff.1 XW
  simp only [Prod.mk.injEq] at hmz
  obtain ⟨UU,UW,UX⟩:=hmz
  have HMI:=aA hmi
  have HM1:=aA UU
  have HM2:=aA UW
  have HM3:=aA UX
  obtain ⟨cv,cf,pv,hc,hcv,eE,-,-⟩:=h.cells ht rfl
  first|(have _:Kn 0:=kk;obtain ⟨x0,x1,rfl⟩:=int.aD hcv.1)|(have _:Kn 1:=kk;obtain ⟨x0,x1,rfl⟩:=int.aD hcv.1)|(have _:Kn 2:=kk;obtain ⟨x0,x1,rfl⟩:=int.aD hcv.1)|(have _:Kn 3:=kk;obtain ⟨x0,x1,x2,rfl⟩:=row.aD hcv.1)
  first|(have _:Kn 0:=kk;obtain ⟨y0,y1,rfl⟩:=int.aD eE.1)|(have _:Kn 1:=kk;obtain ⟨y0,y1,rfl⟩:=int.aD eE.1)|(have _:Kn 2:=kk;obtain ⟨y0,y1,rfl⟩:=int.aD eE.1)|(have _:Kn 3:=kk;obtain ⟨y0,y1,y2,rfl⟩:=row.aD eE.1)
  have hn:=h.ok.n64
  first|(have _:Kn 0:=kk;have c0:w.cell? ⟨L.g,t*28,none⟩=some (.pointer (some ⟨L.bS,0,none⟩)):=hc 0 _ (by decide) rfl)|(have _:Kn 1:=kk;have c0:w.cell? ⟨L.g,t*28,none⟩=some (.pointer (some ⟨L.bS,0,none⟩)):=hc 0 _ (by decide) rfl)|(have _:Kn 2:=kk;have c0:w.cell? ⟨L.g,t*28,none⟩=some (.pointer (some ⟨L.bS,0,none⟩)):=hc 0 _ (by decide) rfl)|(have _:Kn 3:=kk;have c0:w.cell? ⟨L.g,t*30,none⟩=some (.pointer (some ⟨L.bS,0,none⟩)):=hc 0 _ (by decide) rfl)
  have YJ:=hc 14 _ (by decide) rfl
  first|(have _:Kn 0:=kk;have cg:=hc 19 _ (by decide) rfl)|(have _:Kn 1:=kk;have cg:=hc 19 _ (by decide) rfl)|(have _:Kn 2:=kk;have cg:=hc 19 _ (by decide) rfl)|(have _:Kn 3:=kk;have cg:=hc 21 _ (by decide) rfl)
  have s0:w.cell? ⟨L.bS,0,none⟩=some (.int .i64 (L.n:Int)):=h.sh.cell_of rfl
  have HD:=aA (fun k (hk:k<M.aR L.n)=>(h.gd t ht).cell hk)
  have HG:=aA (fun k (hk:k<M.tw L.n)=>(h.gg t ht).cell hk)
  have HC:=aA (And.intro YJ cg)
  have HW:=aA hw
  clear h hc hcv eE hmi UU UW UX YJ cg hw
  have haw:∀ k,k<L.n→k / 16<M.tw L.n:=fun k hk=>by unfold M.tw;omega
  have hbw:∀ k,k<L.n→k / 16<M.aR L.n:=fun k hk=>by unfold M.aR;have:=haw k hk;omega
  generalize M.tw L.n=a at *
  generalize M.aR L.n=b at *
  generalize L.gG t=gg at *
  generalize L.gD t=gd at *
  first|(have _:Kn 0:=kk;go_enter Tryz.func140,Tryz.ntmps140)|(have _:Kn 1:=kk;go_enter Tryz.func192,Tryz.ntmps192)|(have _:Kn 2:=kk;go_enter Tryz.func266,Tryz.ntmps266)|(have _:Kn 3:=kk;go_enter Tryz.func229,Tryz.ntmps229)
  go_wp2
  go_loopw [3,13] (fun th i w'=>∃ k:Nat,k≤L.n∧i = .int .i64 (k:Int)∧Below w.heap.size w w'∧w'.ownsRow w.heap.size 3 1 th (waits (E.th t) k).length (ints ((waits (E.th t) k).map Int.ofNat))) (fun _ i _=>L.n-(intOf i).toNat)
  case atStart=>exact ⟨0,Nat.zero_le _,rfl,Below.refl _ _,World.ownsRow_nil _ _ _ _⟩
  case round =>
   obtain ⟨k,hk,rfl,hB,hO⟩:=hrel
   by_cases hlt:k<L.n
   ·have hlt':(k:Int)<(L.n:Int):=by omega
    have hq:=haw k hlt
    have XZ:=hbw k hlt
    have d14:=cell_later hB HC.out.1
    have dg:=cell_later hB HC.out.2
    have a1:=cell_later hB (HG.out _ hq)
    have a2:=cell_later hB (HD.out _ XZ)
    obtain ⟨⟨u1,u2⟩,u3,u4⟩:=HW.out _ hq
    have aCH:(M.kY (E.th t).tg k != M.kY (E.th t).dw k)=(decide (((E.th t).tg (k / 16) / 2 ^ (k % 16)) % 2=1) != decide (((E.th t).dw (k / 16) / 2 ^ (k % 16)) % 2=1)):=rfl
    have HBT:=aA (NG (E.th t) k)
    rw [aCH] at HBT
    generalize (E.th t).tg (k / 16)=x1 at *
    generalize (E.th t).dw (k / 16)=x2 at *
    generalize hy1:decide ((x1 / 2 ^ (k % 16)) % 2=1)=y1 at *
    generalize hy2:decide ((x2 / 2 ^ (k % 16)) % 2=1)=y2 at *
    have HB:=aA hB
    have HO:=aA hO
    have H1:=aA (fun (W:World) (hW:W.cell? ⟨gg,k / 16,none⟩=some (.int .i64 x1))=>KK gg a a k x1 W (by omega) hq hW u1 u2)
    have H2:=aA (fun (W:World) (hW:W.cell? ⟨gd,k / 16,none⟩=some (.int .i64 x2))=>KK gd b b k x2 W (by omega) XZ hW u3 u4)
    rw [hy1] at H1
    rw [hy2] at H2
    have A1:=aA (fun n=>Calls.quiet_of (n:=n) (H1.out (wr.drewN n) a1))
    have A2:=aA (fun n=>Calls.quiet_of (n:=n) (H2.out (wr.drewN n) a2))
    clear hB hO a1 a2 H1 H2 aCH hy1 hy2 hq XZ u1 u2 u3 u4
    go_wp2
    go_quiet ((go_at_call 154;first|(with_reducible exact A1.out _)|(with_reducible exact A2.out _)))
    have HN:=aA (EX (E.th t) k)
    have aAL:=HB.out.size
    cases y1<;>cases y2
    case' false.true|true.false =>
     have hw1:=aA (show waits (E.th t) (k+1)=waits (E.th t) k++[k] by have e:=HBT.out;simpa using e)
     go_wp2_with (at_builtin;refine oM _ rfl (.tmp 30) (.tmp 32) 22 rfl w.heap.size 3 mi (.int .i64 0) 1 8 Tryz.underlying22 HMI.out HM1.out HM2.out HM3.out rfl (by decide) _ (waits (E.th t) k).length _ rfl ((show (wr.drewN nq).ownsRow w.heap.size 3 1 _ _ _ from HO.out).kept (JT (aB _ _)) (by cases (Value.ownBlock _)<;>simp)) ⟨(wr.drewN nq).heap.size,0,none⟩ 1 1 [.int .i64 (k:Int)] rfl rfl (World.news_of_block (Row.new _ _ _)) (by simp [Value.oneCell']) (by decide) (by have:=HN.out;unfold maxLen;omega) (by have:=HN.out;omega) (by simp;omega) ?_)
     intro g3 c3 w3 hown jY hl3 JM
     have cH:Below w.heap.size w w3:=(Below.next (Below.drewN HB.out nq) (aB (wr.drewN nq) _) aAL).grown jY (by simp;omega) (fun q hq=>(HO.out.lt q hq).1)
     have HR:=aA (And.intro cH hown)
     clear hown jY hl3 JM cH
     go_wp2
     go_roundw
     case rel =>
      refine ⟨k+1,by omega,by go_num,HR.out.1,?_⟩
      rw [hw1.out]
      have:=HR.out.2
      simpa [ints] using this
     case measure=>simp [intOf];omega
    all_goals
     have hw1:=aA (show waits (E.th t) (k+1)=waits (E.th t) k by have e:=HBT.out;simpa using e)
     go_wp2
     go_roundw
     case rel=>exact ⟨k+1,by omega,by go_num,Below.drewN HB.out _,by rw [hw1.out];exact HO.out⟩
     case measure=>simp [intOf];omega
   ·have hlt':¬(k:Int)<(L.n:Int):=by omega
    have hkn:k=L.n:=by omega
    have HB:=aA (show Below w.heap.size w wr from hB)
    have HO:=aA (show wr.ownsRow w.heap.size 3 1 _ ((E.th t).waiting L.n).length (ints (((E.th t).waiting L.n).map Int.ofNat)) by rw [hkn] at hO;exact hO)
    clear hB hO hkn
    go_wp2
    go_ret
    exact ⟨_,rfl,HO.out,HB.out⟩
theorem int.uD:eP:=pW.1
theorem list.uD:eP:=pW.2.1
theorem tree.uD:eP:=pW.2.2.1
theorem row.uD:eP:=pW.2.2.2
end Go.Proofs.YtefjhnhdagolhabGreat
