import Derived.Test.YtefjhnhdagolhabGreatQ20
import Derived.Test.YtefjhnhdagolhabGreatQ03
set_option maxHeartbeats 8000000
set_option maxRecDepth 20000
namespace Go.Proofs.YtefjhnhdagolhabGreat
open int list tree
open Go.RowKit
open M (aH aC aE Op cY aS aK aR aL aM)
attribute [local go_sem ↓] Go.wp_at_zero Go.wp_at_succ
theorem int.cA {P:Program} {v:Value} (hv:v.oneCell'=true) (W:World) (a:Addr) (u:Value) (hc:W.cell? a=some u) (hf:W.frozen? a=false):(store a v).run P W = .ok () (W.setCell a v):=by
 rw [run_store P W a v _ hv]
 simp [hc,hf]
def int.cW:Prop:=∀ {σ:Type} {R:SR σ} {L:Lt} {S:Nat→Prop} {E:aK σ} {w:World} {t:Nat} (_h:RE R L S E w) (_ht:t<L.n) {r p:Nat} (_hr:r<2*L.n+1) (_hp:p<aR L.n),Calls Tryz.prog 144 #[.pointer (some ⟨L.bP,r*2,none⟩),.int .i64 (p:Int),.pointer (some ⟨L.g,t*28+14,none⟩)] w fun e w'=>e = .returned (.tuple #[])∧RE R L S {E with rw:=aH E.rw r (aH (E.rw r) p ((E.th t).dw p))} w'∧Fr L.own w w'
def list.cW:Prop:=∀ {σ:Type} {R:SR σ} {L:Lt} {S:Nat→Prop} {E:aK σ} {w:World} {t:Nat} (_h:RE R L S E w) (_ht:t<L.n) {r p:Nat} (_hr:r<2*L.n+1) (_hp:p<aR L.n),Calls Tryz.prog 195 #[.pointer (some ⟨L.bP,r*2,none⟩),.int .i64 (p:Int),.pointer (some ⟨L.g,t*28+14,none⟩)] w fun e w'=>e = .returned (.tuple #[])∧RE R L S {E with rw:=aH E.rw r (aH (E.rw r) p ((E.th t).dw p))} w'∧Fr L.own w w'
def tree.cW:Prop:=∀ {σ:Type} {R:SR σ} {L:Lt} {S:Nat→Prop} {E:aK σ} {w:World} {t:Nat} (_h:RE R L S E w) (_ht:t<L.n) {r p:Nat} (_hr:r<2*L.n+1) (_hp:p<aR L.n),Calls Tryz.prog 269 #[.pointer (some ⟨L.bP,r*2,none⟩),.int .i64 (p:Int),.pointer (some ⟨L.g,t*28+14,none⟩)] w fun e w'=>e = .returned (.tuple #[])∧RE R L S {E with rw:=aH E.rw r (aH (E.rw r) p ((E.th t).dw p))} w'∧Fr L.own w w'
def row.cW:Prop:=∀ {σ:Type} {R:SR σ} {L:Lt} {S:Nat→Prop} {E:aK σ} {w:World} {t:Nat} (_h:RE R L S E w) (_ht:t<L.n) {r p:Nat} (_hr:r<2*L.n+1) (_hp:p<aR L.n),Calls Tryz.prog 232 #[.pointer (some ⟨L.bP,r*2,none⟩),.int .i64 (p:Int),.pointer (some ⟨L.g,t*30+14,none⟩)] w fun e w'=>e = .returned (.tuple #[])∧RE R L S {E with rw:=aH E.rw r (aH (E.rw r) p ((E.th t).dw p))} w'∧Fr L.own w w'
open row in
theorem lN:int.cW∧list.cW∧tree.cW∧row.cW:=by
 refine ⟨@mkK _ 0 ?_,@mkK _ 1 ?_,@mkK _ 2 ?_,@mkK _ 3 ?_⟩<;>intro kk σ R L S E w t h ht r p hr hp
 all_goals
  obtain ⟨cv,cf,pv,hc,-,-,-,-⟩:=h.cells ht rfl
  have hn:=h.ok.n64
  have PM:aR L.n≤200:=by unfold M.aR M.tw;omega
  have YJ:=hc 14 _ (by decide) rfl
  have p0:=h.zI hr
  have d0:w.cell? ⟨L.gD t,p,none⟩=some (.int .i64 ((E.th t).dw p)):=(h.gd t ht).cell hp
  have th:w.there (L.bW r) p 1:=(h.rw r hr).there hp
  have nPW:L.bP≠L.bW r:=by obtain ⟨sp,q2,-⟩:=h.po;exact Row.apart q2 (h.rw r hr) (by decide)
  have ngW:L.g≠L.bW r:=by obtain ⟨T,q,-⟩:=h.th;exact Row.apart q (h.rw r hr) (by decide)
  have nDW:L.gD t≠L.bW r:=Row.apart (h.gd t ht) (h.rw r hr) (by decide)
  have hp':(p:Int)<(aR L.n:Int):=by omega
  have H1:=aA (h.wG r hr p ((E.th t).dw p))
  clear h hc
  first|(have _:Kn 0:=kk;go_enter Tryz.func144,Tryz.ntmps144)|(have _:Kn 1:=kk;go_enter Tryz.func195,Tryz.ntmps195)|(have _:Kn 2:=kk;go_enter Tryz.func269,Tryz.ntmps269)|(have _:Kn 3:=kk;go_enter Tryz.func232,Tryz.ntmps232)
  go_wp2
  first|(have _:Kn 0:=kk;refine fQ (S:=(fun w'=>w'.cell? ⟨L.g,t*28+14,none⟩=some (.slice (some ⟨L.gD t,0,none⟩) (aR L.n) (aR L.n))∧w'.cell? ⟨L.bP,r*2,none⟩=some (.slice (some ⟨L.bW r,0,none⟩) (aR L.n) (aR L.n))∧w'.cell? ⟨L.gD t,p,none⟩=some (.int .i64 ((E.th t).dw p))∧w'.there (L.bW r) (p) 1)) 14 rfl (by kernel_rfl) ?_ (fun hHeld=>?_))|(have _:Kn 1:=kk;refine fQ (S:=(fun w'=>w'.cell? ⟨L.g,t*28+14,none⟩=some (.slice (some ⟨L.gD t,0,none⟩) (aR L.n) (aR L.n))∧w'.cell? ⟨L.bP,r*2,none⟩=some (.slice (some ⟨L.bW r,0,none⟩) (aR L.n) (aR L.n))∧w'.cell? ⟨L.gD t,p,none⟩=some (.int .i64 ((E.th t).dw p))∧w'.there (L.bW r) (p) 1)) 14 rfl (by kernel_rfl) ?_ (fun hHeld=>?_))|(have _:Kn 2:=kk;refine fQ (S:=(fun w'=>w'.cell? ⟨L.g,t*28+14,none⟩=some (.slice (some ⟨L.gD t,0,none⟩) (aR L.n) (aR L.n))∧w'.cell? ⟨L.bP,r*2,none⟩=some (.slice (some ⟨L.bW r,0,none⟩) (aR L.n) (aR L.n))∧w'.cell? ⟨L.gD t,p,none⟩=some (.int .i64 ((E.th t).dw p))∧w'.there (L.bW r) (p) 1)) 14 rfl (by kernel_rfl) ?_ (fun hHeld=>?_))|(have _:Kn 3:=kk;refine fQ (S:=(fun w'=>w'.cell? ⟨L.g,t*30+14,none⟩=some (.slice (some ⟨L.gD t,0,none⟩) (aR L.n) (aR L.n))∧w'.cell? ⟨L.bP,r*2,none⟩=some (.slice (some ⟨L.bW r,0,none⟩) (aR L.n) (aR L.n))∧w'.cell? ⟨L.gD t,p,none⟩=some (.int .i64 ((E.th t).dw p))∧w'.there (L.bW r) (p) 1)) 14 rfl (by kernel_rfl) ?_ (fun hHeld=>?_))
  ·exact ⟨YJ,p0,d0,th⟩
  iterate 13 (refine tk 13 (by rfl) (by kernel_rfl) (by exact fun _ _ _ h=>h) (.inl ⟨by rfl,fun w hS=>by (try dsimp only at hS);go_simp;(try with_reducible rfl)⟩) (by assumption) ?_;try go_frame)
  refine bK 13 (by rfl) (by kernel_rfl) (fun K hK=>?_)
  go_simp
  obtain ⟨⟨u,hu⟩,hz⟩:=sA hHeld.2.2.2
  refine (ET (L.bW r) p u _ _ hu hz).mono ?_
  rintro e w3 ⟨rfl,rfl⟩
  go_wp2_with fail
  refine hK.out _ _ ?_ (fun hHeld=>?_)
  ·exact ⟨aJ hHeld.1 (by first|exact .inr (by dsimp only;omega)|exact .inl (by assumption)|exact .inl (Ne.symm (by assumption))),aJ hHeld.2.1 (by first|exact .inr (by dsimp only;omega)|exact .inl (by assumption)|exact .inl (Ne.symm (by assumption))),aJ hHeld.2.2.1 (by first|exact .inr (by dsimp only;omega)|exact .inl (by assumption)|exact .inl (Ne.symm (by assumption))),bM hHeld.2.2.2 _ rfl _⟩
  clear hK K
  (try go_frame)
  refine wpAnyH_done (by kernel_rfl) ?_ _
  clear hHeld hu hz
  go_wp2
  exact bodyPost_ret (v:=.tuple #[]) (by simp [results,Tryz.results144,Tryz.results195,Tryz.results269,Tryz.results232,go_sem]) rfl ⟨rfl,H1.out.drew,(Fr.set w (aAE hr) _).drew⟩
theorem int.nS:cW:=lN.1
theorem list.nS:cW:=lN.2.1
theorem tree.nS:cW:=lN.2.2.1
theorem row.nS:cW:=lN.2.2.2
def int.eG:Prop:=∀ {σ:Type} {R:SR σ} {L:Lt} {S:Nat→Prop} {E:aK σ} {w:World} {t:Nat} (_h:RE R L S E w) (_ht:t<L.n) {r:Nat} (_hr:r<2*L.n+1) {v f:cY σ} (_hv:(E.th t).now=some v) (_hf:(E.th t).cC=some f),Calls Tryz.prog 144 #[.pointer (some ⟨L.bP,r*2,none⟩),.int .i64 (aR L.n:Int),.pointer (some ⟨L.g,t*28+14,none⟩)] w fun e w'=>e = .returned (.tuple #[])∧aF R L S w {E with eV:=aH E.eV r (some (v,f))} w'
def list.eG:Prop:=∀ {σ:Type} {R:SR σ} {L:Lt} {S:Nat→Prop} {E:aK σ} {w:World} {t:Nat} (_h:RE R L S E w) (_ht:t<L.n) {r:Nat} (_hr:r<2*L.n+1) {v f:cY σ} (_hv:(E.th t).now=some v) (_hf:(E.th t).cC=some f),Calls Tryz.prog 195 #[.pointer (some ⟨L.bP,r*2,none⟩),.int .i64 (aR L.n:Int),.pointer (some ⟨L.g,t*28+14,none⟩)] w fun e w'=>e = .returned (.tuple #[])∧aF R L S w {E with eV:=aH E.eV r (some (v,f))} w'
def tree.eG:Prop:=∀ {σ:Type} {R:SR σ} {L:Lt} {S:Nat→Prop} {E:aK σ} {w:World} {t:Nat} (_h:RE R L S E w) (_ht:t<L.n) {r:Nat} (_hr:r<2*L.n+1) {v f:cY σ} (_hv:(E.th t).now=some v) (_hf:(E.th t).cC=some f),Calls Tryz.prog 269 #[.pointer (some ⟨L.bP,r*2,none⟩),.int .i64 (aR L.n:Int),.pointer (some ⟨L.g,t*28+14,none⟩)] w fun e w'=>e = .returned (.tuple #[])∧aF R L S w {E with eV:=aH E.eV r (some (v,f))} w'
theorem nF:int.eG∧list.eG∧tree.eG:=by
 refine ⟨@mkK _ 0 ?_,@mkK _ 1 ?_,@mkK _ 2 ?_⟩<;>intro kk σ R L S E w t h ht r hr v f hv hf
 all_goals
  obtain ⟨cv,cf,pv,hc,hcv,eE,-,-⟩:=h.cells ht rfl
  have sB:=hcv.2 v hv
  have hfr:=eE.2 f hf
  obtain ⟨x0,x1,rfl⟩:=aD hcv.1
  obtain ⟨y0,y1,rfl⟩:=aD eE.1
  have hn:=h.ok.n64
  have PM:aR L.n≤200:=by unfold M.aR M.tw;omega
  have p0:=h.zI hr
  have e0:=hc 15 _ (by decide) rfl
  have e1:=hc 16 _ (by decide) rfl
  have e2:=hc 17 _ (by decide) rfl
  have e3:=hc 18 _ (by decide) rfl
  have ox0:=aV.one R sB x0 (by simp)
  have ox1:=aV.one R sB x1 (by simp)
  have oy0:=aV.one R hfr y0 (by simp)
  have oy1:=aV.one R hfr y1 (by simp)
  have th:w.there L.bP (r*2+1) 1:=by obtain ⟨sp,q2,-⟩:=h.po;exact q2.there hr (by decide)
  have HH:=aA h
  have HV:=aA (And.intro sB hfr)
  have TH:=aA th
  clear h hc hcv eE sB hfr th
  have UR:=cA (P:=Tryz.prog) ox0
  have US:=cA (P:=Tryz.prog) ox1
  have aCB:=cA (P:=Tryz.prog) oy0
  have aCC:=cA (P:=Tryz.prog) oy1
  first|(have _:Kn 0:=kk;go_enter Tryz.func144,Tryz.ntmps144)|(have _:Kn 1:=kk;go_enter Tryz.func195,Tryz.ntmps195)|(have _:Kn 2:=kk;go_enter Tryz.func269,Tryz.ntmps269)
  go_wp2_with fail
  generalize nT:World.alloc _ _=W3
  first|(have _:Kn 0:=kk;have hrow:Row W3 w.heap.size 122 ([x0,x1]++[y0,y1]):=by rw [←nT];exact Row.new w ([x0,x1]++[y0,y1]) _)|(have _:Kn 1:=kk;have hrow:Row W3 w.heap.size 136 ([x0,x1]++[y0,y1]):=by rw [←nT];exact Row.new w ([x0,x1]++[y0,y1]) _)|(have _:Kn 2:=kk;have hrow:Row W3 w.heap.size 164 ([x0,x1]++[y0,y1]):=by rw [←nT];exact Row.new w ([x0,x1]++[y0,y1]) _)
  have cH:Below w.heap.size w W3:=by
   rw [←nT]
   exact aB w _
  have UT:W3.there L.bP (r*2+1) 1:=aU cH TH.out
  obtain ⟨⟨u,hu⟩,hz⟩:=sA UT
  have q0:W3.cell? ⟨w.heap.size,0,none⟩=some x0:=hrow.cell_of rfl
  have HB:=aA cH
  have HW:=aA hrow
  have HU:=aA (And.intro hu hz)
  clear nT cH hrow hu hz UT
  first|(have _:Kn 0:=kk;refine (int.gL L.bP (r*2+1) w.heap.size u x0 W3 HU.out.1 HU.out.2 q0).mono ?_)|(have _:Kn 1:=kk;refine (list.gL L.bP (r*2+1) w.heap.size u x0 W3 HU.out.1 HU.out.2 q0).mono ?_)|(have _:Kn 2:=kk;refine (tree.gL L.bP (r*2+1) w.heap.size u x0 W3 HU.out.1 HU.out.2 q0).mono ?_)
  rintro e w4 ⟨rfl,rfl⟩
  go_wp2
  refine bodyPost_end (v:=.tuple #[]) (by simp [results,Tryz.results144,Tryz.results195,Tryz.results269,go_sem]) rfl ⟨rfl,(aF.below HH.out HB.out).next (aF.of ((HH.out.below HB.out).rJ r hr w.heap.size (some (v,f)) ?_) (Fr.set _ UO _) rfl)⟩
  have hst:∀ k,(S k∧¬L.own k)→k<w.heap.size→(grown S w W3 k∧¬L.own k)∧W3.heap[k]?=w.heap[k]?:=fun k hk hlt=>⟨⟨.inl hk.1,hk.2⟩,HB.out.block k hlt⟩
  have hI:∀ k,(S k∧¬L.own k)→k<w.heap.size:=fun k hk=>HH.out.lt k hk.1
  intro v' f' e
  injection e with e
  injection e with e1 e2
  subst e1
  subst e2
  exact ⟨w.heap.size,_,_,rfl,⟨.inr ⟨Nat.le_refl _,HW.out.lt⟩,fun q=>by have:=HH.out.lt _ (HH.out.ow _ q);omega⟩,HW.out,aV.stay hst hI HV.out.1,aV.stay hst hI HV.out.2⟩
theorem int.mH:eG:=nF.1
theorem list.mH:eG:=nF.2.1
theorem tree.mH:eG:=nF.2.2
theorem row.mH {σ:Type} {R:SR σ} {L:Lt} {S:Nat→Prop} {E:aK σ} {w:World} {t:Nat} (h:RE R L S E w) (ht:t<L.n) {r:Nat} (hr:r<2*L.n+1) {v f:cY σ} (hv:(E.th t).now=some v) (hf:(E.th t).cC=some f) :
  Calls Tryz.prog 232 #[.pointer (some ⟨L.bP,r*2,none⟩),.int .i64 (aR L.n:Int),.pointer (some ⟨L.g,t*30+14,none⟩)] w fun e w'=>e = .returned (.tuple #[])∧aF R L S w {E with eV:=aH E.eV r (some (v,f))} w':=by
 obtain ⟨cv,cf,pv,hc,hcv,eE,-,-⟩:=h.cells ht rfl
 have sB:=hcv.2 v hv
 have hfr:=eE.2 f hf
 obtain ⟨x0,x1,x2,rfl⟩:=aD hcv.1
 obtain ⟨y0,y1,y2,rfl⟩:=aD eE.1
 have hn:=h.ok.n64
 have PM:aR L.n≤200:=by unfold M.aR M.tw;omega
 have p0:=h.zI hr
 have e0:=hc 15 _ (by decide) rfl
 have e1:=hc 16 _ (by decide) rfl
 have e2:=hc 17 _ (by decide) rfl
 have e3:=hc 18 _ (by decide) rfl
 have e4:=hc 19 _ (by decide) rfl
 have e5:=hc 20 _ (by decide) rfl
 have ox0:=aV.one R sB x0 (by simp)
 have ox1:=aV.one R sB x1 (by simp)
 have ox2:=aV.one R sB x2 (by simp)
 have oy0:=aV.one R hfr y0 (by simp)
 have oy1:=aV.one R hfr y1 (by simp)
 have oy2:=aV.one R hfr y2 (by simp)
 have th:w.there L.bP (r*2+1) 1:=by obtain ⟨sp,q2,-⟩:=h.po;exact q2.there hr (by decide)
 have HH:=aA h
 have HV:=aA (And.intro sB hfr)
 have TH:=aA th
 clear h hc hcv eE sB hfr th
 have UR:=cA (P:=Tryz.prog) ox0
 have US:=cA (P:=Tryz.prog) ox1
 have aCD:=cA (P:=Tryz.prog) ox2
 have aCB:=cA (P:=Tryz.prog) oy0
 have aCC:=cA (P:=Tryz.prog) oy1
 have aHp:=cA (P:=Tryz.prog) oy2
 go_enter Tryz.func232,Tryz.ntmps232
 go_wp2_with fail
 generalize nT:World.alloc _ _=W3
 have hrow:Row W3 w.heap.size 150 ([x0,x1,x2]++[y0,y1,y2]):=by rw [←nT];exact Row.new w ([x0,x1,x2]++[y0,y1,y2]) _
 have cH:Below w.heap.size w W3:=by
  rw [←nT]
  exact aB w _
 have UT:W3.there L.bP (r*2+1) 1:=aU cH TH.out
 obtain ⟨⟨u,hu⟩,hz⟩:=sA UT
 have q0:W3.cell? ⟨w.heap.size,0,none⟩=some x0:=hrow.cell_of rfl
 have HB:=aA cH
 have HW:=aA hrow
 have HU:=aA (And.intro hu hz)
 clear nT cH hrow hu hz UT
 refine (gL L.bP (r*2+1) w.heap.size u x0 W3 HU.out.1 HU.out.2 q0).mono ?_
 rintro e w4 ⟨rfl,rfl⟩
 go_wp2
 refine bodyPost_end (v:=.tuple #[]) (by simp [results,Tryz.results232,go_sem]) rfl ⟨rfl,(aF.below HH.out HB.out).next (aF.of ((HH.out.below HB.out).rJ r hr w.heap.size (some (v,f)) ?_) (Fr.set _ UO _) rfl)⟩
 have hst:∀ k,(S k∧¬L.own k)→k<w.heap.size→(grown S w W3 k∧¬L.own k)∧W3.heap[k]?=w.heap[k]?:=fun k hk hlt=>⟨⟨.inl hk.1,hk.2⟩,HB.out.block k hlt⟩
 have hI:∀ k,(S k∧¬L.own k)→k<w.heap.size:=fun k hk=>HH.out.lt k hk.1
 intro v' f' e
 injection e with e
 injection e with e1 e2
 subst e1
 subst e2
 exact ⟨w.heap.size,_,_,rfl,⟨.inr ⟨Nat.le_refl _,HW.out.lt⟩,fun q=>by have:=HH.out.lt _ (HH.out.ow _ q);omega⟩,HW.out,aV.stay hst hI HV.out.1,aV.stay hst hI HV.out.2⟩
theorem int.RE.parts {σ:Type} {R:SR σ} {L:Lt} {S:Nat→Prop} {E:aK σ} {w:World} {t:Nat} (h:RE R L S E w) (ht:t<L.n) {e:aS σ} (he:E.th t=e):w.cell? ⟨L.g,t*28,none⟩=some (.pointer (some ⟨L.bS,0,none⟩))∧w.cell? ⟨L.g,t*28+4,none⟩=some (.int .i64 (e.past:Int))∧w.cell? ⟨L.g,t*28+11,none⟩=some (.int .i64 (e.spare:Int)) ∧
  w.cell? ⟨L.g,t*28+13,none⟩=some (.int .i64 ((e.stamp:Int)*129+(e.aQ:Int)))∧w.cell? ⟨L.bS,0,none⟩=some (.int .i64 (L.n:Int))∧w.cell? ⟨L.bS,4,none⟩=some (.slice (some ⟨L.bP,0,none⟩) (2*L.n+1) (2*L.n+1)):=by
 obtain ⟨cv,cf,pv,hc,-,-,-,-⟩:=h.cells ht he
 exact ⟨hc 0 _ (by decide) rfl,hc 4 _ (by decide) rfl,hc 11 _ (by decide) rfl,hc 13 _ (by decide) rfl,h.sh.cell_of rfl,h.sh.cell_of rfl⟩
theorem list.RE.parts {σ:Type} {R:SR σ} {L:Lt} {S:Nat→Prop} {E:aK σ} {w:World} {t:Nat} (h:RE R L S E w) (ht:t<L.n) {e:aS σ} (he:E.th t=e):w.cell? ⟨L.g,t*28,none⟩=some (.pointer (some ⟨L.bS,0,none⟩))∧w.cell? ⟨L.g,t*28+4,none⟩=some (.int .i64 (e.past:Int))∧w.cell? ⟨L.g,t*28+11,none⟩=some (.int .i64 (e.spare:Int)) ∧
  w.cell? ⟨L.g,t*28+13,none⟩=some (.int .i64 ((e.stamp:Int)*129+(e.aQ:Int)))∧w.cell? ⟨L.bS,0,none⟩=some (.int .i64 (L.n:Int))∧w.cell? ⟨L.bS,4,none⟩=some (.slice (some ⟨L.bP,0,none⟩) (2*L.n+1) (2*L.n+1)):=by
 obtain ⟨cv,cf,pv,hc,-,-,-,-⟩:=h.cells ht he
 exact ⟨hc 0 _ (by decide) rfl,hc 4 _ (by decide) rfl,hc 11 _ (by decide) rfl,hc 13 _ (by decide) rfl,h.sh.cell_of rfl,h.sh.cell_of rfl⟩
theorem tree.RE.parts {σ:Type} {R:SR σ} {L:Lt} {S:Nat→Prop} {E:aK σ} {w:World} {t:Nat} (h:RE R L S E w) (ht:t<L.n) {e:aS σ} (he:E.th t=e):w.cell? ⟨L.g,t*28,none⟩=some (.pointer (some ⟨L.bS,0,none⟩))∧w.cell? ⟨L.g,t*28+4,none⟩=some (.int .i64 (e.past:Int))∧w.cell? ⟨L.g,t*28+11,none⟩=some (.int .i64 (e.spare:Int)) ∧
  w.cell? ⟨L.g,t*28+13,none⟩=some (.int .i64 ((e.stamp:Int)*129+(e.aQ:Int)))∧w.cell? ⟨L.bS,0,none⟩=some (.int .i64 (L.n:Int))∧w.cell? ⟨L.bS,4,none⟩=some (.slice (some ⟨L.bP,0,none⟩) (2*L.n+1) (2*L.n+1)):=by
 obtain ⟨cv,cf,pv,hc,-,-,-,-⟩:=h.cells ht he
 exact ⟨hc 0 _ (by decide) rfl,hc 4 _ (by decide) rfl,hc 11 _ (by decide) rfl,hc 13 _ (by decide) rfl,h.sh.cell_of rfl,h.sh.cell_of rfl⟩
theorem row.RE.parts {σ:Type} {R:SR σ} {L:Lt} {S:Nat→Prop} {E:aK σ} {w:World} {t:Nat} (h:RE R L S E w) (ht:t<L.n) {e:aS σ} (he:E.th t=e):w.cell? ⟨L.g,t*30,none⟩=some (.pointer (some ⟨L.bS,0,none⟩))∧w.cell? ⟨L.g,t*30+4,none⟩=some (.int .i64 (e.past:Int))∧w.cell? ⟨L.g,t*30+11,none⟩=some (.int .i64 (e.spare:Int)) ∧
  w.cell? ⟨L.g,t*30+13,none⟩=some (.int .i64 ((e.stamp:Int)*129+(e.aQ:Int)))∧w.cell? ⟨L.bS,0,none⟩=some (.int .i64 (L.n:Int))∧w.cell? ⟨L.bS,4,none⟩=some (.slice (some ⟨L.bP,0,none⟩) (2*L.n+1) (2*L.n+1)):=by
 obtain ⟨cv,cf,pv,hc,-,-,-,-⟩:=h.cells ht he
 exact ⟨hc 0 _ (by decide) rfl,hc 4 _ (by decide) rfl,hc 11 _ (by decide) rfl,hc 13 _ (by decide) rfl,h.sh.cell_of rfl,h.sh.cell_of rfl⟩
theorem int.CD (n:Nat):((n:Int)+15) / 16+2*(n:Int)+1=((aR n+1:Nat):Int):=by unfold M.aR M.tw;omega
def int.wrote {σ:Type} (E:aK σ) (t n:Nat):aK σ :=
 if (E.th t).past<aR n then {E with rw:=aH E.rw (E.th t).spare (aH (E.rw (E.th t).spare) (E.th t).past ((E.th t).dw (E.th t).past))} else {E with eV:=aH E.eV (E.th t).spare ((E.th t).now.bind fun v=>(E.th t).cC.map fun f=>(v,f))}
def list.wrote {σ:Type} (E:aK σ) (t n:Nat):aK σ :=
 if (E.th t).past<aR n then {E with rw:=aH E.rw (E.th t).spare (aH (E.rw (E.th t).spare) (E.th t).past ((E.th t).dw (E.th t).past))} else {E with eV:=aH E.eV (E.th t).spare ((E.th t).now.bind fun v=>(E.th t).cC.map fun f=>(v,f))}
def tree.wrote {σ:Type} (E:aK σ) (t n:Nat):aK σ :=
 if (E.th t).past<aR n then {E with rw:=aH E.rw (E.th t).spare (aH (E.rw (E.th t).spare) (E.th t).past ((E.th t).dw (E.th t).past))} else {E with eV:=aH E.eV (E.th t).spare ((E.th t).now.bind fun v=>(E.th t).cC.map fun f=>(v,f))}
def row.wrote {σ:Type} (E:aK σ) (t n:Nat):aK σ :=
 if (E.th t).past<aR n then {E with rw:=aH E.rw (E.th t).spare (aH (E.rw (E.th t).spare) (E.th t).past ((E.th t).dw (E.th t).past))} else {E with eV:=aH E.eV (E.th t).spare ((E.th t).now.bind fun v=>(E.th t).cC.map fun f=>(v,f))}
theorem int.dX {σ:Type} (E:aK σ) (t n:Nat):(wrote E t n).th=E.th:=by unfold wrote;split<;>rfl
theorem list.dX {σ:Type} (E:aK σ) (t n:Nat):(wrote E t n).th=E.th:=by unfold wrote;split<;>rfl
theorem tree.dX {σ:Type} (E:aK σ) (t n:Nat):(wrote E t n).th=E.th:=by unfold wrote;split<;>rfl
theorem row.dX {σ:Type} (E:aK σ) (t n:Nat):(wrote E t n).th=E.th:=by unfold wrote;split<;>rfl
def int.fN:Prop:=∀ {σ:Type} {R:SR σ} {L:Lt} {S:Nat→Prop} {E:aK σ} {w:World} {t:Nat} (_h:RE R L S E w) (_ht:t<L.n) (_hr:(E.th t).spare<2*L.n+1) (_hp:(E.th t).past≤aR L.n) (_hs:(E.th t).now.isSome∧(E.th t).cC.isSome),Calls Tryz.prog 144 #[.pointer (some ⟨L.bP,(E.th t).spare*2,none⟩),.int .i64 ((E.th t).past:Int),.pointer (some ⟨L.g,t*28+14,none⟩)] w fun e w'=>e = .returned (.tuple #[])∧aF R L S w (wrote E t L.n) w'
def list.fN:Prop:=∀ {σ:Type} {R:SR σ} {L:Lt} {S:Nat→Prop} {E:aK σ} {w:World} {t:Nat} (_h:RE R L S E w) (_ht:t<L.n) (_hr:(E.th t).spare<2*L.n+1) (_hp:(E.th t).past≤aR L.n) (_hs:(E.th t).now.isSome∧(E.th t).cC.isSome),Calls Tryz.prog 195 #[.pointer (some ⟨L.bP,(E.th t).spare*2,none⟩),.int .i64 ((E.th t).past:Int),.pointer (some ⟨L.g,t*28+14,none⟩)] w fun e w'=>e = .returned (.tuple #[])∧aF R L S w (wrote E t L.n) w'
def tree.fN:Prop:=∀ {σ:Type} {R:SR σ} {L:Lt} {S:Nat→Prop} {E:aK σ} {w:World} {t:Nat} (_h:RE R L S E w) (_ht:t<L.n) (_hr:(E.th t).spare<2*L.n+1) (_hp:(E.th t).past≤aR L.n) (_hs:(E.th t).now.isSome∧(E.th t).cC.isSome),Calls Tryz.prog 269 #[.pointer (some ⟨L.bP,(E.th t).spare*2,none⟩),.int .i64 ((E.th t).past:Int),.pointer (some ⟨L.g,t*28+14,none⟩)] w fun e w'=>e = .returned (.tuple #[])∧aF R L S w (wrote E t L.n) w'
def row.fN:Prop:=∀ {σ:Type} {R:SR σ} {L:Lt} {S:Nat→Prop} {E:aK σ} {w:World} {t:Nat} (_h:RE R L S E w) (_ht:t<L.n) (_hr:(E.th t).spare<2*L.n+1) (_hp:(E.th t).past≤aR L.n) (_hs:(E.th t).now.isSome∧(E.th t).cC.isSome),Calls Tryz.prog 232 #[.pointer (some ⟨L.bP,(E.th t).spare*2,none⟩),.int .i64 ((E.th t).past:Int),.pointer (some ⟨L.g,t*30+14,none⟩)] w fun e w'=>e = .returned (.tuple #[])∧aF R L S w (wrote E t L.n) w'
open row in
theorem sC:int.fN∧list.fN∧tree.fN∧row.fN:=by
 refine ⟨@mkK _ 0 ?_,@mkK _ 1 ?_,@mkK _ 2 ?_,@mkK _ 3 ?_⟩<;>intro kk σ R L S E w t h ht hr hp hs
 all_goals
  first|(have _:Kn 0:=kk;unfold int.wrote)|(have _:Kn 1:=kk;unfold list.wrote)|(have _:Kn 2:=kk;unfold tree.wrote)|(have _:Kn 3:=kk;unfold row.wrote)
  by_cases q:(E.th t).past<aR L.n
  ·rw [if_pos q]
   refine (nS h ht hr q).mono ?_
   rintro e w1 ⟨rfl,r1,k1⟩
   exact ⟨rfl,aF.of r1 k1 rfl⟩
  ·rw [if_neg q]
   obtain ⟨v,hv⟩:=Option.isSome_iff_exists.1 hs.1
   obtain ⟨f,hf⟩:=Option.isSome_iff_exists.1 hs.2
   have hq:(E.th t).past=aR L.n:=by omega
   have:=mH h ht hr hv hf
   rw [hq,hv,hf]
   exact this
theorem int.tI:fN:=sC.1
theorem list.tI:fN:=sC.2.1
theorem tree.tI:fN:=sC.2.2.1
theorem row.tI:fN:=sC.2.2.2
def int.fB:Prop:=∀ {σ:Type} {R:SR σ} {L:Lt} {S:Nat→Prop} {E:aK σ} {w:World} {t:Nat} (_h:RE R L S E w) (_ht:t<L.n) (_hr:(E.th t).spare<2*L.n+1) (_hp:(E.th t).past≤aR L.n) (_hs:(E.th t).now.isSome∧(E.th t).cC.isSome),Calls Tryz.prog 122 #[.pointer (some ⟨L.g,t*28,none⟩)] w fun e w'=>e = .returned (.tuple #[])∧aF R L S w {wrote E t L.n with th:=aH E.th t ((E.th t).pass (aR L.n+1) 10)} w'
def list.fB:Prop:=∀ {σ:Type} {R:SR σ} {L:Lt} {S:Nat→Prop} {E:aK σ} {w:World} {t:Nat} (_h:RE R L S E w) (_ht:t<L.n) (_hr:(E.th t).spare<2*L.n+1) (_hp:(E.th t).past≤aR L.n) (_hs:(E.th t).now.isSome∧(E.th t).cC.isSome),Calls Tryz.prog 182 #[.pointer (some ⟨L.g,t*28,none⟩)] w fun e w'=>e = .returned (.tuple #[])∧aF R L S w {wrote E t L.n with th:=aH E.th t ((E.th t).pass (aR L.n+1) 10)} w'
def tree.fB:Prop:=∀ {σ:Type} {R:SR σ} {L:Lt} {S:Nat→Prop} {E:aK σ} {w:World} {t:Nat} (_h:RE R L S E w) (_ht:t<L.n) (_hr:(E.th t).spare<2*L.n+1) (_hp:(E.th t).past≤aR L.n) (_hs:(E.th t).now.isSome∧(E.th t).cC.isSome),Calls Tryz.prog 256 #[.pointer (some ⟨L.g,t*28,none⟩)] w fun e w'=>e = .returned (.tuple #[])∧aF R L S w {wrote E t L.n with th:=aH E.th t ((E.th t).pass (aR L.n+1) 10)} w'
theorem qP:int.fB∧list.fB∧tree.fB:=by
 refine ⟨@mkK _ 0 ?_,@mkK _ 1 ?_,@mkK _ 2 ?_⟩<;>intro kk σ R L S E w t h ht hr hp hs
 all_goals
  obtain ⟨c0,c4,vA,-,s0,s4⟩:=h.parts ht rfl
  have hn:=h.ok.n64
  have yS:=h.ok.n1
  have PM:aR L.n≤200:=by unfold M.aR M.tw;omega
  have hr':((E.th t).spare:Int)<2*(L.n:Int)+1:=by omega
  have HH:=aA h
  have HP:=aA (fun (W:World) (hW:RE R L S E W)=>tI hW ht hr hp hs)
  clear h hs
  first|(have _:Kn 0:=kk;go_enter Tryz.func122,Tryz.ntmps122)|(have _:Kn 1:=kk;go_enter Tryz.func182,Tryz.ntmps182)|(have _:Kn 2:=kk;go_enter Tryz.func256,Tryz.ntmps256)
  go_wp2
  refine fQ (S:=(fun w'=>w'.cell? ⟨L.g,t*28,none⟩=some (.pointer (some ⟨L.bS,0,none⟩))∧w'.cell? ⟨L.g,t*28+4,none⟩=some (.int .i64 ((E.th t).past:Int))∧w'.cell? ⟨L.g,t*28+11,none⟩=some (.int .i64 ((E.th t).spare:Int))∧w'.cell? ⟨L.bS,4,none⟩=some (.slice (some ⟨L.bP,0,none⟩) (2*L.n+1) (2*L.n+1)))) 20 rfl (by kernel_rfl) ?_ (fun hHeld=>?_)
  ·exact ⟨c0,c4,vA,s4⟩
  iterate 19 (refine tk 19 (by rfl) (by kernel_rfl) (by exact fun _ _ _ h=>h) (.inl ⟨by rfl,fun w hS=>by (try dsimp only at hS);go_simp;(try with_reducible rfl)⟩) (by assumption) ?_;try go_frame)
  refine bK 19 (by rfl) (by kernel_rfl) (fun K hK=>?_)
  go_simp
  refine (HP.out w.drew HH.out.drew).mono ?_
  rintro e w3 ⟨rfl,L3⟩
  go_wp2_with fail
  refine hK.out _ _ ?_ (fun hHeld=>?_)
  ·first|(have _:Kn 0:=kk;obtain ⟨z0,z4,QV,-,-,YK⟩:=L3.re.parts ht (congrFun (int.dX E t L.n) t);exact ⟨z0,z4,QV,YK⟩)|(have _:Kn 1:=kk;obtain ⟨z0,z4,QV,-,-,YK⟩:=L3.re.parts ht (congrFun (list.dX E t L.n) t);exact ⟨z0,z4,QV,YK⟩)|(have _:Kn 2:=kk;obtain ⟨z0,z4,QV,-,-,YK⟩:=L3.re.parts ht (congrFun (tree.dX E t L.n) t);exact ⟨z0,z4,QV,YK⟩)
  clear hK K
  (try go_frame)
  refine wpAnyH_done (by kernel_rfl) ?_ _
  first|(have _:Kn 0:=kk;obtain ⟨z0,z4,QV,-,zs0,-⟩:=L3.re.parts ht (congrFun (int.dX E t L.n) t))|(have _:Kn 1:=kk;obtain ⟨z0,z4,QV,-,zs0,-⟩:=L3.re.parts ht (congrFun (list.dX E t L.n) t))|(have _:Kn 2:=kk;obtain ⟨z0,z4,QV,-,zs0,-⟩:=L3.re.parts ht (congrFun (tree.dX E t L.n) t))
  first|(have _:Kn 0:=kk;have HL:=aA (show int.aF R L S w (int.wrote E t L.n) w3 from ⟨L3.re,⟨L3.fr.os,L3.fr.tape,L3.fr.output,L3.fr.size,L3.fr.block⟩⟩))|(have _:Kn 1:=kk;have HL:=aA (show list.aF R L S w (list.wrote E t L.n) w3 from ⟨L3.re,⟨L3.fr.os,L3.fr.tape,L3.fr.output,L3.fr.size,L3.fr.block⟩⟩))|(have _:Kn 2:=kk;have HL:=aA (show tree.aF R L S w (tree.wrote E t L.n) w3 from ⟨L3.re,⟨L3.fr.os,L3.fr.tape,L3.fr.output,L3.fr.size,L3.fr.block⟩⟩))
  clear hHeld c0 c4 vA s0 s4 z4 QV
  go_wp2_with fail
  refine (xM (L.n:Int) _ (by omega) (by omega)).mono ?_
  rintro e w4 ⟨rfl,cR⟩
  rw [CD]
  have PN:=aA (HL.out.next (aF.below HL.out.re cR))
  go_wp2_with fail
  first|(have _:Kn 0:=kk;refine (int.jZ PN.out.re ht (aR L.n+1) 10 (by omega) (by rw [int.dX];omega)).mono ?_)|(have _:Kn 1:=kk;refine (list.jZ PN.out.re ht (aR L.n+1) 10 (by omega) (by rw [list.dX];omega)).mono ?_)|(have _:Kn 2:=kk;refine (tree.jZ PN.out.re ht (aR L.n+1) 10 (by omega) (by rw [tree.dX];omega)).mono ?_)
  rintro e w5 ⟨rfl,r5,k5⟩
  have HR:=aA (And.intro r5 k5)
  clear r5 k5
  go_wp2
  refine bodyPost_end (v:=.tuple #[]) (by simp [results,Tryz.results122,Tryz.results182,Tryz.results256,go_sem]) rfl ⟨rfl,PN.out.next (aF.of (HR.out.1.cast ?_) HR.out.2 rfl)⟩
  first|(have _:Kn 0:=kk;rw [int.dX])|(have _:Kn 1:=kk;rw [list.dX])|(have _:Kn 2:=kk;rw [tree.dX])
theorem int.mP:fB:=qP.1
theorem list.mP:fB:=qP.2.1
theorem tree.mP:fB:=qP.2.2
theorem row.mP {σ:Type} {R:SR σ} {L:Lt} {S:Nat→Prop} {E:aK σ} {w:World} {t:Nat} (h:RE R L S E w) (ht:t<L.n) (hr:(E.th t).spare<2*L.n+1) (hp:(E.th t).past≤aR L.n) (hs:(E.th t).now.isSome∧(E.th t).cC.isSome) :
  Calls Tryz.prog 219 #[.pointer (some ⟨L.g,t*30,none⟩)] w fun e w'=>e = .returned (.tuple #[])∧aF R L S w {wrote E t L.n with th:=aH E.th t ((E.th t).pass (aR L.n+1) 10)} w':=by
 obtain ⟨c0,c4,vA,-,s0,s4⟩:=h.parts ht rfl
 have hn:=h.ok.n64
 have yS:=h.ok.n1
 have PM:aR L.n≤200:=by unfold M.aR M.tw;omega
 have hr':((E.th t).spare:Int)<2*(L.n:Int)+1:=by omega
 have HH:=aA h
 have HP:=aA (fun (W:World) (hW:RE R L S E W)=>tI hW ht hr hp hs)
 clear h hs
 go_enter Tryz.func219,Tryz.ntmps219
 go_wp2
 refine fQ (S:=(fun w'=>w'.cell? ⟨L.g,t*30,none⟩=some (.pointer (some ⟨L.bS,0,none⟩))∧w'.cell? ⟨L.g,t*30+4,none⟩=some (.int .i64 ((E.th t).past:Int))∧w'.cell? ⟨L.g,t*30+11,none⟩=some (.int .i64 ((E.th t).spare:Int))∧w'.cell? ⟨L.bS,4,none⟩=some (.slice (some ⟨L.bP,0,none⟩) (2*L.n+1) (2*L.n+1)))) 20 rfl (by kernel_rfl) ?_ (fun hHeld=>?_)
 ·exact ⟨c0,c4,vA,s4⟩
 iterate 19 (refine tk 19 (by rfl) (by kernel_rfl) (by exact fun _ _ _ h=>h) (.inl ⟨by rfl,fun w hS=>by (try dsimp only at hS);go_simp;(try with_reducible rfl)⟩) (by assumption) ?_;try go_frame)
 refine bK 19 (by rfl) (by kernel_rfl) (fun K hK=>?_)
 go_simp
 refine (HP.out w.drew HH.out.drew).mono ?_
 rintro e w3 ⟨rfl,L3⟩
 go_wp2_with fail
 refine hK.out _ _ ?_ (fun hHeld=>?_)
 ·obtain ⟨z0,z4,QV,-,-,YK⟩:=L3.re.parts ht (congrFun (dX E t L.n) t);exact ⟨z0,z4,QV,YK⟩
 clear hK K
 (try go_frame)
 refine wpAnyH_done (by kernel_rfl) ?_ _
 obtain ⟨z0,z4,QV,-,zs0,-⟩:=L3.re.parts ht (congrFun (dX E t L.n) t)
 have HL:=aA (show aF R L S w (wrote E t L.n) w3 from ⟨L3.re,⟨L3.fr.os,L3.fr.tape,L3.fr.output,L3.fr.size,L3.fr.block⟩⟩)
 clear hHeld c0 c4 vA s0 s4 z4 QV
 go_wp2_with fail
 refine (xM (L.n:Int) _ (by omega) (by omega)).mono ?_
 rintro e w4 ⟨rfl,cR⟩
 rw [CD]
 have PN:=aA (HL.out.next (aF.below HL.out.re cR))
 go_wp2_with fail
 refine (jZ PN.out.re ht (aR L.n+1) 10 (by omega) (by rw [dX];omega)).mono ?_
 rintro e w5 ⟨rfl,r5,k5⟩
 have HR:=aA (And.intro r5 k5)
 clear r5 k5
 go_wp2
 refine bodyPost_end (v:=.tuple #[]) (by simp [results,Tryz.results219,go_sem]) rfl ⟨rfl,PN.out.next (aF.of (HR.out.1.cast ?_) HR.out.2 rfl)⟩
 rw [dX]
end Go.Proofs.YtefjhnhdagolhabGreat
