import Derived.Test.YtefjhnhdagolhaaGreatQ23
import Derived.Test.YtefjhnhdagolhaaGreatQ03
set_option maxHeartbeats 8000000
set_option maxRecDepth 20000
namespace Go.Proofs.YtefjhnhdagolhaaGreat
open int list tree
open Go.RowKit
open M (aI aC aD Op cY aS aK aQ aL aN)
attribute [local go_sem ↓] Go.wp_at_zero Go.wp_at_succ
theorem int.cA {P:Program} {v:Value} (hv:v.oneCell'=true) (W:World) (a:Addr) (u:Value) (hc:W.cell? a=some u) (hf:W.frozen? a=false):(store a v).run P W = .ok () (W.setCell a v):=by
 rw [run_store P W a v _ hv]
 simp [hc,hf]
def int.cX:Prop:=∀ {σ:Type} {R:SR σ} {L:Lt} {S:Nat→Prop} {E:aK σ} {w:World} {t:Nat} (_h:RE R L S E w) (_ht:t<L.n) {r p:Nat} (_hr:r<2*L.n+1) (_hp:p<aQ L.n),Calls Tryz.prog 232 #[.pointer (some ⟨L.bP,r*2,none⟩),.int .i64 (p:Int),.pointer (some ⟨L.g,t*28+14,none⟩)] w fun e w'=>e = .returned (.tuple #[])∧RE R L S {E with rw:=aI E.rw r (aI (E.rw r) p ((E.th t).dw p))} w'∧Fr L.own w w'
def list.cX:Prop:=∀ {σ:Type} {R:SR σ} {L:Lt} {S:Nat→Prop} {E:aK σ} {w:World} {t:Nat} (_h:RE R L S E w) (_ht:t<L.n) {r p:Nat} (_hr:r<2*L.n+1) (_hp:p<aQ L.n),Calls Tryz.prog 283 #[.pointer (some ⟨L.bP,r*2,none⟩),.int .i64 (p:Int),.pointer (some ⟨L.g,t*28+14,none⟩)] w fun e w'=>e = .returned (.tuple #[])∧RE R L S {E with rw:=aI E.rw r (aI (E.rw r) p ((E.th t).dw p))} w'∧Fr L.own w w'
def tree.cX:Prop:=∀ {σ:Type} {R:SR σ} {L:Lt} {S:Nat→Prop} {E:aK σ} {w:World} {t:Nat} (_h:RE R L S E w) (_ht:t<L.n) {r p:Nat} (_hr:r<2*L.n+1) (_hp:p<aQ L.n),Calls Tryz.prog 357 #[.pointer (some ⟨L.bP,r*2,none⟩),.int .i64 (p:Int),.pointer (some ⟨L.g,t*28+14,none⟩)] w fun e w'=>e = .returned (.tuple #[])∧RE R L S {E with rw:=aI E.rw r (aI (E.rw r) p ((E.th t).dw p))} w'∧Fr L.own w w'
def row.cX:Prop:=∀ {σ:Type} {R:SR σ} {L:Lt} {S:Nat→Prop} {E:aK σ} {w:World} {t:Nat} (_h:RE R L S E w) (_ht:t<L.n) {r p:Nat} (_hr:r<2*L.n+1) (_hp:p<aQ L.n),Calls Tryz.prog 320 #[.pointer (some ⟨L.bP,r*2,none⟩),.int .i64 (p:Int),.pointer (some ⟨L.g,t*30+14,none⟩)] w fun e w'=>e = .returned (.tuple #[])∧RE R L S {E with rw:=aI E.rw r (aI (E.rw r) p ((E.th t).dw p))} w'∧Fr L.own w w'
open row in
theorem lQ:int.cX∧list.cX∧tree.cX∧row.cX:=by
 refine ⟨@mkK _ 0 ?_,@mkK _ 1 ?_,@mkK _ 2 ?_,@mkK _ 3 ?_⟩<;>intro kk σ R L S E w t h ht r p hr hp
 all_goals
  obtain ⟨cv,cf,pv,hc,-,-,-,-⟩:=h.cells ht rfl
  have hn:=h.ok.n64
  have KW:aQ L.n≤200:=by unfold M.aQ M.tw;omega
  have ZS:=hc 14 _ (by decide) rfl
  have p0:=h.zR hr
  have d0:w.cell? ⟨L.gD t,p,none⟩=some (.int .i64 ((E.th t).dw p)):=(h.gd t ht).cell hp
  have th:w.there (L.bW r) p 1:=(h.rw r hr).there hp
  have nPW:L.bP≠L.bW r:=by obtain ⟨sp,q2,-⟩:=h.po;exact Row.apart q2 (h.rw r hr) (by decide)
  have ngW:L.g≠L.bW r:=by obtain ⟨T,q,-⟩:=h.th;exact Row.apart q (h.rw r hr) (by decide)
  have nDW:L.gD t≠L.bW r:=Row.apart (h.gd t ht) (h.rw r hr) (by decide)
  have hp':(p:Int)<(aQ L.n:Int):=by omega
  have H1:=aA (h.xC r hr p ((E.th t).dw p))
  clear h hc
  first|(have _:Kn 0:=kk;go_enter Tryz.func232,Tryz.ntmps232)|(have _:Kn 1:=kk;go_enter Tryz.func283,Tryz.ntmps283)|(have _:Kn 2:=kk;go_enter Tryz.func357,Tryz.ntmps357)|(have _:Kn 3:=kk;go_enter Tryz.func320,Tryz.ntmps320)
  go_wp2
  first|(have _:Kn 0:=kk;refine fR (S:=(fun w'=>w'.cell? ⟨L.g,t*28+14,none⟩=some (.slice (some ⟨L.gD t,0,none⟩) (aQ L.n) (aQ L.n))∧w'.cell? ⟨L.bP,r*2,none⟩=some (.slice (some ⟨L.bW r,0,none⟩) (aQ L.n) (aQ L.n))∧w'.cell? ⟨L.gD t,p,none⟩=some (.int .i64 ((E.th t).dw p))∧w'.there (L.bW r) (p) 1)) 14 rfl (by kernel_rfl) ?_ (fun hHeld=>?_))|(have _:Kn 1:=kk;refine fR (S:=(fun w'=>w'.cell? ⟨L.g,t*28+14,none⟩=some (.slice (some ⟨L.gD t,0,none⟩) (aQ L.n) (aQ L.n))∧w'.cell? ⟨L.bP,r*2,none⟩=some (.slice (some ⟨L.bW r,0,none⟩) (aQ L.n) (aQ L.n))∧w'.cell? ⟨L.gD t,p,none⟩=some (.int .i64 ((E.th t).dw p))∧w'.there (L.bW r) (p) 1)) 14 rfl (by kernel_rfl) ?_ (fun hHeld=>?_))|(have _:Kn 2:=kk;refine fR (S:=(fun w'=>w'.cell? ⟨L.g,t*28+14,none⟩=some (.slice (some ⟨L.gD t,0,none⟩) (aQ L.n) (aQ L.n))∧w'.cell? ⟨L.bP,r*2,none⟩=some (.slice (some ⟨L.bW r,0,none⟩) (aQ L.n) (aQ L.n))∧w'.cell? ⟨L.gD t,p,none⟩=some (.int .i64 ((E.th t).dw p))∧w'.there (L.bW r) (p) 1)) 14 rfl (by kernel_rfl) ?_ (fun hHeld=>?_))|(have _:Kn 3:=kk;refine fR (S:=(fun w'=>w'.cell? ⟨L.g,t*30+14,none⟩=some (.slice (some ⟨L.gD t,0,none⟩) (aQ L.n) (aQ L.n))∧w'.cell? ⟨L.bP,r*2,none⟩=some (.slice (some ⟨L.bW r,0,none⟩) (aQ L.n) (aQ L.n))∧w'.cell? ⟨L.gD t,p,none⟩=some (.int .i64 ((E.th t).dw p))∧w'.there (L.bW r) (p) 1)) 14 rfl (by kernel_rfl) ?_ (fun hHeld=>?_))
  ·exact ⟨ZS,p0,d0,th⟩
  iterate 13 (refine tk 13 (by rfl) (by kernel_rfl) (by exact fun _ _ _ h=>h) (.inl ⟨by rfl,fun w hS=>by (try dsimp only at hS);go_simp;(try with_reducible rfl)⟩) (by assumption) ?_;try go_frame)
  refine bQ 13 (by rfl) (by kernel_rfl) (fun K hK=>?_)
  go_simp
  obtain ⟨⟨u,hu⟩,hz⟩:=sN hHeld.2.2.2
  refine (FL (L.bW r) p u _ _ hu hz).mono ?_
  rintro e w3 ⟨rfl,rfl⟩
  go_wp2_with fail
  refine hK.out _ _ ?_ (fun hHeld=>?_)
  ·exact ⟨aH hHeld.1 (by first|exact .inr (by dsimp only;omega)|exact .inl (by assumption)|exact .inl (Ne.symm (by assumption))),aH hHeld.2.1 (by first|exact .inr (by dsimp only;omega)|exact .inl (by assumption)|exact .inl (Ne.symm (by assumption))),aH hHeld.2.2.1 (by first|exact .inr (by dsimp only;omega)|exact .inl (by assumption)|exact .inl (Ne.symm (by assumption))),cR hHeld.2.2.2 _ rfl _⟩
  clear hK K
  (try go_frame)
  refine wpAnyH_done (by kernel_rfl) ?_ _
  clear hHeld hu hz
  go_wp2
  exact bodyPost_ret (v:=.tuple #[]) (by simp [results,Tryz.results232,Tryz.results283,Tryz.results357,Tryz.results320,go_sem]) rfl ⟨rfl,H1.out.drew,(Fr.set w (aBv hr) _).drew⟩
theorem int.oF:cX:=lQ.1
theorem list.oF:cX:=lQ.2.1
theorem tree.oF:cX:=lQ.2.2.1
theorem row.oF:cX:=lQ.2.2.2
def int.eF:Prop:=∀ {σ:Type} {R:SR σ} {L:Lt} {S:Nat→Prop} {E:aK σ} {w:World} {t:Nat} (_h:RE R L S E w) (_ht:t<L.n) {r:Nat} (_hr:r<2*L.n+1) {v f:cY σ} (_hv:(E.th t).now=some v) (_hf:(E.th t).cD=some f),Calls Tryz.prog 232 #[.pointer (some ⟨L.bP,r*2,none⟩),.int .i64 (aQ L.n:Int),.pointer (some ⟨L.g,t*28+14,none⟩)] w fun e w'=>e = .returned (.tuple #[])∧aF R L S w {E with eX:=aI E.eX r (some (v,f))} w'
def list.eF:Prop:=∀ {σ:Type} {R:SR σ} {L:Lt} {S:Nat→Prop} {E:aK σ} {w:World} {t:Nat} (_h:RE R L S E w) (_ht:t<L.n) {r:Nat} (_hr:r<2*L.n+1) {v f:cY σ} (_hv:(E.th t).now=some v) (_hf:(E.th t).cD=some f),Calls Tryz.prog 283 #[.pointer (some ⟨L.bP,r*2,none⟩),.int .i64 (aQ L.n:Int),.pointer (some ⟨L.g,t*28+14,none⟩)] w fun e w'=>e = .returned (.tuple #[])∧aF R L S w {E with eX:=aI E.eX r (some (v,f))} w'
def tree.eF:Prop:=∀ {σ:Type} {R:SR σ} {L:Lt} {S:Nat→Prop} {E:aK σ} {w:World} {t:Nat} (_h:RE R L S E w) (_ht:t<L.n) {r:Nat} (_hr:r<2*L.n+1) {v f:cY σ} (_hv:(E.th t).now=some v) (_hf:(E.th t).cD=some f),Calls Tryz.prog 357 #[.pointer (some ⟨L.bP,r*2,none⟩),.int .i64 (aQ L.n:Int),.pointer (some ⟨L.g,t*28+14,none⟩)] w fun e w'=>e = .returned (.tuple #[])∧aF R L S w {E with eX:=aI E.eX r (some (v,f))} w'
theorem nS:int.eF∧list.eF∧tree.eF:=by
 refine ⟨@mkK _ 0 ?_,@mkK _ 1 ?_,@mkK _ 2 ?_⟩<;>intro kk σ R L S E w t h ht r hr v f hv hf
 all_goals
  obtain ⟨cv,cf,pv,hc,hcv,eD,-,-⟩:=h.cells ht rfl
  have sO:=hcv.2 v hv
  have hfr:=eD.2 f hf
  obtain ⟨x0,x1,rfl⟩:=aE hcv.1
  obtain ⟨y0,y1,rfl⟩:=aE eD.1
  have hn:=h.ok.n64
  have KW:aQ L.n≤200:=by unfold M.aQ M.tw;omega
  have p0:=h.zR hr
  have e0:=hc 15 _ (by decide) rfl
  have e1:=hc 16 _ (by decide) rfl
  have e2:=hc 17 _ (by decide) rfl
  have e3:=hc 18 _ (by decide) rfl
  have ox0:=aV.one R sO x0 (by simp)
  have ox1:=aV.one R sO x1 (by simp)
  have oy0:=aV.one R hfr y0 (by simp)
  have oy1:=aV.one R hfr y1 (by simp)
  have th:w.there L.bP (r*2+1) 1:=by obtain ⟨sp,q2,-⟩:=h.po;exact q2.there hr (by decide)
  have HH:=aA h
  have HV:=aA (And.intro sO hfr)
  have TH:=aA th
  clear h hc hcv eD sO hfr th
  have VX:=cA (P:=Tryz.prog) ox0
  have VY:=cA (P:=Tryz.prog) ox1
  have aDG:=cA (P:=Tryz.prog) oy0
  have aDH:=cA (P:=Tryz.prog) oy1
  first|(have _:Kn 0:=kk;go_enter Tryz.func232,Tryz.ntmps232)|(have _:Kn 1:=kk;go_enter Tryz.func283,Tryz.ntmps283)|(have _:Kn 2:=kk;go_enter Tryz.func357,Tryz.ntmps357)
  go_wp2_with fail
  generalize oG:World.alloc _ _=W3
  first|(have _:Kn 0:=kk;have hrow:Row W3 w.heap.size 227 ([x0,x1]++[y0,y1]):=by rw [←oG];exact Row.new w ([x0,x1]++[y0,y1]) _)|(have _:Kn 1:=kk;have hrow:Row W3 w.heap.size 241 ([x0,x1]++[y0,y1]):=by rw [←oG];exact Row.new w ([x0,x1]++[y0,y1]) _)|(have _:Kn 2:=kk;have hrow:Row W3 w.heap.size 269 ([x0,x1]++[y0,y1]):=by rw [←oG];exact Row.new w ([x0,x1]++[y0,y1]) _)
  have cE:Below w.heap.size w W3:=by
   rw [←oG]
   exact aB w _
  have VZ:W3.there L.bP (r*2+1) 1:=aT cE TH.out
  obtain ⟨⟨u,hu⟩,hz⟩:=sN VZ
  have q0:W3.cell? ⟨w.heap.size,0,none⟩=some x0:=hrow.cell_of rfl
  have HB:=aA cE
  have HW:=aA hrow
  have HU:=aA (And.intro hu hz)
  clear oG cE hrow hu hz VZ
  first|(have _:Kn 0:=kk;refine (int.gP L.bP (r*2+1) w.heap.size u x0 W3 HU.out.1 HU.out.2 q0).mono ?_)|(have _:Kn 1:=kk;refine (list.gP L.bP (r*2+1) w.heap.size u x0 W3 HU.out.1 HU.out.2 q0).mono ?_)|(have _:Kn 2:=kk;refine (tree.gP L.bP (r*2+1) w.heap.size u x0 W3 HU.out.1 HU.out.2 q0).mono ?_)
  rintro e w4 ⟨rfl,rfl⟩
  go_wp2
  refine bodyPost_end (v:=.tuple #[]) (by simp [results,Tryz.results232,Tryz.results283,Tryz.results357,go_sem]) rfl ⟨rfl,(aF.below HH.out HB.out).next (aF.of ((HH.out.below HB.out).rU r hr w.heap.size (some (v,f)) ?_) (Fr.set _ VW _) rfl)⟩
  have hst:∀ k,(S k∧¬L.own k)→k<w.heap.size→(grown S w W3 k∧¬L.own k)∧W3.heap[k]?=w.heap[k]?:=fun k hk hlt=>⟨⟨.inl hk.1,hk.2⟩,HB.out.block k hlt⟩
  have hI:∀ k,(S k∧¬L.own k)→k<w.heap.size:=fun k hk=>HH.out.lt k hk.1
  intro v' f' e
  injection e with e
  injection e with e1 e2
  subst e1
  subst e2
  exact ⟨w.heap.size,_,_,rfl,⟨.inr ⟨Nat.le_refl _,HW.out.lt⟩,fun q=>by have:=HH.out.lt _ (HH.out.ow _ q);omega⟩,HW.out,aV.stay hst hI HV.out.1,aV.stay hst hI HV.out.2⟩
theorem int.mL:eF:=nS.1
theorem list.mL:eF:=nS.2.1
theorem tree.mL:eF:=nS.2.2
theorem row.mL {σ:Type} {R:SR σ} {L:Lt} {S:Nat→Prop} {E:aK σ} {w:World} {t:Nat} (h:RE R L S E w) (ht:t<L.n) {r:Nat} (hr:r<2*L.n+1) {v f:cY σ} (hv:(E.th t).now=some v) (hf:(E.th t).cD=some f) :
  Calls Tryz.prog 320 #[.pointer (some ⟨L.bP,r*2,none⟩),.int .i64 (aQ L.n:Int),.pointer (some ⟨L.g,t*30+14,none⟩)] w fun e w'=>e = .returned (.tuple #[])∧aF R L S w {E with eX:=aI E.eX r (some (v,f))} w':=by
 obtain ⟨cv,cf,pv,hc,hcv,eD,-,-⟩:=h.cells ht rfl
 have sO:=hcv.2 v hv
 have hfr:=eD.2 f hf
 obtain ⟨x0,x1,x2,rfl⟩:=aE hcv.1
 obtain ⟨y0,y1,y2,rfl⟩:=aE eD.1
 have hn:=h.ok.n64
 have KW:aQ L.n≤200:=by unfold M.aQ M.tw;omega
 have p0:=h.zR hr
 have e0:=hc 15 _ (by decide) rfl
 have e1:=hc 16 _ (by decide) rfl
 have e2:=hc 17 _ (by decide) rfl
 have e3:=hc 18 _ (by decide) rfl
 have e4:=hc 19 _ (by decide) rfl
 have e5:=hc 20 _ (by decide) rfl
 have ox0:=aV.one R sO x0 (by simp)
 have ox1:=aV.one R sO x1 (by simp)
 have ox2:=aV.one R sO x2 (by simp)
 have oy0:=aV.one R hfr y0 (by simp)
 have oy1:=aV.one R hfr y1 (by simp)
 have oy2:=aV.one R hfr y2 (by simp)
 have th:w.there L.bP (r*2+1) 1:=by obtain ⟨sp,q2,-⟩:=h.po;exact q2.there hr (by decide)
 have HH:=aA h
 have HV:=aA (And.intro sO hfr)
 have TH:=aA th
 clear h hc hcv eD sO hfr th
 have VX:=cA (P:=Tryz.prog) ox0
 have VY:=cA (P:=Tryz.prog) ox1
 have aDI:=cA (P:=Tryz.prog) ox2
 have aDG:=cA (P:=Tryz.prog) oy0
 have aDH:=cA (P:=Tryz.prog) oy1
 have aI7:=cA (P:=Tryz.prog) oy2
 go_enter Tryz.func320,Tryz.ntmps320
 go_wp2_with fail
 generalize oG:World.alloc _ _=W3
 have hrow:Row W3 w.heap.size 255 ([x0,x1,x2]++[y0,y1,y2]):=by rw [←oG];exact Row.new w ([x0,x1,x2]++[y0,y1,y2]) _
 have cE:Below w.heap.size w W3:=by
  rw [←oG]
  exact aB w _
 have VZ:W3.there L.bP (r*2+1) 1:=aT cE TH.out
 obtain ⟨⟨u,hu⟩,hz⟩:=sN VZ
 have q0:W3.cell? ⟨w.heap.size,0,none⟩=some x0:=hrow.cell_of rfl
 have HB:=aA cE
 have HW:=aA hrow
 have HU:=aA (And.intro hu hz)
 clear oG cE hrow hu hz VZ
 refine (gP L.bP (r*2+1) w.heap.size u x0 W3 HU.out.1 HU.out.2 q0).mono ?_
 rintro e w4 ⟨rfl,rfl⟩
 go_wp2
 refine bodyPost_end (v:=.tuple #[]) (by simp [results,Tryz.results320,go_sem]) rfl ⟨rfl,(aF.below HH.out HB.out).next (aF.of ((HH.out.below HB.out).rU r hr w.heap.size (some (v,f)) ?_) (Fr.set _ VW _) rfl)⟩
 have hst:∀ k,(S k∧¬L.own k)→k<w.heap.size→(grown S w W3 k∧¬L.own k)∧W3.heap[k]?=w.heap[k]?:=fun k hk hlt=>⟨⟨.inl hk.1,hk.2⟩,HB.out.block k hlt⟩
 have hI:∀ k,(S k∧¬L.own k)→k<w.heap.size:=fun k hk=>HH.out.lt k hk.1
 intro v' f' e
 injection e with e
 injection e with e1 e2
 subst e1
 subst e2
 exact ⟨w.heap.size,_,_,rfl,⟨.inr ⟨Nat.le_refl _,HW.out.lt⟩,fun q=>by have:=HH.out.lt _ (HH.out.ow _ q);omega⟩,HW.out,aV.stay hst hI HV.out.1,aV.stay hst hI HV.out.2⟩
theorem int.RE.parts {σ:Type} {R:SR σ} {L:Lt} {S:Nat→Prop} {E:aK σ} {w:World} {t:Nat} (h:RE R L S E w) (ht:t<L.n) {e:aS σ} (he:E.th t=e):w.cell? ⟨L.g,t*28,none⟩=some (.pointer (some ⟨L.bS,0,none⟩))∧w.cell? ⟨L.g,t*28+4,none⟩=some (.int .i64 (e.past:Int))∧w.cell? ⟨L.g,t*28+11,none⟩=some (.int .i64 (e.spare:Int)) ∧
  w.cell? ⟨L.g,t*28+13,none⟩=some (.int .i64 ((e.stamp:Int)*129+(e.aR:Int)))∧w.cell? ⟨L.bS,0,none⟩=some (.int .i64 (L.n:Int))∧w.cell? ⟨L.bS,4,none⟩=some (.slice (some ⟨L.bP,0,none⟩) (2*L.n+1) (2*L.n+1)):=by
 obtain ⟨cv,cf,pv,hc,-,-,-,-⟩:=h.cells ht he
 exact ⟨hc 0 _ (by decide) rfl,hc 4 _ (by decide) rfl,hc 11 _ (by decide) rfl,hc 13 _ (by decide) rfl,h.sh.cell_of rfl,h.sh.cell_of rfl⟩
theorem list.RE.parts {σ:Type} {R:SR σ} {L:Lt} {S:Nat→Prop} {E:aK σ} {w:World} {t:Nat} (h:RE R L S E w) (ht:t<L.n) {e:aS σ} (he:E.th t=e):w.cell? ⟨L.g,t*28,none⟩=some (.pointer (some ⟨L.bS,0,none⟩))∧w.cell? ⟨L.g,t*28+4,none⟩=some (.int .i64 (e.past:Int))∧w.cell? ⟨L.g,t*28+11,none⟩=some (.int .i64 (e.spare:Int)) ∧
  w.cell? ⟨L.g,t*28+13,none⟩=some (.int .i64 ((e.stamp:Int)*129+(e.aR:Int)))∧w.cell? ⟨L.bS,0,none⟩=some (.int .i64 (L.n:Int))∧w.cell? ⟨L.bS,4,none⟩=some (.slice (some ⟨L.bP,0,none⟩) (2*L.n+1) (2*L.n+1)):=by
 obtain ⟨cv,cf,pv,hc,-,-,-,-⟩:=h.cells ht he
 exact ⟨hc 0 _ (by decide) rfl,hc 4 _ (by decide) rfl,hc 11 _ (by decide) rfl,hc 13 _ (by decide) rfl,h.sh.cell_of rfl,h.sh.cell_of rfl⟩
theorem tree.RE.parts {σ:Type} {R:SR σ} {L:Lt} {S:Nat→Prop} {E:aK σ} {w:World} {t:Nat} (h:RE R L S E w) (ht:t<L.n) {e:aS σ} (he:E.th t=e):w.cell? ⟨L.g,t*28,none⟩=some (.pointer (some ⟨L.bS,0,none⟩))∧w.cell? ⟨L.g,t*28+4,none⟩=some (.int .i64 (e.past:Int))∧w.cell? ⟨L.g,t*28+11,none⟩=some (.int .i64 (e.spare:Int)) ∧
  w.cell? ⟨L.g,t*28+13,none⟩=some (.int .i64 ((e.stamp:Int)*129+(e.aR:Int)))∧w.cell? ⟨L.bS,0,none⟩=some (.int .i64 (L.n:Int))∧w.cell? ⟨L.bS,4,none⟩=some (.slice (some ⟨L.bP,0,none⟩) (2*L.n+1) (2*L.n+1)):=by
 obtain ⟨cv,cf,pv,hc,-,-,-,-⟩:=h.cells ht he
 exact ⟨hc 0 _ (by decide) rfl,hc 4 _ (by decide) rfl,hc 11 _ (by decide) rfl,hc 13 _ (by decide) rfl,h.sh.cell_of rfl,h.sh.cell_of rfl⟩
theorem row.RE.parts {σ:Type} {R:SR σ} {L:Lt} {S:Nat→Prop} {E:aK σ} {w:World} {t:Nat} (h:RE R L S E w) (ht:t<L.n) {e:aS σ} (he:E.th t=e):w.cell? ⟨L.g,t*30,none⟩=some (.pointer (some ⟨L.bS,0,none⟩))∧w.cell? ⟨L.g,t*30+4,none⟩=some (.int .i64 (e.past:Int))∧w.cell? ⟨L.g,t*30+11,none⟩=some (.int .i64 (e.spare:Int)) ∧
  w.cell? ⟨L.g,t*30+13,none⟩=some (.int .i64 ((e.stamp:Int)*129+(e.aR:Int)))∧w.cell? ⟨L.bS,0,none⟩=some (.int .i64 (L.n:Int))∧w.cell? ⟨L.bS,4,none⟩=some (.slice (some ⟨L.bP,0,none⟩) (2*L.n+1) (2*L.n+1)):=by
 obtain ⟨cv,cf,pv,hc,-,-,-,-⟩:=h.cells ht he
 exact ⟨hc 0 _ (by decide) rfl,hc 4 _ (by decide) rfl,hc 11 _ (by decide) rfl,hc 13 _ (by decide) rfl,h.sh.cell_of rfl,h.sh.cell_of rfl⟩
theorem int.CP (n:Nat):((n:Int)+15) / 16+2*(n:Int)+1=((aQ n+1:Nat):Int):=by unfold M.aQ M.tw;omega
def int.wrote {σ:Type} (E:aK σ) (t n:Nat):aK σ :=
 if (E.th t).past<aQ n then {E with rw:=aI E.rw (E.th t).spare (aI (E.rw (E.th t).spare) (E.th t).past ((E.th t).dw (E.th t).past))} else {E with eX:=aI E.eX (E.th t).spare ((E.th t).now.bind fun v=>(E.th t).cD.map fun f=>(v,f))}
def list.wrote {σ:Type} (E:aK σ) (t n:Nat):aK σ :=
 if (E.th t).past<aQ n then {E with rw:=aI E.rw (E.th t).spare (aI (E.rw (E.th t).spare) (E.th t).past ((E.th t).dw (E.th t).past))} else {E with eX:=aI E.eX (E.th t).spare ((E.th t).now.bind fun v=>(E.th t).cD.map fun f=>(v,f))}
def tree.wrote {σ:Type} (E:aK σ) (t n:Nat):aK σ :=
 if (E.th t).past<aQ n then {E with rw:=aI E.rw (E.th t).spare (aI (E.rw (E.th t).spare) (E.th t).past ((E.th t).dw (E.th t).past))} else {E with eX:=aI E.eX (E.th t).spare ((E.th t).now.bind fun v=>(E.th t).cD.map fun f=>(v,f))}
def row.wrote {σ:Type} (E:aK σ) (t n:Nat):aK σ :=
 if (E.th t).past<aQ n then {E with rw:=aI E.rw (E.th t).spare (aI (E.rw (E.th t).spare) (E.th t).past ((E.th t).dw (E.th t).past))} else {E with eX:=aI E.eX (E.th t).spare ((E.th t).now.bind fun v=>(E.th t).cD.map fun f=>(v,f))}
theorem int.dU {σ:Type} (E:aK σ) (t n:Nat):(wrote E t n).th=E.th:=by unfold wrote;split<;>rfl
theorem list.dU {σ:Type} (E:aK σ) (t n:Nat):(wrote E t n).th=E.th:=by unfold wrote;split<;>rfl
theorem tree.dU {σ:Type} (E:aK σ) (t n:Nat):(wrote E t n).th=E.th:=by unfold wrote;split<;>rfl
theorem row.dU {σ:Type} (E:aK σ) (t n:Nat):(wrote E t n).th=E.th:=by unfold wrote;split<;>rfl
def int.fO:Prop:=∀ {σ:Type} {R:SR σ} {L:Lt} {S:Nat→Prop} {E:aK σ} {w:World} {t:Nat} (_h:RE R L S E w) (_ht:t<L.n) (_hr:(E.th t).spare<2*L.n+1) (_hp:(E.th t).past≤aQ L.n) (_hs:(E.th t).now.isSome∧(E.th t).cD.isSome),Calls Tryz.prog 232 #[.pointer (some ⟨L.bP,(E.th t).spare*2,none⟩),.int .i64 ((E.th t).past:Int),.pointer (some ⟨L.g,t*28+14,none⟩)] w fun e w'=>e = .returned (.tuple #[])∧aF R L S w (wrote E t L.n) w'
def list.fO:Prop:=∀ {σ:Type} {R:SR σ} {L:Lt} {S:Nat→Prop} {E:aK σ} {w:World} {t:Nat} (_h:RE R L S E w) (_ht:t<L.n) (_hr:(E.th t).spare<2*L.n+1) (_hp:(E.th t).past≤aQ L.n) (_hs:(E.th t).now.isSome∧(E.th t).cD.isSome),Calls Tryz.prog 283 #[.pointer (some ⟨L.bP,(E.th t).spare*2,none⟩),.int .i64 ((E.th t).past:Int),.pointer (some ⟨L.g,t*28+14,none⟩)] w fun e w'=>e = .returned (.tuple #[])∧aF R L S w (wrote E t L.n) w'
def tree.fO:Prop:=∀ {σ:Type} {R:SR σ} {L:Lt} {S:Nat→Prop} {E:aK σ} {w:World} {t:Nat} (_h:RE R L S E w) (_ht:t<L.n) (_hr:(E.th t).spare<2*L.n+1) (_hp:(E.th t).past≤aQ L.n) (_hs:(E.th t).now.isSome∧(E.th t).cD.isSome),Calls Tryz.prog 357 #[.pointer (some ⟨L.bP,(E.th t).spare*2,none⟩),.int .i64 ((E.th t).past:Int),.pointer (some ⟨L.g,t*28+14,none⟩)] w fun e w'=>e = .returned (.tuple #[])∧aF R L S w (wrote E t L.n) w'
def row.fO:Prop:=∀ {σ:Type} {R:SR σ} {L:Lt} {S:Nat→Prop} {E:aK σ} {w:World} {t:Nat} (_h:RE R L S E w) (_ht:t<L.n) (_hr:(E.th t).spare<2*L.n+1) (_hp:(E.th t).past≤aQ L.n) (_hs:(E.th t).now.isSome∧(E.th t).cD.isSome),Calls Tryz.prog 320 #[.pointer (some ⟨L.bP,(E.th t).spare*2,none⟩),.int .i64 ((E.th t).past:Int),.pointer (some ⟨L.g,t*30+14,none⟩)] w fun e w'=>e = .returned (.tuple #[])∧aF R L S w (wrote E t L.n) w'
open row in
theorem sP:int.fO∧list.fO∧tree.fO∧row.fO:=by
 refine ⟨@mkK _ 0 ?_,@mkK _ 1 ?_,@mkK _ 2 ?_,@mkK _ 3 ?_⟩<;>intro kk σ R L S E w t h ht hr hp hs
 all_goals
  first|(have _:Kn 0:=kk;unfold int.wrote)|(have _:Kn 1:=kk;unfold list.wrote)|(have _:Kn 2:=kk;unfold tree.wrote)|(have _:Kn 3:=kk;unfold row.wrote)
  by_cases q:(E.th t).past<aQ L.n
  ·rw [if_pos q]
   refine (oF h ht hr q).mono ?_
   rintro e w1 ⟨rfl,r1,k1⟩
   exact ⟨rfl,aF.of r1 k1 rfl⟩
  ·rw [if_neg q]
   obtain ⟨v,hv⟩:=Option.isSome_iff_exists.1 hs.1
   obtain ⟨f,hf⟩:=Option.isSome_iff_exists.1 hs.2
   have hq:(E.th t).past=aQ L.n:=by omega
   have:=mL h ht hr hv hf
   rw [hq,hv,hf]
   exact this
theorem int.tZ:fO:=sP.1
theorem list.tZ:fO:=sP.2.1
theorem tree.tZ:fO:=sP.2.2.1
theorem row.tZ:fO:=sP.2.2.2
def int.fG:Prop:=∀ {σ:Type} {R:SR σ} {L:Lt} {S:Nat→Prop} {E:aK σ} {w:World} {t:Nat} (_h:RE R L S E w) (_ht:t<L.n) (_hr:(E.th t).spare<2*L.n+1) (_hp:(E.th t).past≤aQ L.n) (_hs:(E.th t).now.isSome∧(E.th t).cD.isSome),Calls Tryz.prog 212 #[.pointer (some ⟨L.g,t*28,none⟩)] w fun e w'=>e = .returned (.tuple #[])∧aF R L S w {wrote E t L.n with th:=aI E.th t ((E.th t).pass (aQ L.n+1) 10)} w'
def list.fG:Prop:=∀ {σ:Type} {R:SR σ} {L:Lt} {S:Nat→Prop} {E:aK σ} {w:World} {t:Nat} (_h:RE R L S E w) (_ht:t<L.n) (_hr:(E.th t).spare<2*L.n+1) (_hp:(E.th t).past≤aQ L.n) (_hs:(E.th t).now.isSome∧(E.th t).cD.isSome),Calls Tryz.prog 271 #[.pointer (some ⟨L.g,t*28,none⟩)] w fun e w'=>e = .returned (.tuple #[])∧aF R L S w {wrote E t L.n with th:=aI E.th t ((E.th t).pass (aQ L.n+1) 10)} w'
def tree.fG:Prop:=∀ {σ:Type} {R:SR σ} {L:Lt} {S:Nat→Prop} {E:aK σ} {w:World} {t:Nat} (_h:RE R L S E w) (_ht:t<L.n) (_hr:(E.th t).spare<2*L.n+1) (_hp:(E.th t).past≤aQ L.n) (_hs:(E.th t).now.isSome∧(E.th t).cD.isSome),Calls Tryz.prog 345 #[.pointer (some ⟨L.g,t*28,none⟩)] w fun e w'=>e = .returned (.tuple #[])∧aF R L S w {wrote E t L.n with th:=aI E.th t ((E.th t).pass (aQ L.n+1) 10)} w'
theorem rG:int.fG∧list.fG∧tree.fG:=by
 refine ⟨@mkK _ 0 ?_,@mkK _ 1 ?_,@mkK _ 2 ?_⟩<;>intro kk σ R L S E w t h ht hr hp hs
 all_goals
  obtain ⟨c0,c4,vS,-,s0,s4⟩:=h.parts ht rfl
  have hn:=h.ok.n64
  have zF:=h.ok.n1
  have KW:aQ L.n≤200:=by unfold M.aQ M.tw;omega
  have hr':((E.th t).spare:Int)<2*(L.n:Int)+1:=by omega
  have HH:=aA h
  have HP:=aA (fun (W:World) (hW:RE R L S E W)=>tZ hW ht hr hp hs)
  clear h hs
  first|(have _:Kn 0:=kk;go_enter Tryz.func212,Tryz.ntmps212)|(have _:Kn 1:=kk;go_enter Tryz.func271,Tryz.ntmps271)|(have _:Kn 2:=kk;go_enter Tryz.func345,Tryz.ntmps345)
  go_wp2
  refine fR (S:=(fun w'=>w'.cell? ⟨L.g,t*28,none⟩=some (.pointer (some ⟨L.bS,0,none⟩))∧w'.cell? ⟨L.g,t*28+4,none⟩=some (.int .i64 ((E.th t).past:Int))∧w'.cell? ⟨L.g,t*28+11,none⟩=some (.int .i64 ((E.th t).spare:Int))∧w'.cell? ⟨L.bS,4,none⟩=some (.slice (some ⟨L.bP,0,none⟩) (2*L.n+1) (2*L.n+1)))) 20 rfl (by kernel_rfl) ?_ (fun hHeld=>?_)
  ·exact ⟨c0,c4,vS,s4⟩
  iterate 19 (refine tk 19 (by rfl) (by kernel_rfl) (by exact fun _ _ _ h=>h) (.inl ⟨by rfl,fun w hS=>by (try dsimp only at hS);go_simp;(try with_reducible rfl)⟩) (by assumption) ?_;try go_frame)
  refine bQ 19 (by rfl) (by kernel_rfl) (fun K hK=>?_)
  go_simp
  refine (HP.out w.drew HH.out.drew).mono ?_
  rintro e w3 ⟨rfl,L3⟩
  go_wp2_with fail
  refine hK.out _ _ ?_ (fun hHeld=>?_)
  ·first|(have _:Kn 0:=kk;obtain ⟨z0,z4,NU,-,-,ZT⟩:=L3.re.parts ht (congrFun (int.dU E t L.n) t);exact ⟨z0,z4,NU,ZT⟩)|(have _:Kn 1:=kk;obtain ⟨z0,z4,NU,-,-,ZT⟩:=L3.re.parts ht (congrFun (list.dU E t L.n) t);exact ⟨z0,z4,NU,ZT⟩)|(have _:Kn 2:=kk;obtain ⟨z0,z4,NU,-,-,ZT⟩:=L3.re.parts ht (congrFun (tree.dU E t L.n) t);exact ⟨z0,z4,NU,ZT⟩)
  clear hK K
  (try go_frame)
  refine wpAnyH_done (by kernel_rfl) ?_ _
  first|(have _:Kn 0:=kk;obtain ⟨z0,z4,NU,-,zs0,-⟩:=L3.re.parts ht (congrFun (int.dU E t L.n) t))|(have _:Kn 1:=kk;obtain ⟨z0,z4,NU,-,zs0,-⟩:=L3.re.parts ht (congrFun (list.dU E t L.n) t))|(have _:Kn 2:=kk;obtain ⟨z0,z4,NU,-,zs0,-⟩:=L3.re.parts ht (congrFun (tree.dU E t L.n) t))
  first|(have _:Kn 0:=kk;have HL:=aA (show int.aF R L S w (int.wrote E t L.n) w3 from ⟨L3.re,⟨L3.fr.os,L3.fr.tape,L3.fr.output,L3.fr.size,L3.fr.block⟩⟩))|(have _:Kn 1:=kk;have HL:=aA (show list.aF R L S w (list.wrote E t L.n) w3 from ⟨L3.re,⟨L3.fr.os,L3.fr.tape,L3.fr.output,L3.fr.size,L3.fr.block⟩⟩))|(have _:Kn 2:=kk;have HL:=aA (show tree.aF R L S w (tree.wrote E t L.n) w3 from ⟨L3.re,⟨L3.fr.os,L3.fr.tape,L3.fr.output,L3.fr.size,L3.fr.block⟩⟩))
  clear hHeld c0 c4 vS s0 s4 z4 NU
  go_wp2_with fail
  refine (uM (L.n:Int) _ (by omega) (by omega)).mono ?_
  rintro e w4 ⟨rfl,cT⟩
  rw [CP]
  have QH:=aA (HL.out.next (aF.below HL.out.re cT))
  go_wp2_with fail
  first|(have _:Kn 0:=kk;refine (int.kD QH.out.re ht (aQ L.n+1) 10 (by omega) (by rw [int.dU];omega)).mono ?_)|(have _:Kn 1:=kk;refine (list.kD QH.out.re ht (aQ L.n+1) 10 (by omega) (by rw [list.dU];omega)).mono ?_)|(have _:Kn 2:=kk;refine (tree.kD QH.out.re ht (aQ L.n+1) 10 (by omega) (by rw [tree.dU];omega)).mono ?_)
  rintro e w5 ⟨rfl,r5,k5⟩
  have HR:=aA (And.intro r5 k5)
  clear r5 k5
  go_wp2
  refine bodyPost_end (v:=.tuple #[]) (by simp [results,Tryz.results212,Tryz.results271,Tryz.results345,go_sem]) rfl ⟨rfl,QH.out.next (aF.of (HR.out.1.cast ?_) HR.out.2 rfl)⟩
  first|(have _:Kn 0:=kk;rw [int.dU])|(have _:Kn 1:=kk;rw [list.dU])|(have _:Kn 2:=kk;rw [tree.dU])
theorem int.mU:fG:=rG.1
theorem list.mU:fG:=rG.2.1
theorem tree.mU:fG:=rG.2.2
theorem row.mU {σ:Type} {R:SR σ} {L:Lt} {S:Nat→Prop} {E:aK σ} {w:World} {t:Nat} (h:RE R L S E w) (ht:t<L.n) (hr:(E.th t).spare<2*L.n+1) (hp:(E.th t).past≤aQ L.n) (hs:(E.th t).now.isSome∧(E.th t).cD.isSome) :
  Calls Tryz.prog 308 #[.pointer (some ⟨L.g,t*30,none⟩)] w fun e w'=>e = .returned (.tuple #[])∧aF R L S w {wrote E t L.n with th:=aI E.th t ((E.th t).pass (aQ L.n+1) 10)} w':=by
 obtain ⟨c0,c4,vS,-,s0,s4⟩:=h.parts ht rfl
 have hn:=h.ok.n64
 have zF:=h.ok.n1
 have KW:aQ L.n≤200:=by unfold M.aQ M.tw;omega
 have hr':((E.th t).spare:Int)<2*(L.n:Int)+1:=by omega
 have HH:=aA h
 have HP:=aA (fun (W:World) (hW:RE R L S E W)=>tZ hW ht hr hp hs)
 clear h hs
 go_enter Tryz.func308,Tryz.ntmps308
 go_wp2
 refine fR (S:=(fun w'=>w'.cell? ⟨L.g,t*30,none⟩=some (.pointer (some ⟨L.bS,0,none⟩))∧w'.cell? ⟨L.g,t*30+4,none⟩=some (.int .i64 ((E.th t).past:Int))∧w'.cell? ⟨L.g,t*30+11,none⟩=some (.int .i64 ((E.th t).spare:Int))∧w'.cell? ⟨L.bS,4,none⟩=some (.slice (some ⟨L.bP,0,none⟩) (2*L.n+1) (2*L.n+1)))) 20 rfl (by kernel_rfl) ?_ (fun hHeld=>?_)
 ·exact ⟨c0,c4,vS,s4⟩
 iterate 19 (refine tk 19 (by rfl) (by kernel_rfl) (by exact fun _ _ _ h=>h) (.inl ⟨by rfl,fun w hS=>by (try dsimp only at hS);go_simp;(try with_reducible rfl)⟩) (by assumption) ?_;try go_frame)
 refine bQ 19 (by rfl) (by kernel_rfl) (fun K hK=>?_)
 go_simp
 refine (HP.out w.drew HH.out.drew).mono ?_
 rintro e w3 ⟨rfl,L3⟩
 go_wp2_with fail
 refine hK.out _ _ ?_ (fun hHeld=>?_)
 ·obtain ⟨z0,z4,NU,-,-,ZT⟩:=L3.re.parts ht (congrFun (dU E t L.n) t);exact ⟨z0,z4,NU,ZT⟩
 clear hK K
 (try go_frame)
 refine wpAnyH_done (by kernel_rfl) ?_ _
 obtain ⟨z0,z4,NU,-,zs0,-⟩:=L3.re.parts ht (congrFun (dU E t L.n) t)
 have HL:=aA (show aF R L S w (wrote E t L.n) w3 from ⟨L3.re,⟨L3.fr.os,L3.fr.tape,L3.fr.output,L3.fr.size,L3.fr.block⟩⟩)
 clear hHeld c0 c4 vS s0 s4 z4 NU
 go_wp2_with fail
 refine (uM (L.n:Int) _ (by omega) (by omega)).mono ?_
 rintro e w4 ⟨rfl,cT⟩
 rw [CP]
 have QH:=aA (HL.out.next (aF.below HL.out.re cT))
 go_wp2_with fail
 refine (kD QH.out.re ht (aQ L.n+1) 10 (by omega) (by rw [dU];omega)).mono ?_
 rintro e w5 ⟨rfl,r5,k5⟩
 have HR:=aA (And.intro r5 k5)
 clear r5 k5
 go_wp2
 refine bodyPost_end (v:=.tuple #[]) (by simp [results,Tryz.results308,go_sem]) rfl ⟨rfl,QH.out.next (aF.of (HR.out.1.cast ?_) HR.out.2 rfl)⟩
 rw [dU]
end Go.Proofs.YtefjhnhdagolhaaGreat
