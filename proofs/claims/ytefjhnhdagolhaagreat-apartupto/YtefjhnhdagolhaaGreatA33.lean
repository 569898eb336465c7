import Derived.Test.YtefjhnhdagolhaaGreatA31
import Derived.Test.YtefjhnhdagolhaaGreatA32
import Derived.Test.YtefjhnhdagolhaaGreatA27
import Derived.Test.YtefjhnhdagolhaaGreatA05
import Derived.Test.YtefjhnhdagolhaaGreatA16
import Derived.Test.YtefjhnhdagolhaaGreatA22
set_option maxHeartbeats 16000000
set_option maxRecDepth 20000
namespace Go.Proofs.YtefjhnhdagolhaaGreat
open Tryz
open int list tree
open Go.RowKit
open M (aM aC aD Op eX bU bD bC aL aQ)
attribute [local go_sem ↓] Go.wp_at_zero Go.wp_at_succ
def qT (SR:Type→Type) (RE:lA SR) (n0 n1:Nat):Prop:=∀ {σ:Type} {R:SR σ} {L:Lt} {S:Nat→Prop} {E:bD σ} {w:World} {t:Nat} (_h:RE R L S E w) (_ht:t<L.n) {r p:Nat} (_hr:r<2*L.n+1) (_hp:p<bC L.n),Calls prog n0 #[.pointer (some ⟨L.bP,r*2,none⟩),.int .i64 (p:Int),.pointer (some ⟨L.g,t*n1+14,none⟩)] w fun e w'=>e = .returned (.tuple #[])∧RE R L S {E with th:=aM E.th t {E.th t with dw:=aM (E.th t).dw p (E.rw r p)}} w'∧Fr L.own w w'
open row in
theorem gP:qT int.SR @int.RE 224 28∧qT list.SR @list.RE 278 28∧qT tree.SR @tree.RE 352 28∧qT row.SR @row.RE 315 30:=by
 refine ⟨@mkK _ 0 ?_,@mkK _ 1 ?_,@mkK _ 2 ?_,@mkK _ 3 ?_⟩<;>intro kk σ R L S E w t h ht r p hr hp
 all_goals
  obtain ⟨cv,cf,pv,hc,-,-,-,-⟩:=h.cells ht rfl;have hn:=h.ok.n64;have RU:bC L.n≤200:=by unfold M.bC M.tw;omega
  have c14:=hc 14 _ (by decide) rfl;have p0:=h.JW hr;have d0:w.cell? ⟨L.bW r,p,none⟩=some (.int .i64 (E.rw r p)):=(h.rw r hr).cell hp;have th:w.there (L.gD t) p 1:=(h.gd t ht).there hp;have nPD:L.bP≠L.gD t:=by obtain ⟨sp,q2,-⟩:=h.po;exact Row.apart q2 (h.gd t ht) (by decide)
  have ngD:L.g≠L.gD t:=by obtain ⟨T,q,-⟩:=h.th;exact Row.apart q (h.gd t ht) (by decide)
  have nWD:L.bW r≠L.gD t:=Row.apart (h.rw r hr) (h.gd t ht) (by decide);have hp':(p:Int)<(bC L.n:Int):=by omega
  have H1:=aA (h.iG t ht p (E.rw r p));clear h hc
  first|(have:=kA kk;go_enter func224,ntmps224)|(have:=kB kk;go_enter func278,ntmps278)|(have:=kC kk;go_enter func352,ntmps352)|(have:=kD kk;go_enter func315,ntmps315)
  go_wp2
  first|(have:=kA kk;refine fH (S:=(fun w'=>w'.cell? ⟨L.g,t*28+14,none⟩=some (.slice (some ⟨L.gD t,0,none⟩) (bC L.n) (bC L.n))∧w'.cell? ⟨L.bP,r*2,none⟩=some (.slice (some ⟨L.bW r,0,none⟩) (bC L.n) (bC L.n))∧w'.cell? ⟨L.bW r,p,none⟩=some (.int .i64 (E.rw r p))∧w'.there (L.gD t) (p) 1)) 14 rfl (by kernel_rfl) ?_ (fun hHeld=>?_))|(have:=kB kk;refine fH (S:=(fun w'=>w'.cell? ⟨L.g,t*28+14,none⟩=some (.slice (some ⟨L.gD t,0,none⟩) (bC L.n) (bC L.n))∧w'.cell? ⟨L.bP,r*2,none⟩=some (.slice (some ⟨L.bW r,0,none⟩) (bC L.n) (bC L.n))∧w'.cell? ⟨L.bW r,p,none⟩=some (.int .i64 (E.rw r p))∧w'.there (L.gD t) (p) 1)) 14 rfl (by kernel_rfl) ?_ (fun hHeld=>?_))|(have:=kC kk;refine fH (S:=(fun w'=>w'.cell? ⟨L.g,t*28+14,none⟩=some (.slice (some ⟨L.gD t,0,none⟩) (bC L.n) (bC L.n))∧w'.cell? ⟨L.bP,r*2,none⟩=some (.slice (some ⟨L.bW r,0,none⟩) (bC L.n) (bC L.n))∧w'.cell? ⟨L.bW r,p,none⟩=some (.int .i64 (E.rw r p))∧w'.there (L.gD t) (p) 1)) 14 rfl (by kernel_rfl) ?_ (fun hHeld=>?_))|(have:=kD kk;refine fH (S:=(fun w'=>w'.cell? ⟨L.g,t*30+14,none⟩=some (.slice (some ⟨L.gD t,0,none⟩) (bC L.n) (bC L.n))∧w'.cell? ⟨L.bP,r*2,none⟩=some (.slice (some ⟨L.bW r,0,none⟩) (bC L.n) (bC L.n))∧w'.cell? ⟨L.bW r,p,none⟩=some (.int .i64 (E.rw r p))∧w'.there (L.gD t) (p) 1)) 14 rfl (by kernel_rfl) ?_ (fun hHeld=>?_))
  ·exact ⟨c14,p0,d0,th⟩
  iterate 11 (refine tk 13 (by rfl) (by kernel_rfl) (by exact fun _ _ _ h=>h) (.inl ⟨by rfl,fun w hS=>by (try dsimp only at hS);go_simp;(try with_reducible rfl)⟩) (by assumption) ?_;try go_frame)
  refine cT 11 (by rfl) (by kernel_rfl) (fun K hK=>?_);go_simp;refine (vH (L.bW r) p _ _ hHeld.2.2.1).mono ?_;rintro e w3 ⟨rfl,rfl⟩;go_wp2_with fail;refine hK.out _ _ ?_ (fun hHeld=>?_)
  ·exact hHeld
  clear hK K
  (try go_frame)
  iterate 1 (refine tk 13 (by rfl) (by kernel_rfl) (by exact fun _ _ _ h=>h) (.inl ⟨by rfl,fun w hS=>by (try dsimp only at hS);go_simp;(try with_reducible rfl)⟩) (by assumption) ?_;try go_frame)
  refine cT 13 (by rfl) (by kernel_rfl) (fun K hK=>?_);rw [aJ (by rfl)];refine aY _ _ _ rfl (L.gD t) p (.int .i64 (E.rw r p)) rfl rfl rfl rfl hHeld.2.2.2 (by kernel_rfl) ?_;refine hK.out _ _ ?_ (fun hHeld=>?_)
  ·exact ⟨aH hHeld.1 (by dsimp only;omega),aH hHeld.2.1 (by dsimp only;omega),aH hHeld.2.2.1 (by dsimp only;omega),bA hHeld.2.2.2 _ rfl _⟩
  clear hK K
  (try go_frame)
  refine cC (by kernel_rfl) ?_ _;clear hHeld;go_wp2;exact cR (v:=.tuple #[]) (by simp [results,results224,results278,results352,results315,go_sem]) rfl ⟨rfl,H1.out.drew,(Fr.set w (vA ht) _).drew⟩
theorem int.wV:qT int.SR @int.RE 224 28:=gP.1
theorem list.wV:qT list.SR @list.RE 278 28:=gP.2.1
theorem tree.wV:qT tree.SR @tree.RE 352 28:=gP.2.2.1
theorem row.wV:qT row.SR @row.RE 315 30:=gP.2.2.2
def vD (SR:Type→Type) (RE:lA SR) (aE:BX SR) (n0:Nat):Prop:=∀ {σ:Type} {R:SR σ} {L:Lt} {S:Nat→Prop} {E:bD σ} {w:World} {t:Nat} (_h:RE R L S E w) (_ht:t<L.n) {r:Nat} (_hr:r<2*L.n+1) {v f:eX σ} (_hv:E.lI r=some (v,f)),Calls prog n0 #[.pointer (some ⟨L.bP,r*2,none⟩),.int .i64 (bC L.n:Int),.pointer (some ⟨L.g,t*28+14,none⟩)] w fun e w'=>e = .returned (.tuple #[])∧aE R L S w {E with th:=aM E.th t {E.th t with now:=some v,fD:=some v}} w'
theorem jV:vD int.SR @int.RE @int.aE 224∧vD list.SR @list.RE @list.aE 278∧vD tree.SR @tree.RE @tree.aE 352:=by
 refine ⟨@mkK _ 0 ?_,@mkK _ 1 ?_,@mkK _ 2 ?_⟩<;>intro kk σ R L S E w t h ht r hr v f hv
 all_goals
  obtain ⟨cv0,mm,pv,hc,hcv,eP,-,hfz⟩:=h.cells ht rfl;obtain ⟨c0,c1,rfl⟩:=aF hcv.1;obtain ⟨d0,d1,rfl⟩:=aF eP.1
  first
   |have:=kA kk
    obtain ⟨b,cv,cf,ic,hIb,hrow,zM,hfr⟩:∃ b cv cf,w.cell? ⟨L.bP,r*2+1,none⟩=some (.pointer (some ⟨b,0,none⟩))∧(S b∧¬L.own b)∧Row w b 227 (cv++cf)∧int.bH R (fun k=>S k∧¬L.own k) w v cv∧int.bH R (fun k=>S k∧¬L.own k) w f cf:=by
     obtain ⟨sp,q1,q2⟩:=h.po;obtain ⟨b,cv,cf,a1,a2,a3,a4,a5⟩:=q2 r hr v f hv;refine ⟨b,cv,cf,?_,a2,a3,a4,a5⟩;have:=q1.cell hr (show 1<2 by decide);rw [this,a1];rfl
   |have:=kB kk
    obtain ⟨b,cv,cf,ic,hIb,hrow,zM,hfr⟩:∃ b cv cf,w.cell? ⟨L.bP,r*2+1,none⟩=some (.pointer (some ⟨b,0,none⟩))∧(S b∧¬L.own b)∧Row w b 241 (cv++cf)∧list.bH R (fun k=>S k∧¬L.own k) w v cv∧list.bH R (fun k=>S k∧¬L.own k) w f cf:=by
     obtain ⟨sp,q1,q2⟩:=h.po;obtain ⟨b,cv,cf,a1,a2,a3,a4,a5⟩:=q2 r hr v f hv;refine ⟨b,cv,cf,?_,a2,a3,a4,a5⟩;have:=q1.cell hr (show 1<2 by decide);rw [this,a1];rfl
   |have:=kC kk
    obtain ⟨b,cv,cf,ic,hIb,hrow,zM,hfr⟩:∃ b cv cf,w.cell? ⟨L.bP,r*2+1,none⟩=some (.pointer (some ⟨b,0,none⟩))∧(S b∧¬L.own b)∧Row w b 269 (cv++cf)∧tree.bH R (fun k=>S k∧¬L.own k) w v cv∧tree.bH R (fun k=>S k∧¬L.own k) w f cf:=by
     obtain ⟨sp,q1,q2⟩:=h.po;obtain ⟨b,cv,cf,a1,a2,a3,a4,a5⟩:=q2 r hr v f hv;refine ⟨b,cv,cf,?_,a2,a3,a4,a5⟩;have:=q1.cell hr (show 1<2 by decide);rw [this,a1];rfl
  obtain ⟨x0,x1,rfl⟩:=aF (bH.len R zM);obtain ⟨y0,y1,rfl⟩:=aF (bH.len R hfr);have hn:=h.ok.n64;have RU:bC L.n≤200:=by unfold M.bC M.tw;omega
  have p0:=h.JW hr;have e0:=hc 15 _ (by decide) rfl;have e1:=hc 16 _ (by decide) rfl;have e2:=hc 17 _ (by decide) rfl;have e3:=hc 18 _ (by decide) rfl;have ef0:=hfz (t*28+15);have ef1:=hfz (t*28+16);have ef2:=hfz (t*28+17);have ef3:=hfz (t*28+18);have ox0:=bH.one R zM x0 (by simp);have ox1:=bH.one R zM x1 (by simp);have vc0:w.cell? ⟨b,0,none⟩=some x0:=hrow.cell_of rfl;have vc1:w.cell? ⟨b,1,none⟩=some x1:=hrow.cell_of rfl;have DU:L.g<w.heap.size:=h.lt _ (h.ow _ pI);have HH:=aA h;have HV:=aA zM;have HW:=aA (aP ic hrow);clear h hc hcv eP zM hfr ic hrow hfz hv;have aBM:=cX (P:=prog) ox0;have aBN:=cX (P:=prog) ox1
  first|(have:=kA kk;go_enter func224,ntmps224)|(have:=kB kk;go_enter func278,ntmps278)|(have:=kC kk;go_enter func352,ntmps352)
  go_wp2_with fail
  first|(have:=kA kk;refine (int.lY L.bP (r*2+1) b _ w HW.out.1 HW.out.2 rfl).mono ?_)|(have:=kB kk;refine (list.lY L.bP (r*2+1) b _ w HW.out.1 HW.out.2 rfl).mono ?_)|(have:=kC kk;refine (tree.lY L.bP (r*2+1) b _ w HW.out.1 HW.out.2 rfl).mono ?_)
  rintro e w1 ⟨rfl,rfl⟩;go_wp2_with fail;obtain ⟨r1,k1⟩:=HH.out.mJ ht ([x0,x1]++[x0,x1]) 0 (by simp) (by simp) HV.out HV.out (fun j hj=>by rw [aJ ⟨aW _,by simpa using hj⟩];rfl) {E.th t with now:=some v,fD:=some v} rfl;exact cW (v:=.tuple #[]) (by simp [results,results224,results278,results352,go_sem]) rfl ⟨rfl,(aE.of r1 k1 rfl).next (aE.below (aE.of r1 k1 rfl).re (aB _ _))⟩
theorem int.uA:vD int.SR @int.RE @int.aE 224:=jV.1
theorem list.uA:vD list.SR @list.RE @list.aE 278:=jV.2.1
theorem tree.uA:vD tree.SR @tree.RE @tree.aE 352:=jV.2.2
theorem row.uA {σ:Type} {R:SR σ} {L:Lt} {S:Nat→Prop} {E:bD σ} {w:World} {t:Nat} (h:RE R L S E w) (ht:t<L.n) {r:Nat} (hr:r<2*L.n+1) {v f:eX σ} (hv:E.lI r=some (v,f)) :
  Calls prog 315 #[.pointer (some ⟨L.bP,r*2,none⟩),.int .i64 (bC L.n:Int),.pointer (some ⟨L.g,t*30+14,none⟩)] w fun e w'=>e = .returned (.tuple #[])∧aE R L S w {E with th:=aM E.th t {E.th t with now:=some v,fD:=some v}} w':=by
 obtain ⟨cv0,mm,pv,hc,hcv,eP,-,hfz⟩:=h.cells ht rfl;obtain ⟨c0,c1,c2,rfl⟩:=aF hcv.1;obtain ⟨d0,d1,d2,rfl⟩:=aF eP.1;obtain ⟨b,cv,cf,ic,hIb,hrow,zM,hfr⟩:∃ b cv cf,w.cell? ⟨L.bP,r*2+1,none⟩=some (.pointer (some ⟨b,0,none⟩))∧(S b∧¬L.own b)∧Row w b 255 (cv++cf)∧bH R (fun k=>S k∧¬L.own k) w v cv∧bH R (fun k=>S k∧¬L.own k) w f cf:=by
  obtain ⟨sp,q1,q2⟩:=h.po;obtain ⟨b,cv,cf,a1,a2,a3,a4,a5⟩:=q2 r hr v f hv;refine ⟨b,cv,cf,?_,a2,a3,a4,a5⟩;have:=q1.cell hr (show 1<2 by decide);rw [this,a1];rfl
 obtain ⟨x0,x1,x2,rfl⟩:=aF (bH.len R zM);obtain ⟨y0,y1,y2,rfl⟩:=aF (bH.len R hfr);have hn:=h.ok.n64;have RU:bC L.n≤200:=by unfold M.bC M.tw;omega
 have p0:=h.JW hr;have e0:=hc 15 _ (by decide) rfl;have e1:=hc 16 _ (by decide) rfl;have e2:=hc 17 _ (by decide) rfl;have e3:=hc 18 _ (by decide) rfl;have e4:=hc 19 _ (by decide) rfl;have e5:=hc 20 _ (by decide) rfl;have ef0:=hfz (t*30+15);have ef1:=hfz (t*30+16);have ef2:=hfz (t*30+17);have ef3:=hfz (t*30+18);have ef4:=hfz (t*30+19);have ef5:=hfz (t*30+20);have ox0:=bH.one R zM x0 (by simp);have ox1:=bH.one R zM x1 (by simp);have ox2:=bH.one R zM x2 (by simp);have vc0:w.cell? ⟨b,0,none⟩=some x0:=hrow.cell_of rfl;have vc1:w.cell? ⟨b,1,none⟩=some x1:=hrow.cell_of rfl;have vc2:w.cell? ⟨b,2,none⟩=some x2:=hrow.cell_of rfl;have DU:L.g<w.heap.size:=h.lt _ (h.ow _ pI);have HH:=aA h;have HV:=aA zM;have HW:=aA (aP ic hrow);clear h hc hcv eP zM hfr ic hrow hfz hv;have aBM:=cX (P:=prog) ox0;have aBN:=cX (P:=prog) ox1;have aIf:=cX (P:=prog) ox2;go_enter func315,ntmps315;go_wp2_with fail;refine (lY L.bP (r*2+1) b _ w HW.out.1 HW.out.2 rfl).mono ?_;rintro e w1 ⟨rfl,rfl⟩;go_wp2_with fail;obtain ⟨r1,k1⟩:=HH.out.mJ ht ([x0,x1,x2]++[x0,x1,x2]) 0 (by simp) (by simp) HV.out HV.out (fun j hj=>by rw [aJ ⟨aW _,by simpa using hj⟩];rfl) {E.th t with now:=some v,fD:=some v} rfl;exact cW (v:=.tuple #[]) (by simp [results,results315,go_sem]) rfl ⟨rfl,(aE.of r1 k1 rfl).next (aE.below (aE.of r1 k1 rfl).re (aB _ _))⟩
def int.copied {σ:Type} (E:bD σ) (t n:Nat):bU σ :=
 if (E.th t).past<bC n then {E.th t with dw:=aM (E.th t).dw (E.th t).past (E.rw (E.th t).cG (E.th t).past)} else {E.th t with now:=(E.lI (E.th t).cG).map Prod.fst,fD:=(E.lI (E.th t).cG).map Prod.fst}
theorem int.KE {σ:Type} (E:bD σ) (t n:Nat):(copied E t n).past=(E.th t).past:=by unfold copied;split<;>rfl
def CU (SR:Type→Type) (RE:lA SR) (aE:BX SR) (n0 n1:Nat):Prop:=∀ {σ:Type} {R:SR σ} {L:Lt} {S:Nat→Prop} {E:bD σ} {w:World} {t:Nat} (_h:RE R L S E w) (_ht:t<L.n) (_hr:(E.th t).cG<2*L.n+1) (_hp:(E.th t).past≤bC L.n) (_hs:(E.lI (E.th t).cG).isSome),Calls prog n0 #[.pointer (some ⟨L.bP,(E.th t).cG*2,none⟩),.int .i64 ((E.th t).past:Int),.pointer (some ⟨L.g,t*n1+14,none⟩)] w fun e w'=>e = .returned (.tuple #[])∧aE R L S w {E with th:=aM E.th t (copied E t L.n)} w'
open row in
theorem oJ:CU int.SR @int.RE @int.aE 224 28∧CU list.SR @list.RE @list.aE 278 28∧CU tree.SR @tree.RE @tree.aE 352 28∧CU row.SR @row.RE @row.aE 315 30:=by
 refine ⟨?_,?_,?_,?_⟩<;>intro σ R L S E w t h ht hr hp hs
 all_goals
  unfold copied
  by_cases q:(E.th t).past<bC L.n
  ·rw [aJ q]
   refine (wV h ht hr q).mono ?_;rintro e w1 ⟨rfl,r1,k1⟩;exact ⟨rfl,aE.of r1 k1 rfl⟩
  ·rw [aN q]
   obtain ⟨⟨v,f⟩,hv⟩:=pQ.1 hs;have hq:(E.th t).past=bC L.n:=by omega
   have:=uA h ht hr hv;rw [hv];simp only [hq] at this ⊢;exact this
theorem int.MQ:CU int.SR @int.RE @int.aE 224 28:=oJ.1
theorem list.MQ:CU list.SR @list.RE @list.aE 278 28:=oJ.2.1
theorem tree.MQ:CU tree.SR @tree.RE @tree.aE 352 28:=oJ.2.2.1
theorem row.MQ:CU row.SR @row.RE @row.aE 315 30:=oJ.2.2.2
def tX (SR:Type→Type) (RE:lA SR) (aE:BX SR) (n0 n1:Nat):Prop:=∀ {σ:Type} {R:SR σ} {L:Lt} {S:Nat→Prop} {E:bD σ} {w:World} {t:Nat} (_h:RE R L S E w) (_ht:t<L.n) (_hr:(E.th t).cG<2*L.n+1) (_hp:(E.th t).past≤bC L.n) (_hN:(E.th t).stamp≤1000000000) (_hs:(E.lI (E.th t).cG).isSome),Calls prog n0 #[.pointer (some ⟨L.g,t*n1,none⟩)] w fun e w'=>e = .returned (.tuple #[])∧aE R L S w {E with th:=aM E.th t ((copied E t L.n).pass (bC L.n+1) 6)} w'
open row in
theorem iZ:tX int.SR @int.RE @int.aE 208 28∧tX list.SR @list.RE @list.aE 267 28∧tX tree.SR @tree.RE @tree.aE 341 28∧tX row.SR @row.RE @row.aE 304 30:=by
 refine ⟨@mkK _ 0 ?_,@mkK _ 1 ?_,@mkK _ 2 ?_,@mkK _ 3 ?_⟩<;>intro kk σ R L S E w t h ht hr hp hN hs
 all_goals
  obtain ⟨c0,c4,-,c13,s0,s4⟩:=h.parts ht rfl;have hn:=h.ok.n64;have xV:=h.ok.n1;have RU:bC L.n≤200:=by unfold M.bC M.tw;omega
  have hr':((E.th t).cG:Int)<2*(L.n:Int)+1:=by omega
  have hm:=aA (show (((E.th t).stamp:Int)*129+((E.th t).cG:Int)) % 129=((E.th t).cG:Int) by omega);have hcp:(copied E t L.n).stamp=(E.th t).stamp∧(copied E t L.n).cG=(E.th t).cG:=by unfold copied;split<;>exact ⟨rfl,rfl⟩
  have HH:=aA h;have HP:=aA (fun (W:World) (hW:RE R L S E W)=>MQ hW ht hr hp hs);clear h hs
  first|(have:=kA kk;go_enter func208,ntmps208)|(have:=kB kk;go_enter func267,ntmps267)|(have:=kC kk;go_enter func341,ntmps341)|(have:=kD kk;go_enter func304,ntmps304)
  go_wp2
  first|(have:=kA kk;refine fH (S:=(fun w'=>w'.cell? ⟨L.g,t*28,none⟩=some (.pointer (some ⟨L.bS,0,none⟩))∧w'.cell? ⟨L.g,t*28+4,none⟩=some (.int .i64 ((E.th t).past:Int))∧w'.cell? ⟨L.g,t*28+13,none⟩=some (.int .i64 (((E.th t).stamp:Int)*129+((E.th t).cG:Int)))∧w'.cell? ⟨L.bS,4,none⟩=some (.slice (some ⟨L.bP,0,none⟩) (2*L.n+1) (2*L.n+1)))) 21 rfl (by kernel_rfl) ?_ (fun hHeld=>?_))|(have:=kB kk;refine fH (S:=(fun w'=>w'.cell? ⟨L.g,t*28,none⟩=some (.pointer (some ⟨L.bS,0,none⟩))∧w'.cell? ⟨L.g,t*28+4,none⟩=some (.int .i64 ((E.th t).past:Int))∧w'.cell? ⟨L.g,t*28+13,none⟩=some (.int .i64 (((E.th t).stamp:Int)*129+((E.th t).cG:Int)))∧w'.cell? ⟨L.bS,4,none⟩=some (.slice (some ⟨L.bP,0,none⟩) (2*L.n+1) (2*L.n+1)))) 21 rfl (by kernel_rfl) ?_ (fun hHeld=>?_))|(have:=kC kk;refine fH (S:=(fun w'=>w'.cell? ⟨L.g,t*28,none⟩=some (.pointer (some ⟨L.bS,0,none⟩))∧w'.cell? ⟨L.g,t*28+4,none⟩=some (.int .i64 ((E.th t).past:Int))∧w'.cell? ⟨L.g,t*28+13,none⟩=some (.int .i64 (((E.th t).stamp:Int)*129+((E.th t).cG:Int)))∧w'.cell? ⟨L.bS,4,none⟩=some (.slice (some ⟨L.bP,0,none⟩) (2*L.n+1) (2*L.n+1)))) 21 rfl (by kernel_rfl) ?_ (fun hHeld=>?_))|(have:=kD kk;refine fH (S:=(fun w'=>w'.cell? ⟨L.g,t*30,none⟩=some (.pointer (some ⟨L.bS,0,none⟩))∧w'.cell? ⟨L.g,t*30+4,none⟩=some (.int .i64 ((E.th t).past:Int))∧w'.cell? ⟨L.g,t*30+13,none⟩=some (.int .i64 (((E.th t).stamp:Int)*129+((E.th t).cG:Int)))∧w'.cell? ⟨L.bS,4,none⟩=some (.slice (some ⟨L.bP,0,none⟩) (2*L.n+1) (2*L.n+1)))) 21 rfl (by kernel_rfl) ?_ (fun hHeld=>?_))
  ·exact ⟨c0,c4,c13,s4⟩
  iterate 11 (refine tk 20 (by rfl) (by kernel_rfl) (by exact fun _ _ _ h=>h) (.inl ⟨by rfl,fun w hS=>by (try dsimp only at hS);go_simp;(try with_reducible rfl)⟩) (by assumption) ?_;try go_frame)
  iterate 7 (refine tk 22 (by rfl) (by kernel_rfl) (by exact fun _ _ _ h=>h) (.inl ⟨by rfl,fun w hS=>by (try dsimp only at hS);go_simp;(try with_reducible rfl)⟩) (by assumption) ?_;try go_frame)
  refine cT 11 (by rfl) (by kernel_rfl) (fun K hK=>?_);go_simp;refine (xZ _ _ (by omega) (by omega)).mono ?_;rintro e w2 ⟨rfl,rfl⟩;rw [hm.out];go_wp2_with fail;refine hK.out _ _ ?_ (fun hHeld=>?_)
  ·exact hHeld
  clear hK K
  (try go_frame)
  iterate 1 (refine tk 13 (by rfl) (by kernel_rfl) (by exact fun _ _ _ h=>h) (.inl ⟨by rfl,fun w hS=>by (try dsimp only at hS);go_simp;(try with_reducible rfl)⟩) (by assumption) ?_;try go_frame)
  refine cT 20 (by rfl) (by kernel_rfl) (fun K hK=>?_);go_simp;refine (HP.out w.drew HH.out.drew).mono ?_;rintro e w3 ⟨rfl,L3⟩;go_wp2_with fail;refine hK.out _ _ ?_ (fun hHeld=>?_)
  ·obtain ⟨z0,z4,-,z13,-,zs4⟩:=L3.re.parts ht (aC _ _ _);rw [KE] at z4;rw [hcp.1,hcp.2] at z13;exact ⟨z0,z4,z13,zs4⟩
  clear hK K
  (try go_frame)
  refine cC (by kernel_rfl) ?_ _;obtain ⟨z0,z4,-,-,zs0,-⟩:=L3.re.parts ht (aC _ _ _);have HL:=aA (show aE R L S w {E with th:=aM E.th t (copied E t L.n)} w3 from ⟨L3.re,⟨L3.fr.os,L3.fr.tape,L3.fr.output,L3.fr.size,L3.fr.block⟩⟩);clear hHeld c0 c4 c13 s0 s4 z4;go_wp2_with fail;refine (JU (L.n:Int) _ (by omega) (by omega)).mono ?_;rintro e w4 ⟨rfl,dQ⟩;rw [YZ];have HL4:=aA (HL.out.next (aE.below HL.out.re dQ));go_wp2_with fail;refine (sR HL4.out.re ht (bC L.n+1) 6 (by omega) (by simp only [aC,KE];omega)).mono ?_;rintro e w5 ⟨rfl,r5,k5⟩;have HR:=aA (aP r5 k5);clear r5 k5;go_wp2;refine cW (v:=.tuple #[]) (by simp [results,results208,results267,results341,results304,go_sem]) rfl ⟨rfl,HL4.out.next (aE.of (HR.out.1.cast ?_) HR.out.2 rfl)⟩;simp only [cU,aC]
theorem int.zI:tX int.SR @int.RE @int.aE 208 28:=iZ.1
theorem list.zI:tX list.SR @list.RE @list.aE 267 28:=iZ.2.1
theorem tree.zI:tX tree.SR @tree.RE @tree.aE 341 28:=iZ.2.2.1
theorem row.zI:tX row.SR @row.RE @row.aE 304 30:=iZ.2.2.2
def int.JK (x:Int):Prop:=0≤x∧x<65536
def int.waits {σ:Type} (e:bU σ) (k:Nat):List Nat:=(List.range k).filter fun i=>M.pG e.tg i != M.pG e.dw i
theorem int.ki {σ:Type} (e:bU σ) (k:Nat):waits e (k+1)=waits e k++if M.pG e.tg k != M.pG e.dw k then [k] else []:=by
 unfold waits;rw [pR,zZ];congr 1
 by_cases h:(M.pG e.tg k != M.pG e.dw k)=true
 ·simp [h]
 ·simp [h]
theorem int.SU {σ:Type} (e:bU σ) (k:Nat):(waits e k).length≤k:=by
 unfold waits;exact bK (List.length_filter_le _ _) (by simp)
def xA (SR:Type→Type) (RE:lA SR) (n0 n1:Nat):Prop:=∀ {σ:Type} {R:SR σ} {L:Lt} {S:Nat→Prop} {E:bD σ} {w:World} {t:Nat} (_h:RE R L S E w) (_ht:t<L.n) (_hw:∀ k,k<M.tw L.n→JK ((E.th t).tg k)∧JK ((E.th t).dw k)),Calls prog n0 #[.pointer (some ⟨L.g,t*n1,none⟩)] w fun e w'=>∃ v,e = .returned v∧w'.ownsRow w.heap.size 3 1 v ((E.th t).waiting L.n).length (ints (((E.th t).waiting L.n).map Int.ofNat))∧Below w.heap.size w w'
open row in
theorem kO:xA int.SR @int.RE 228 28∧xA list.SR @list.RE 280 28∧xA tree.SR @tree.RE 354 28∧xA row.SR @row.RE 317 30:=by
 refine ⟨@mkK _ 0 ?_,@mkK _ 1 ?_,@mkK _ 2 ?_,@mkK _ 3 ?_⟩<;>intro kk σ R L S E w t h ht hw
 all_goals
  obtain ⟨mi,YE,YF⟩:=eZ.1 UF;simp only [fW] at YF;obtain ⟨AX,AY,AZ⟩:=YF;have zv:=aA YE;have kq:=aA AX;have zq:=aA AY;have zu:=aA AZ;obtain ⟨cv,cf,pv,hc,hcv,eP,-,-⟩:=h.cells ht rfl
  first|(have:=kA kk;obtain ⟨x0,x1,rfl⟩:=int.aF hcv.1)|(have:=kB kk;obtain ⟨x0,x1,rfl⟩:=int.aF hcv.1)|(have:=kC kk;obtain ⟨x0,x1,rfl⟩:=int.aF hcv.1)|(have:=kD kk;obtain ⟨x0,x1,x2,rfl⟩:=row.aF hcv.1)
  first|(have:=kA kk;obtain ⟨y0,y1,rfl⟩:=int.aF eP.1)|(have:=kB kk;obtain ⟨y0,y1,rfl⟩:=int.aF eP.1)|(have:=kC kk;obtain ⟨y0,y1,rfl⟩:=int.aF eP.1)|(have:=kD kk;obtain ⟨y0,y1,y2,rfl⟩:=row.aF eP.1)
  have hn:=h.ok.n64
  first|(have:=kA kk;have c0:w.cell? ⟨L.g,t*28,none⟩=some (.pointer (some ⟨L.bS,0,none⟩)):=hc 0 _ (by decide) rfl)|(have:=kB kk;have c0:w.cell? ⟨L.g,t*28,none⟩=some (.pointer (some ⟨L.bS,0,none⟩)):=hc 0 _ (by decide) rfl)|(have:=kC kk;have c0:w.cell? ⟨L.g,t*28,none⟩=some (.pointer (some ⟨L.bS,0,none⟩)):=hc 0 _ (by decide) rfl)|(have:=kD kk;have c0:w.cell? ⟨L.g,t*30,none⟩=some (.pointer (some ⟨L.bS,0,none⟩)):=hc 0 _ (by decide) rfl)
  have c14:=hc 14 _ (by decide) rfl
  first|(have:=kA kk;have cg:=hc 19 _ (by decide) rfl)|(have:=kB kk;have cg:=hc 19 _ (by decide) rfl)|(have:=kC kk;have cg:=hc 19 _ (by decide) rfl)|(have:=kD kk;have cg:=hc 21 _ (by decide) rfl)
  have s0:w.cell? ⟨L.bS,0,none⟩=some (.int .i64 (L.n:Int)):=h.sh.cell_of rfl;have HD:=aA (fun k (hk:k<M.bC L.n)=>(h.gd t ht).cell hk);have HG:=aA (fun k (hk:k<M.tw L.n)=>(h.gg t ht).cell hk);have HC:=aA (aP c14 cg);have HW:=aA hw;clear h hc hcv eP YE AX AY AZ c14 cg hw;have haw:∀ k,k<L.n→k / 16<M.tw L.n:=fun k hk=>by unfold M.tw;omega
  have hbw:∀ k,k<L.n→k / 16<M.bC L.n:=fun k hk=>by unfold M.bC;have:=haw k hk;omega
  generalize M.tw L.n=a at *;generalize M.bC L.n=b at *;generalize L.gG t=gg at *;generalize L.gD t=gd at *
  first|(have:=kA kk;go_enter func228,ntmps228)|(have:=kB kk;go_enter func280,ntmps280)|(have:=kC kk;go_enter func354,ntmps354)|(have:=kD kk;go_enter func317,ntmps317)
  go_wp2
  go_loopw [3,13] (fun th i w'=>∃ k:Nat,k≤L.n∧i = .int .i64 (k:Int)∧Below w.heap.size w w'∧w'.ownsRow w.heap.size 3 1 th (waits (E.th t) k).length (ints ((waits (E.th t) k).map Int.ofNat))) (fun _ i _=>L.n-(intOf i).toNat)
  case atStart=>exact ⟨0,aW _,rfl,aT _ _,jZ _ _ _ _⟩
  case round =>
   obtain ⟨k,hk,rfl,hB,hO⟩:=hrel
   by_cases hlt:k<L.n
   ·have hlt':(k:Int)<(L.n:Int):=by omega
    have hq:=haw k hlt;have hq2:=hbw k hlt;have d14:=aI hB HC.out.1;have dg:=aI hB HC.out.2;have a1:=aI hB (HG.out _ hq);have a2:=aI hB (HD.out _ hq2);obtain ⟨⟨u1,u2⟩,u3,u4⟩:=HW.out _ hq;have aHj:(M.pG (E.th t).tg k != M.pG (E.th t).dw k)=(decide (((E.th t).tg (k / 16) / 2 ^ (k % 16)) % 2=1) != decide (((E.th t).dw (k / 16) / 2 ^ (k % 16)) % 2=1)):=rfl;have HBT:=aA (ki (E.th t) k);rw [aHj] at HBT;generalize (E.th t).tg (k / 16)=x1 at *;generalize (E.th t).dw (k / 16)=x2 at *;generalize hy1:decide ((x1 / 2 ^ (k % 16)) % 2=1)=y1 at *;generalize hy2:decide ((x2 / 2 ^ (k % 16)) % 2=1)=y2 at *;have HB:=aA hB;have HO:=aA hO;have H1:=aA (fun (W:World) (hW:W.cell? ⟨gg,k / 16,none⟩=some (.int .i64 x1))=>YA gg a a k x1 W (by omega) hq hW u1 u2);have H2:=aA (fun (W:World) (hW:W.cell? ⟨gd,k / 16,none⟩=some (.int .i64 x2))=>YA gd b b k x2 W (by omega) hq2 hW u3 u4);rw [hy1] at H1;rw [hy2] at H2;have A1:=aA (fun n=>Calls.quiet_of (n:=n) (H1.out (wr.drewN n) a1));have A2:=aA (fun n=>Calls.quiet_of (n:=n) (H2.out (wr.drewN n) a2));clear hB hO a1 a2 H1 H2 aHj hy1 hy2 hq hq2 u1 u2 u3 u4;go_wp2;go_quiet ((go_at_call 242;first|(with_reducible exact A1.out _)|(with_reducible exact A2.out _)));have HN:=aA (SU (E.th t) k);have vw:=HB.out.size
    cases y1<;>cases y2
    case' false.true|true.false =>
     have hw1:=aA (show waits (E.th t) (k+1)=waits (E.th t) k++[k] by have e:=HBT.out;simpa using e);go_wp2_with (at_builtin;refine cY _ rfl (.tmp 30) (.tmp 32) 22 rfl w.heap.size 3 mi (.int .i64 0) 1 8 underlying22 zv.out kq.out zq.out zu.out rfl (by decide) _ (waits (E.th t) k).length _ rfl ((show (wr.drewN nq).ownsRow w.heap.size 3 1 _ _ _ from HO.out).kept (KM (aB _ _)) (by cases (Value.ownBlock _)<;>simp)) ⟨(wr.drewN nq).heap.size,0,none⟩ 1 1 [.int .i64 (k:Int)] rfl rfl (jH (dH _ _ _)) (by simp [Value.oneCell']) (by decide) (by have:=HN.out;unfold maxLen;omega) (by have:=HN.out;omega) (by simp;omega) ?_);intro g3 c3 w3 hown dP DX DK;have cP:Below w.heap.size w w3:=(aS (aX HB.out nq) (aB (wr.drewN nq) _) vw).grown dP (by simp;omega) (fun q hq=>(HO.out.lt q hq).1);have HR:=aA (aP cP hown);clear hown dP DX DK cP;go_wp2;go_roundw
     case rel =>
      refine ⟨k+1,by omega,by go_num,HR.out.1,?_⟩;rw [hw1.out];have:=HR.out.2;simpa [ints] using this
     case measure=>simp [intOf];omega
    all_goals
     have hw1:=aA (show waits (E.th t) (k+1)=waits (E.th t) k by have e:=HBT.out;simpa using e);go_wp2;go_roundw
     case rel=>exact ⟨k+1,by omega,by go_num,aX HB.out _,by rw [hw1.out];exact HO.out⟩
     case measure=>simp [intOf];omega
   ·have hlt':¬(k:Int)<(L.n:Int):=by omega
    have hkn:k=L.n:=by omega
    have HB:=aA (show Below w.heap.size w wr from hB);have HO:=aA (show wr.ownsRow w.heap.size 3 1 _ ((E.th t).waiting L.n).length (ints (((E.th t).waiting L.n).map Int.ofNat)) by rw [hkn] at hO;exact hO);clear hB hO hkn;go_wp2;go_ret;exact ⟨_,rfl,HO.out,HB.out⟩
theorem int.DD:xA int.SR @int.RE 228 28:=kO.1
theorem list.DD:xA list.SR @list.RE 280 28:=kO.2.1
theorem tree.DD:xA tree.SR @tree.RE 354 28:=kO.2.2.1
theorem row.DD:xA row.SR @row.RE 317 30:=kO.2.2.2
theorem int.xd (p:List Nat) (t:Nat):((t:Int)∈p.map Int.ofNat)↔t∈p:=by
 constructor
 ·intro h
  obtain ⟨k,hk,e⟩:=ZV.1 h;have:k=t:=by have e':(k:Int)=(t:Int):=e;omega
  rw [←this];exact hk
 ·intro h
  exact ZV.2 ⟨t,h,rfl⟩
def int.checked {σ:Type} (E:bD σ) (t n cap:Nat):bU σ:=if E.gB=(E.th t).stamp then bU.enter {E.th t with aK:=(E.th t).waiting n} (if t∈(E.th t).waiting n then 8 else 11) else (E.th t).fail cap
def CD (SR:Type→Type) (RE:lA SR) (aE:BX SR) (n0 n1:Nat):Prop:=∀ {σ:Type} {R:SR σ} {L:Lt} {S:Nat→Prop} {E:bD σ} {w:World} {t:Nat} (_h:RE R L S E w) (_ht:t<L.n) (_hN:E.gB≤1000000000) (_hs:(E.th t).stamp≤1000000000) (_hp:E.prec<129) (_hr:(E.th t).cG<129) (_hb:(E.th t).aG≤L.cap) (_hw:E.gB=(E.th t).stamp→∀ k,k<M.tw L.n→JK ((E.th t).tg k)∧JK ((E.th t).dw k)),Calls prog n0 #[.pointer (some ⟨L.g,t*n1,none⟩)] w fun e w'=>e = .returned (.tuple #[])∧aE R L S w {E with th:=aM E.th t (checked E t L.n L.cap)} w'
open row in
theorem oC:CD int.SR @int.RE @int.aE 210 28∧CD list.SR @list.RE @list.aE 269 28∧CD tree.SR @tree.RE @tree.aE 343 28∧CD row.SR @row.RE @row.aE 306 30:=by
 refine ⟨@mkK _ 0 ?_,@mkK _ 1 ?_,@mkK _ 2 ?_,@mkK _ 3 ?_⟩<;>intro kk σ R L S E w t h ht hN hs hp hr hb hw
 all_goals
  obtain ⟨cv,cf,pv,hc,hcv,eP,-,-⟩:=h.cells ht rfl
  first|(have:=kA kk;obtain ⟨x0,x1,rfl⟩:=int.aF hcv.1)|(have:=kB kk;obtain ⟨x0,x1,rfl⟩:=int.aF hcv.1)|(have:=kC kk;obtain ⟨x0,x1,rfl⟩:=int.aF hcv.1)|(have:=kD kk;obtain ⟨x0,x1,x2,rfl⟩:=row.aF hcv.1)
  first|(have:=kA kk;obtain ⟨y0,y1,rfl⟩:=int.aF eP.1)|(have:=kB kk;obtain ⟨y0,y1,rfl⟩:=int.aF eP.1)|(have:=kC kk;obtain ⟨y0,y1,rfl⟩:=int.aF eP.1)|(have:=kD kk;obtain ⟨y0,y1,y2,rfl⟩:=row.aF eP.1)
  have hn:=h.ok.n64
  first|(have:=kA kk;have c0:w.cell? ⟨L.g,t*28,none⟩=some (.pointer (some ⟨L.bS,0,none⟩)):=hc 0 _ (by decide) rfl)|(have:=kB kk;have c0:w.cell? ⟨L.g,t*28,none⟩=some (.pointer (some ⟨L.bS,0,none⟩)):=hc 0 _ (by decide) rfl)|(have:=kC kk;have c0:w.cell? ⟨L.g,t*28,none⟩=some (.pointer (some ⟨L.bS,0,none⟩)):=hc 0 _ (by decide) rfl)|(have:=kD kk;have c0:w.cell? ⟨L.g,t*30,none⟩=some (.pointer (some ⟨L.bS,0,none⟩)):=hc 0 _ (by decide) rfl)
  have c13:=hc 13 _ (by decide) rfl;have s5:w.cell? ⟨L.bS,5,none⟩=some (.int .i64 ((E.gB:Int)*129+(E.prec:Int))):=h.sh.cell_of rfl;have hq1:((E.gB:Int)*129+(E.prec:Int)) / 129=(E.gB:Int):=by omega
  have hq2:(((E.th t).stamp:Int)*129+((E.th t).cG:Int)) / 129=((E.th t).stamp:Int):=by omega
  have A0:=aA (fun n=>tA (n:=n) (CR L.bS 5 _ (w.drewN n) s5));have A1:=aA (fun n=>tA (n:=n) (yA ((E.gB:Int)*129+(E.prec:Int)) (w.drewN n) (by omega) (by omega)));have A2:=aA (fun n=>tA (n:=n) (yA (((E.th t).stamp:Int)*129+((E.th t).cG:Int)) (w.drewN n) (by omega) (by omega)));rw [hq1] at A1;rw [hq2] at A2;have HH:=aA h;have HW:=aA hw;clear h hc hcv eP hq1 hq2 hw
  by_cases hst:E.gB=(E.th t).stamp
  ·have aRt:(E.gB:Int)≤((E.th t).stamp:Int):=by omega
   have aRu:((E.th t).stamp:Int)≤(E.gB:Int):=by omega
   have HW2:=aA (HW.out hst);have yh:=aA hst;clear hst
   first|(have:=kA kk;go_enter func210,ntmps210)|(have:=kB kk;go_enter func269,ntmps269)|(have:=kC kk;go_enter func343,ntmps343)|(have:=kD kk;go_enter func306,ntmps306)
   go_wp2;go_quiet ((first|(go_at_call 218;with_reducible exact A0.out _)|(go_at_call 226;first|(with_reducible exact A1.out _)|(with_reducible exact A2.out _))));generalize sZ:World.drewN w nq=W1;have yG:RE R L S E W1:=by rw [←sZ];exact HH.out.drewN nq
   have AE:Fr L.own w W1:=by rw [←sZ];exact (Fr.refl _ w).drewN nq
   have pX:=aA yG;have HK1:=aA AE;clear sZ yG AE c0 c13 s5;go_wp2_with fail;refine (DD pX.out ht HW2.out).mono ?_;rintro e w2 ⟨v,rfl,hO,bI⟩;have pU:(((E.th t).waiting L.n).map Int.ofNat).length≤1048576:=by
    have:((E.th t).waiting L.n).length≤L.n:=SU (E.th t) L.n;simp;omega
   generalize hpe:(E.th t).waiting L.n=p at *;have HPE:=aA hpe;clear hpe;have JS:=aE.below pX.out bI;have WV:=aFz hO;have hlen:(ints (p.map Int.ofNat)).length=p.length:=by simp [ints]
   first|(have:=kA kk;refine (have hpr:EH (fun k=>grown S W1 w2 k∧¬L.own k) w2 p v∧(∃ a n c,v = .slice a n c)∧∀ u:Value,Sl (w2.setCell ⟨L.g,t*28+20,none⟩ u) v (ints (p.map Int.ofNat)):=?_;?_))|(have:=kB kk;refine (have hpr:EH (fun k=>grown S W1 w2 k∧¬L.own k) w2 p v∧(∃ a n c,v = .slice a n c)∧∀ u:Value,Sl (w2.setCell ⟨L.g,t*28+20,none⟩ u) v (ints (p.map Int.ofNat)):=?_;?_))|(have:=kC kk;refine (have hpr:EH (fun k=>grown S W1 w2 k∧¬L.own k) w2 p v∧(∃ a n c,v = .slice a n c)∧∀ u:Value,Sl (w2.setCell ⟨L.g,t*28+20,none⟩ u) v (ints (p.map Int.ofNat)):=?_;?_))|(have:=kD kk;refine (have hpr:EH (fun k=>grown S W1 w2 k∧¬L.own k) w2 p v∧(∃ a n c,v = .slice a n c)∧∀ u:Value,Sl (w2.setCell ⟨L.g,t*30+22,none⟩ u) v (ints (p.map Int.ofNat)):=?_;?_))
   ·rcases hO.2 with ⟨rfl,hn0⟩|⟨gp,cap,cur,rfl,hge,aQR,vg,-⟩
    ·obtain rfl:p=[]:=List.eq_nil_of_length_eq_zero hn0
     exact ⟨.inl ⟨rfl,rfl⟩,⟨_,_,_,rfl⟩,fun u=>Sl.nil _⟩
    ·have uL:L.g<W1.heap.size:=pX.out.lt _ (pX.out.ow _ pI)
     have hlt:gp<w2.heap.size:=(hO.lt gp rfl).2;refine ⟨.inr ⟨gp,_,_,⟨.inr ⟨hge,hlt⟩,fun q=>by have:=pX.out.lt _ (pX.out.ow _ q);omega⟩,rfl,WV⟩,⟨_,_,_,rfl⟩,fun u=>Sl.block rfl WV (cZ w2 _ u gp (by show gp≠L.g;omega))⟩
   obtain ⟨aE6,⟨va,vn,vc,rfl⟩,aA1⟩:=hpr;have hr3:=JS.re.GX t ht (.slice va vn vc) p aE6 {E.th t with aK:=p} rfl rfl rfl;obtain ⟨cv,cf,pv,hc,hcv,eP,-,hfz⟩:=JS.re.cells ht rfl
   first|(have:=kA kk;obtain ⟨c0,c1,rfl⟩:=int.aF hcv.1)|(have:=kB kk;obtain ⟨c0,c1,rfl⟩:=int.aF hcv.1)|(have:=kC kk;obtain ⟨c0,c1,rfl⟩:=int.aF hcv.1)|(have:=kD kk;obtain ⟨c0,c1,c2,rfl⟩:=row.aF hcv.1)
   first|(have:=kA kk;obtain ⟨d0,d1,rfl⟩:=int.aF eP.1)|(have:=kB kk;obtain ⟨d0,d1,rfl⟩:=int.aF eP.1)|(have:=kC kk;obtain ⟨d0,d1,rfl⟩:=int.aF eP.1)|(have:=kD kk;obtain ⟨d0,d1,d2,rfl⟩:=row.aF eP.1)
   first|(have:=kA kk;have yl:=hc 20 _ (by decide) rfl)|(have:=kB kk;have yl:=hc 20 _ (by decide) rfl)|(have:=kC kk;have yl:=hc 20 _ (by decide) rfl)|(have:=kD kk;have yl:=hc 22 _ (by decide) rfl)
   first|(have:=kA kk;have fpv:=hfz (t*28+20))|(have:=kB kk;have fpv:=hfz (t*28+20))|(have:=kC kk;have fpv:=hfz (t*28+20))|(have:=kD kk;have fpv:=hfz (t*30+22))
   have b1:=hc 1 _ (by decide) rfl
   first|(have:=kA kk;have A3:=aA (fun n=>tA (n:=n) (zH (p.map Int.ofNat) (.slice va vn vc) (t:Int) ((w2.setCell ⟨L.g,t*28+20,none⟩ (.slice va vn vc)).drewN n) ((aA1 _).drewN) pU)))|(have:=kB kk;have A3:=aA (fun n=>tA (n:=n) (zH (p.map Int.ofNat) (.slice va vn vc) (t:Int) ((w2.setCell ⟨L.g,t*28+20,none⟩ (.slice va vn vc)).drewN n) ((aA1 _).drewN) pU)))|(have:=kC kk;have A3:=aA (fun n=>tA (n:=n) (zH (p.map Int.ofNat) (.slice va vn vc) (t:Int) ((w2.setCell ⟨L.g,t*28+20,none⟩ (.slice va vn vc)).drewN n) ((aA1 _).drewN) pU)))|(have:=kD kk;have A3:=aA (fun n=>tA (n:=n) (zH (p.map Int.ofNat) (.slice va vn vc) (t:Int) ((w2.setCell ⟨L.g,t*30+22,none⟩ (.slice va vn vc)).drewN n) ((aA1 _).drewN) pU)))
   rw [show decide ((t:Int)∈p.map Int.ofNat)=decide (t∈p) by rw [decide_eq_decide];exact xd p t] at A3;have H3:=aA hr3;have NB:=aA JS;have HP:=aA aE6;clear hO bI JS WV aE6 aA1 hr3 hc hcv eP hfz hlen;go_wp2;go_quiet ((go_at_call 229;with_reducible exact A3.out _));have HR4:=aA (H3.out.drewN nq)
   first
    |have:=kA kk
     have HK4:=aA (show int.aE R L S w {E with th:=aM E.th t {E.th t with aK:=p}} ((w2.setCell ⟨L.g,t*28+20,none⟩ (.slice va vn vc)).drewN nq) from (int.aE.of pX.out HK1.out rfl).next (by
      have q:=NB.out.next (int.aE.of H3.out (Fr.set w2 pI _) rfl);exact ⟨(q.re.drewN nq).mono (fun k hk=>by rcases hk with hk|hk;exact .inl (.inl hk);exact .inr hk) (fun k hk=>by rcases hk with hk|hk;rcases hk with hk|hk;exact q.re.lt k (.inl hk);exact cH hk.2 q.fr.size;exact hk.2),q.fr.drewN nq⟩))
    |have:=kB kk
     have HK4:=aA (show list.aE R L S w {E with th:=aM E.th t {E.th t with aK:=p}} ((w2.setCell ⟨L.g,t*28+20,none⟩ (.slice va vn vc)).drewN nq) from (list.aE.of pX.out HK1.out rfl).next (by
      have q:=NB.out.next (list.aE.of H3.out (Fr.set w2 pI _) rfl);exact ⟨(q.re.drewN nq).mono (fun k hk=>by rcases hk with hk|hk;exact .inl (.inl hk);exact .inr hk) (fun k hk=>by rcases hk with hk|hk;rcases hk with hk|hk;exact q.re.lt k (.inl hk);exact cH hk.2 q.fr.size;exact hk.2),q.fr.drewN nq⟩))
    |have:=kC kk
     have HK4:=aA (show tree.aE R L S w {E with th:=aM E.th t {E.th t with aK:=p}} ((w2.setCell ⟨L.g,t*28+20,none⟩ (.slice va vn vc)).drewN nq) from (tree.aE.of pX.out HK1.out rfl).next (by
      have q:=NB.out.next (tree.aE.of H3.out (Fr.set w2 pI _) rfl);exact ⟨(q.re.drewN nq).mono (fun k hk=>by rcases hk with hk|hk;exact .inl (.inl hk);exact .inr hk) (fun k hk=>by rcases hk with hk|hk;rcases hk with hk|hk;exact q.re.lt k (.inl hk);exact cH hk.2 q.fr.size;exact hk.2),q.fr.drewN nq⟩))
    |have:=kD kk
     have HK4:=aA (show row.aE R L S w {E with th:=aM E.th t {E.th t with aK:=p}} ((w2.setCell ⟨L.g,t*30+22,none⟩ (.slice va vn vc)).drewN nq) from (row.aE.of pX.out HK1.out rfl).next (by
      have q:=NB.out.next (row.aE.of H3.out (Fr.set w2 pI _) rfl);exact ⟨(q.re.drewN nq).mono (fun k hk=>by rcases hk with hk|hk;exact .inl (.inl hk);exact .inr hk) (fun k hk=>by rcases hk with hk|hk;rcases hk with hk|hk;exact q.re.lt k (.inl hk);exact cH hk.2 q.fr.size;exact hk.2),q.fr.drewN nq⟩))
   clear HR4
   by_cases hm:t∈p
   ·rw [kE hm]
    have HM:=aA hm;clear hm;go_wp2_with fail;refine (gV HK4.out.re ht 8).mono ?_;rintro e w4 ⟨rfl,r4,k4⟩;have HR:=aA (aP r4 k4);clear r4 k4;go_wp2;refine cW (v:=.tuple #[]) (by simp [results,results210,results269,results343,results306,go_sem]) rfl ⟨rfl,HK4.out.next (aE.of (HR.out.1.cast ?_) HR.out.2 rfl)⟩;unfold checked;rw [aJ yh.out,HPE.out,aJ HM.out];simp only [cU,aC]
   ·rw [decide_eq_false hm]
    have HM:=aA hm;clear hm;go_wp2_with fail;refine (gV HK4.out.re ht 11).mono ?_;rintro e w4 ⟨rfl,r4,k4⟩;have HR:=aA (aP r4 k4);clear r4 k4;go_wp2;refine cW (v:=.tuple #[]) (by simp [results,results210,results269,results343,results306,go_sem]) rfl ⟨rfl,HK4.out.next (aE.of (HR.out.1.cast ?_) HR.out.2 rfl)⟩;unfold checked;rw [aJ yh.out,HPE.out,aN HM.out];simp only [cU,aC]
  ·have aRs:¬(E.gB:Int)=((E.th t).stamp:Int):=by omega
   have yh:=aA hst;clear hst
   first|(have:=kA kk;go_enter func210,ntmps210)|(have:=kB kk;go_enter func269,ntmps269)|(have:=kC kk;go_enter func343,ntmps343)|(have:=kD kk;go_enter func306,ntmps306)
   go_wp2;go_quiet ((first|(go_at_call 218;with_reducible exact A0.out _)|(go_at_call 226;first|(with_reducible exact A1.out _)|(with_reducible exact A2.out _))));go_wp2_with fail;refine (NY (HH.out.drewN nq) ht hb).mono ?_;rintro e w4 ⟨rfl,r4,k4⟩;have HR:=aA (aP r4 k4);clear r4 k4;go_wp2;refine cR (v:=.tuple #[]) (by simp [results,results210,results269,results343,results306,go_sem]) rfl ⟨rfl,aE.of (HR.out.1.cast ?_) (((Fr.refl L.own w).drewN nq).trans HR.out.2) rfl⟩;unfold checked;rw [aN yh.out]
theorem int.MI:CD int.SR @int.RE @int.aE 210 28:=oC.1
theorem list.MI:CD list.SR @list.RE @list.aE 269 28:=oC.2.1
theorem tree.MI:CD tree.SR @tree.RE @tree.aE 343 28:=oC.2.2.1
theorem row.MI:CD row.SR @row.RE @row.aE 306 30:=oC.2.2.2
end Go.Proofs.YtefjhnhdagolhaaGreat
