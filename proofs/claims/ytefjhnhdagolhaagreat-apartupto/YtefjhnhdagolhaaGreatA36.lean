import Derived.Test.YtefjhnhdagolhaaGreatA35
import Derived.Test.YtefjhnhdagolhaaGreatA33
set_option maxHeartbeats 16000000
set_option maxRecDepth 20000
namespace Go.Proofs.YtefjhnhdagolhaaGreat
open Tryz
open int list tree
open Go.RowKit
open M (aM aC aD Op eX bU bD bC aL aQ)
attribute [local go_sem ↓] Go.wp_at_zero Go.wp_at_succ
theorem int.RE.mI {σ:Type} {R:SR σ} {L:Lt} {S:Nat→Prop} {t:Nat} (ht:t<L.n):∀ (vs:List Int) (o:Nat) (E:bD σ) (w:World),RE R L S E w→RE R L S {E with th:=aM E.th t {E.th t with dw:=fun i=>if o≤i∧i<o+vs.length then vs.getD (i-o) 0 else (E.th t).dw i}} (w.setCells (L.gD t) o (ints vs))∧Fr L.own w (w.setCells (L.gD t) o (ints vs))
 |[],o,E,w,h=>by
  refine ⟨h.cast ?_,Fr.refl _ w⟩;have e:(fun i=>if o≤i∧i<o+([]:List Int).length then ([]:List Int).getD (i-o) 0 else (E.th t).dw i)=(E.th t).dw:=by
   funext i
   rw [aN (by simp)]
  rw [e];have u:aM E.th t (E.th t)=E.th:=by funext k;unfold aM;split<;>simp_all
  rw [u]
 |v::vs,o,E,w,h=>by
  have r1:=h.iG t ht o v;obtain ⟨r2,k2⟩:=RE.mI ht vs (o+1) _ _ r1;refine ⟨r2.cast ?_,(Fr.set w (vA ht) _).trans k2⟩;simp only [cU,aC];congr 2;have e:(fun i=>if o+1≤i∧i<o+1+vs.length then vs.getD (i-(o+1)) 0 else aM (E.th t).dw o v i)=fun i=>if o≤i∧i<o+(v::vs).length then (v::vs).getD (i-o) 0 else (E.th t).dw i:=by
   funext i
   simp only [eM]
   by_cases q:i=o
   ·subst q
    rw [aN (by omega),aJ (by omega),aC];simp
   ·rw [aD _ _ q]
    by_cases q2:o+1≤i∧i<o+1+vs.length
    ·rw [aJ q2,aJ (by omega),show i-o=(i-(o+1))+1 by omega]
     simp
    ·rw [aN q2,aN (by omega)]
  rw [e]
theorem list.RE.mI {σ:Type} {R:SR σ} {L:Lt} {S:Nat→Prop} {t:Nat} (ht:t<L.n):∀ (vs:List Int) (o:Nat) (E:bD σ) (w:World),RE R L S E w→RE R L S {E with th:=aM E.th t {E.th t with dw:=fun i=>if o≤i∧i<o+vs.length then vs.getD (i-o) 0 else (E.th t).dw i}} (w.setCells (L.gD t) o (ints vs))∧Fr L.own w (w.setCells (L.gD t) o (ints vs))
 |[],o,E,w,h=>by
  refine ⟨h.cast ?_,Fr.refl _ w⟩;have e:(fun i=>if o≤i∧i<o+([]:List Int).length then ([]:List Int).getD (i-o) 0 else (E.th t).dw i)=(E.th t).dw:=by
   funext i
   rw [aN (by simp)]
  rw [e];have u:aM E.th t (E.th t)=E.th:=by funext k;unfold aM;split<;>simp_all
  rw [u]
 |v::vs,o,E,w,h=>by
  have r1:=h.iG t ht o v;obtain ⟨r2,k2⟩:=RE.mI ht vs (o+1) _ _ r1;refine ⟨r2.cast ?_,(Fr.set w (vA ht) _).trans k2⟩;simp only [cU,aC];congr 2;have e:(fun i=>if o+1≤i∧i<o+1+vs.length then vs.getD (i-(o+1)) 0 else aM (E.th t).dw o v i)=fun i=>if o≤i∧i<o+(v::vs).length then (v::vs).getD (i-o) 0 else (E.th t).dw i:=by
   funext i
   simp only [eM]
   by_cases q:i=o
   ·subst q
    rw [aN (by omega),aJ (by omega),aC];simp
   ·rw [aD _ _ q]
    by_cases q2:o+1≤i∧i<o+1+vs.length
    ·rw [aJ q2,aJ (by omega),show i-o=(i-(o+1))+1 by omega]
     simp
    ·rw [aN q2,aN (by omega)]
  rw [e]
theorem tree.RE.mI {σ:Type} {R:SR σ} {L:Lt} {S:Nat→Prop} {t:Nat} (ht:t<L.n):∀ (vs:List Int) (o:Nat) (E:bD σ) (w:World),RE R L S E w→RE R L S {E with th:=aM E.th t {E.th t with dw:=fun i=>if o≤i∧i<o+vs.length then vs.getD (i-o) 0 else (E.th t).dw i}} (w.setCells (L.gD t) o (ints vs))∧Fr L.own w (w.setCells (L.gD t) o (ints vs))
 |[],o,E,w,h=>by
  refine ⟨h.cast ?_,Fr.refl _ w⟩;have e:(fun i=>if o≤i∧i<o+([]:List Int).length then ([]:List Int).getD (i-o) 0 else (E.th t).dw i)=(E.th t).dw:=by
   funext i
   rw [aN (by simp)]
  rw [e];have u:aM E.th t (E.th t)=E.th:=by funext k;unfold aM;split<;>simp_all
  rw [u]
 |v::vs,o,E,w,h=>by
  have r1:=h.iG t ht o v;obtain ⟨r2,k2⟩:=RE.mI ht vs (o+1) _ _ r1;refine ⟨r2.cast ?_,(Fr.set w (vA ht) _).trans k2⟩;simp only [cU,aC];congr 2;have e:(fun i=>if o+1≤i∧i<o+1+vs.length then vs.getD (i-(o+1)) 0 else aM (E.th t).dw o v i)=fun i=>if o≤i∧i<o+(v::vs).length then (v::vs).getD (i-o) 0 else (E.th t).dw i:=by
   funext i
   simp only [eM]
   by_cases q:i=o
   ·subst q
    rw [aN (by omega),aJ (by omega),aC];simp
   ·rw [aD _ _ q]
    by_cases q2:o+1≤i∧i<o+1+vs.length
    ·rw [aJ q2,aJ (by omega),show i-o=(i-(o+1))+1 by omega]
     simp
    ·rw [aN q2,aN (by omega)]
  rw [e]
theorem row.RE.mI {σ:Type} {R:SR σ} {L:Lt} {S:Nat→Prop} {t:Nat} (ht:t<L.n):∀ (vs:List Int) (o:Nat) (E:bD σ) (w:World),RE R L S E w→RE R L S {E with th:=aM E.th t {E.th t with dw:=fun i=>if o≤i∧i<o+vs.length then vs.getD (i-o) 0 else (E.th t).dw i}} (w.setCells (L.gD t) o (ints vs))∧Fr L.own w (w.setCells (L.gD t) o (ints vs))
 |[],o,E,w,h=>by
  refine ⟨h.cast ?_,Fr.refl _ w⟩;have e:(fun i=>if o≤i∧i<o+([]:List Int).length then ([]:List Int).getD (i-o) 0 else (E.th t).dw i)=(E.th t).dw:=by
   funext i
   rw [aN (by simp)]
  rw [e];have u:aM E.th t (E.th t)=E.th:=by funext k;unfold aM;split<;>simp_all
  rw [u]
 |v::vs,o,E,w,h=>by
  have r1:=h.iG t ht o v;obtain ⟨r2,k2⟩:=RE.mI ht vs (o+1) _ _ r1;refine ⟨r2.cast ?_,(Fr.set w (vA ht) _).trans k2⟩;simp only [cU,aC];congr 2;have e:(fun i=>if o+1≤i∧i<o+1+vs.length then vs.getD (i-(o+1)) 0 else aM (E.th t).dw o v i)=fun i=>if o≤i∧i<o+(v::vs).length then (v::vs).getD (i-o) 0 else (E.th t).dw i:=by
   funext i
   simp only [eM]
   by_cases q:i=o
   ·subst q
    rw [aN (by omega),aJ (by omega),aC];simp
   ·rw [aD _ _ q]
    by_cases q2:o+1≤i∧i<o+1+vs.length
    ·rw [aJ q2,aJ (by omega),show i-o=(i-(o+1))+1 by omega]
     simp
    ·rw [aN q2,aN (by omega)]
  rw [e]
def AV (SR:Type→Type) (aE:BX SR) (aAf:{σ:Type}→SR σ→(Nat→Prop)→World→σ→List Value→Prop):Prop:=∀ {σ:Type} {R:SR σ} {L:Lt} {S:Nat→Prop} {E:bD σ} {w:World} {t:Nat} (_ht:t<L.n) {wc W3:World} {gp pl pc bv bf:Nat} {a0 b0:Value} {v f:eX σ} (_hL:aE R L S w {E with th:=aM E.th t {E.th t with dw:=fun i=>if i<M.tw L.n then (E.th t).tg i else (E.th t).dw i}} wc) (_hb3:Below wc.heap.size wc W3) (_aND:Row W3 wc.heap.size 306 [.int .i64 (((E.th t).stamp+1:Nat):Int),.slice (some ⟨gp,0,none⟩) pl pc,.pointer (some ⟨bf,0,none⟩)]) (_hIp:grown S w wc gp∧¬L.own gp) (_hsl:Sl wc (.slice (some ⟨gp,0,none⟩) pl pc) (ints ((E.th t).aK.map Int.ofNat))) (_hrv:(aAf R) (fun k=>grown S w wc k∧¬L.own k) wc v.st [a0]) (_hrf:(aAf R) (fun k=>grown S w wc k∧¬L.own k) wc f.st [b0]) (_hbf:dX (fun k=>grown S w wc k∧¬L.own k) wc f.bs.reverse bf) (_hX:∀ j,j<2*(1+1)→wc.cell? ⟨L.g,t*28+(15+j),none⟩=(([a0]++[.pointer (some ⟨bv,0,none⟩)])++([b0]++[.pointer (some ⟨bf,0,none⟩)]))[j]?) (_hv:(E.th t).now=some v) (_hf:(E.th t).fD=some f),aE R L S w {E with th:=aM E.th t (bU.close L.n (E.th t))} (W3.setCell ⟨L.g,t*28+16,none⟩ (.pointer (some ⟨wc.heap.size,0,none⟩)))
theorem oD:AV int.SR @int.aE @int.SR.rep∧AV list.SR @list.aE @list.SR.rep∧AV tree.SR @tree.aE @tree.SR.rep:=by
 refine ⟨@mkK _ 0 ?_,@mkK _ 1 ?_,@mkK _ 2 ?_⟩<;>intro kk σ R L S E w t ht wc W3 gp pl pc bv bf a0 b0 v f hL cP hrow ak WV hrv hrf yp hX hv hf
 all_goals
  have hLb:=aE.below hL.re cP;have uL:L.g<wc.heap.size:=hL.re.lt _ (hL.re.ow _ pI);have hst:∀ k,(grown S w wc k∧¬L.own k)→k<wc.heap.size→(grown (grown S w wc) wc W3 k∧¬L.own k)∧W3.heap[k]?=wc.heap[k]?:=fun k hk hlt=>⟨⟨.inl hk.1,hk.2⟩,cP.block k hlt⟩
  have hI:∀ k,(grown S w wc k∧¬L.own k)→k<wc.heap.size:=fun k hk=>hL.re.lt k hk.1
  have vr:bH R (fun k=>grown (grown S w wc) wc W3 k∧¬L.own k) W3 {v with bs:=f.bs++[((E.th t).stamp+1,(E.th t).aK)]} ([a0]++[.pointer (some ⟨wc.heap.size,0,none⟩)]):=by
   refine ⟨[a0],wc.heap.size,rfl,R.stay hst hrv,?_⟩;show dX _ W3 (f.bs++[((E.th t).stamp+1,(E.th t).aK)]).reverse wc.heap.size;rw [List.reverse_append]
   first|(have:=kA kk;exact ⟨_,bf,⟨.inr ⟨bQ _,hrow.lt⟩,fun q=>by have:=hL.re.lt _ (hL.re.ow _ q);omega⟩,hrow,⟨gp,(hst gp ak (hI gp ak)).1,Sl.stay rfl WV (fun q=>(hst gp ak q).2),_,_,rfl⟩,int.dX.stay hst hI _ _ yp⟩)|(have:=kB kk;exact ⟨_,bf,⟨.inr ⟨bQ _,hrow.lt⟩,fun q=>by have:=hL.re.lt _ (hL.re.ow _ q);omega⟩,hrow,⟨gp,(hst gp ak (hI gp ak)).1,Sl.stay rfl WV (fun q=>(hst gp ak q).2),_,_,rfl⟩,list.dX.stay hst hI _ _ yp⟩)|(have:=kC kk;exact ⟨_,bf,⟨.inr ⟨bQ _,hrow.lt⟩,fun q=>by have:=hL.re.lt _ (hL.re.ow _ q);omega⟩,hrow,⟨gp,(hst gp ak (hI gp ak)).1,Sl.stay rfl WV (fun q=>(hst gp ak q).2),_,_,rfl⟩,tree.dX.stay hst hI _ _ yp⟩)
  first|(have:=kA kk;have fr:int.bH R (fun k=>grown (grown S w wc) wc W3 k∧¬L.own k) W3 f ([b0]++[.pointer (some ⟨bf,0,none⟩)]):=⟨[b0],bf,rfl,R.stay hst hrf,int.dX.stay hst hI _ _ yp⟩)|(have:=kB kk;have fr:list.bH R (fun k=>grown (grown S w wc) wc W3 k∧¬L.own k) W3 f ([b0]++[.pointer (some ⟨bf,0,none⟩)]):=⟨[b0],bf,rfl,R.stay hst hrf,list.dX.stay hst hI _ _ yp⟩)|(have:=kC kk;have fr:tree.bH R (fun k=>grown (grown S w wc) wc W3 k∧¬L.own k) W3 f ([b0]++[.pointer (some ⟨bf,0,none⟩)]):=⟨[b0],bf,rfl,R.stay hst hrf,tree.dX.stay hst hI _ _ yp⟩)
  obtain ⟨r2,k2⟩:=hLb.re.mJ ht [.pointer (some ⟨wc.heap.size,0,none⟩)] 1 (by simp) (by simp) vr fr (fun j hj=>by
   by_cases q:j=1
   ·subst q
    rfl
   ·rw [aN (by simp;omega),cP.cell (p:=⟨L.g,t*28+(15+j),none⟩) uL,hX j hj]
    rcases (by omega:j=0∨j=1∨j=2∨j=3) with q2|q2|q2|q2<;>subst q2<;>first|rfl|exact absurd rfl q) (bU.close L.n (E.th t)) (by
   simp only [aC];unfold bU.close;rw [hv,hf];rfl)
  have:=hL.next (hLb.next (aE.of r2 k2 rfl));refine this.cast ?_;simp only [cU]
theorem int.CE:AV int.SR @int.aE @int.SR.rep:=oD.1
theorem list.CE:AV list.SR @list.aE @list.SR.rep:=oD.2.1
theorem tree.CE:AV tree.SR @tree.aE @tree.SR.rep:=oD.2.2
theorem row.CE {σ:Type} {R:SR σ} {L:Lt} {S:Nat→Prop} {E:bD σ} {w:World} {t:Nat} (ht:t<L.n) {wc W3:World} {gp pl pc bv bf:Nat} {a0 a1 b0 b1:Value} {v f:eX σ}
  (hL:aE R L S w {E with th:=aM E.th t {E.th t with dw:=fun i=>if i<M.tw L.n then (E.th t).tg i else (E.th t).dw i}} wc) (cP:Below wc.heap.size wc W3)
  (hrow:Row W3 wc.heap.size 306 [.int .i64 (((E.th t).stamp+1:Nat):Int),.slice (some ⟨gp,0,none⟩) pl pc,.pointer (some ⟨bf,0,none⟩)]) (ak:grown S w wc gp∧¬L.own gp) (WV:Sl wc (.slice (some ⟨gp,0,none⟩) pl pc) (ints ((E.th t).aK.map Int.ofNat)))
  (hrv:R.rep (fun k=>grown S w wc k∧¬L.own k) wc v.st [a0,a1]) (hrf:R.rep (fun k=>grown S w wc k∧¬L.own k) wc f.st [b0,b1]) (yp:dX (fun k=>grown S w wc k∧¬L.own k) wc f.bs.reverse bf)
  (hX:∀ j,j<2*(2+1)→wc.cell? ⟨L.g,t*30+(15+j),none⟩=(([a0,a1]++[.pointer (some ⟨bv,0,none⟩)])++([b0,b1]++[.pointer (some ⟨bf,0,none⟩)]))[j]?) (hv:(E.th t).now=some v) (hf:(E.th t).fD=some f) :
  aE R L S w {E with th:=aM E.th t (bU.close L.n (E.th t))} (W3.setCell ⟨L.g,t*30+17,none⟩ (.pointer (some ⟨wc.heap.size,0,none⟩))):=by
 have hLb:=aE.below hL.re cP;have uL:L.g<wc.heap.size:=hL.re.lt _ (hL.re.ow _ pI);have hst:∀ k,(grown S w wc k∧¬L.own k)→k<wc.heap.size→(grown (grown S w wc) wc W3 k∧¬L.own k)∧W3.heap[k]?=wc.heap[k]?:=fun k hk hlt=>⟨⟨.inl hk.1,hk.2⟩,cP.block k hlt⟩
 have hI:∀ k,(grown S w wc k∧¬L.own k)→k<wc.heap.size:=fun k hk=>hL.re.lt k hk.1
 have vr:bH R (fun k=>grown (grown S w wc) wc W3 k∧¬L.own k) W3 {v with bs:=f.bs++[((E.th t).stamp+1,(E.th t).aK)]} ([a0,a1]++[.pointer (some ⟨wc.heap.size,0,none⟩)]):=by
  refine ⟨[a0,a1],wc.heap.size,rfl,R.stay hst hrv,?_⟩;show dX _ W3 (f.bs++[((E.th t).stamp+1,(E.th t).aK)]).reverse wc.heap.size;rw [List.reverse_append];exact ⟨_,bf,⟨.inr ⟨bQ _,hrow.lt⟩,fun q=>by have:=hL.re.lt _ (hL.re.ow _ q);omega⟩,hrow,⟨gp,(hst gp ak (hI gp ak)).1,Sl.stay rfl WV (fun q=>(hst gp ak q).2),_,_,rfl⟩,dX.stay hst hI _ _ yp⟩
 have fr:bH R (fun k=>grown (grown S w wc) wc W3 k∧¬L.own k) W3 f ([b0,b1]++[.pointer (some ⟨bf,0,none⟩)]):=⟨[b0,b1],bf,rfl,R.stay hst hrf,dX.stay hst hI _ _ yp⟩;obtain ⟨r2,k2⟩:=hLb.re.mJ ht [.pointer (some ⟨wc.heap.size,0,none⟩)] 2 (by simp) (by simp) vr fr (fun j hj=>by
  by_cases q:j=2
  ·subst q
   rfl
  ·rw [aN (by simp;omega),cP.cell (p:=⟨L.g,t*30+(15+j),none⟩) uL,hX j hj]
   rcases (by omega:j=0∨j=1∨j=2∨j=3∨j=4∨j=5) with q2|q2|q2|q2|q2|q2<;>subst q2<;>first|rfl|exact absurd rfl q) (bU.close L.n (E.th t)) (by
  simp only [aC];unfold bU.close;rw [hv,hf];rfl)
 have:=hL.next (hLb.next (aE.of r2 k2 rfl));refine this.cast ?_;simp only [cU]
def CG (SR:Type→Type) (RE:lA SR) (aE:BX SR) (n0 n1:Nat):Prop:=∀ {σ:Type} {R:SR σ} {L:Lt} {S:Nat→Prop} {E:bD σ} {w:World} {t:Nat} (_h:RE R L S E w) (_ht:t<L.n) (_hN:(E.th t).stamp≤1000000000) (_hr:(E.th t).cG<129) {v f:eX σ} (_hv:(E.th t).now=some v) (_hf:(E.th t).fD=some f) (_hp:(E.th t).aK≠[]),Calls prog n0 #[.pointer (some ⟨L.g,t*n1,none⟩)] w fun e w'=>e = .returned (.tuple #[])∧aE R L S w {E with th:=aM E.th t (bU.close L.n (E.th t))} w'
open row in
theorem oF:CG int.SR @int.RE @int.aE 231 28∧CG list.SR @list.RE @list.aE 282 28∧CG tree.SR @tree.RE @tree.aE 356 28∧CG row.SR @row.RE @row.aE 319 30:=by
 refine ⟨@mkK _ 0 ?_,@mkK _ 1 ?_,@mkK _ 2 ?_,@mkK _ 3 ?_⟩<;>intro kk σ R L S E w t h ht hN hr v f hv hf hp
 all_goals
  obtain ⟨cv,cf,pv,hc,hcv,eP,-,-⟩:=h.cells ht rfl
  first|(have:=kA kk;obtain ⟨x0,x1,rfl⟩:=int.aF hcv.1)|(have:=kB kk;obtain ⟨x0,x1,rfl⟩:=int.aF hcv.1)|(have:=kC kk;obtain ⟨x0,x1,rfl⟩:=int.aF hcv.1)|(have:=kD kk;obtain ⟨x0,x1,x2,rfl⟩:=row.aF hcv.1)
  first|(have:=kA kk;obtain ⟨y0,y1,rfl⟩:=int.aF eP.1)|(have:=kB kk;obtain ⟨y0,y1,rfl⟩:=int.aF eP.1)|(have:=kC kk;obtain ⟨y0,y1,rfl⟩:=int.aF eP.1)|(have:=kD kk;obtain ⟨y0,y1,y2,rfl⟩:=row.aF eP.1)
  have hn:=h.ok.n64;have htw:M.tw L.n≤M.bC L.n:=by unfold M.bC;omega
  have RU:M.bC L.n≤200:=by unfold M.bC M.tw;omega
  have c14:=hc 14 _ (by decide) rfl
  first|(have:=kA kk;have cg:=hc 19 _ (by decide) rfl)|(have:=kB kk;have cg:=hc 19 _ (by decide) rfl)|(have:=kC kk;have cg:=hc 19 _ (by decide) rfl)|(have:=kD kk;have cg:=hc 21 _ (by decide) rfl)
  have ngD:L.g≠L.gD t:=by obtain ⟨T,q,-⟩:=h.th;exact Row.apart q (h.gd t ht) (by decide)
  obtain ⟨yz,aA9⟩:∃ yz,yz=(List.range (M.tw L.n)).map (E.th t).tg:=⟨_,rfl⟩;have hlen:(ints yz).length=M.tw L.n:=by rw [aA9];simp [ints]
  have aKk:=aA (show ∀ j u,(ints yz)[j]?=some u→w.cell? ((⟨L.gG t,0,none⟩:Addr).add j)=some u from fun j u hj=>by
   have hj2:j<M.tw L.n:=by rw [←hlen];exact (AB.1 hj).1
   rw [gS,nJ,(h.gg t ht).cell hj2];rw [aA9,lC,sA,zY hj2] at hj;simpa using hj)
  have aJP:=aA (show ∀ j,j<(ints yz).length→(w.cell? ⟨L.gD t,0+j,none⟩).isSome=true from fun j hj=>by rw [nJ,(h.gd t ht).cell (by omega)];rfl);have HFZ:=aA (show ∀ j,j<(ints yz).length→w.frozen? ⟨L.gD t,0+j,none⟩=false from fun j _=>(h.gd t ht).frozen _);have hdw:(fun i=>if 0≤i∧i<0+yz.length then yz.getD (i-0) 0 else (E.th t).dw i)=fun i=>if i<M.tw L.n then (E.th t).tg i else (E.th t).dw i:=by
   have hl2:yz.length=M.tw L.n:=by simpa [ints] using hlen
   funext i
   rw [hl2]
   by_cases q:i<M.tw L.n
   ·rw [aJ ⟨aW _,by omega⟩,aJ q,aA9]
    simp [List.getD_eq_getElem?_getD,zY q]
   ·rw [aN (by omega),aN q]
  obtain ⟨r1,k1⟩:=RE.mI ht yz 0 E w.drew h.drew;rw [hdw] at r1;have H1:=aA (aE.of r1 (show Fr L.own w _ from ⟨k1.os,k1.tape,k1.output,k1.size,k1.block⟩) rfl);have HH:=aA h;have HC:=aA (aP hv (aP hf hp));have HTG:=aA aA9;have HLN:=aA hlen;clear h hc hcv eP hv hf hp r1 k1 hdw aA9 hlen
  first|(have:=kA kk;go_enter func231,ntmps231)|(have:=kB kk;go_enter func282,ntmps282)|(have:=kC kk;go_enter func356,ntmps356)|(have:=kD kk;go_enter func319,ntmps319)
  go_upto_region 0 with fail
  go_cut [11] (fun _ w'=>aE R L S w {E with th:=aM E.th t {E.th t with dw:=fun i=>if i<M.tw L.n then (E.th t).tg i else (E.th t).dw i}} w')
  case first =>
   first|(have:=kA kk;refine fH (S:=(fun w'=>w'.cell? ⟨L.g,t*28+14,none⟩=some (.slice (some ⟨L.gD t,0,none⟩) (M.bC L.n) (M.bC L.n))∧w'.cell? ⟨L.g,t*28+19,none⟩=some (.slice (some ⟨L.gG t,0,none⟩) (M.tw L.n) (M.tw L.n)))) 10 rfl (by kernel_rfl) ?_ (fun hHeld=>?_))|(have:=kB kk;refine fH (S:=(fun w'=>w'.cell? ⟨L.g,t*28+14,none⟩=some (.slice (some ⟨L.gD t,0,none⟩) (M.bC L.n) (M.bC L.n))∧w'.cell? ⟨L.g,t*28+19,none⟩=some (.slice (some ⟨L.gG t,0,none⟩) (M.tw L.n) (M.tw L.n)))) 10 rfl (by kernel_rfl) ?_ (fun hHeld=>?_))|(have:=kC kk;refine fH (S:=(fun w'=>w'.cell? ⟨L.g,t*28+14,none⟩=some (.slice (some ⟨L.gD t,0,none⟩) (M.bC L.n) (M.bC L.n))∧w'.cell? ⟨L.g,t*28+19,none⟩=some (.slice (some ⟨L.gG t,0,none⟩) (M.tw L.n) (M.tw L.n)))) 10 rfl (by kernel_rfl) ?_ (fun hHeld=>?_))|(have:=kD kk;refine fH (S:=(fun w'=>w'.cell? ⟨L.g,t*30+14,none⟩=some (.slice (some ⟨L.gD t,0,none⟩) (M.bC L.n) (M.bC L.n))∧w'.cell? ⟨L.g,t*30+21,none⟩=some (.slice (some ⟨L.gG t,0,none⟩) (M.tw L.n) (M.tw L.n)))) 10 rfl (by kernel_rfl) ?_ (fun hHeld=>?_))
   ·exact ⟨c14,cg⟩
   iterate 9 (refine tk 9 (by rfl) (by kernel_rfl) (by exact fun _ _ _ h=>h) (.inl ⟨by rfl,fun w hS=>by (try dsimp only at hS);go_simp;(try with_reducible rfl)⟩) (by assumption) ?_;try go_frame)
   refine cT 9 (by rfl) (by kernel_rfl) (fun K hK=>?_);refine RA rfl (.tmp 6) (.tmp 10) 22 22 rfl 3 underlying22 (by kernel_rfl) (L.gD t) 0 (M.bC L.n) (M.bC L.n) ⟨L.gG t,0,none⟩ (M.tw L.n) (M.tw L.n) rfl rfl (ints yz) (by rw [HLN.out];exact (Nat.min_eq_left htw).symm) aKk.out aJP.out HFZ.out (xX yz) ?_;refine hK.out _ _ ?_ (fun hHeld=>?_)
   ·exact ⟨(World.cell?_setCells_out _ _ _ _ _ (fun q _=>absurd q ngD)).trans hHeld.1,(World.cell?_setCells_out _ _ _ _ _ (fun q _=>absurd q ngD)).trans hHeld.2⟩
   clear hK K
   (try go_frame)
   refine cC (by kernel_rfl) ?_ _
   (try go_wp2_with fail)
   go_meet
   case rel=>exact H1.out
  case rest =>
   have hL:=hcut;obtain ⟨cv,cf,pv1,hc,hcv,eP,yu,-⟩:=hL.re.cells ht (aC _ _ _);have zM:=hcv.2 v HC.out.1;have hfr:=eP.2 f HC.out.2.1;obtain ⟨scv,bv,rfl,hrv,hbv⟩:=zM;obtain ⟨scf,bf,rfl,hrf,yp⟩:=hfr;have lv:=R.len hrv;have lf:=R.len hrf
   first|(have:=kA kk;obtain ⟨a0,rfl⟩:=uX lv)|(have:=kB kk;obtain ⟨a0,rfl⟩:=uX lv)|(have:=kC kk;obtain ⟨a0,rfl⟩:=uX lv)|(have:=kD kk;obtain ⟨a0,a1,rfl⟩:=OM lv)
   first|(have:=kA kk;obtain ⟨b0,rfl⟩:=uX lf)|(have:=kB kk;obtain ⟨b0,rfl⟩:=uX lf)|(have:=kC kk;obtain ⟨b0,rfl⟩:=uX lf)|(have:=kD kk;obtain ⟨b0,b1,rfl⟩:=OM lf)
   have e13:=hc 13 _ (by decide) rfl
   first|(have:=kA kk;have epv:=hc 20 _ (by decide) rfl)|(have:=kB kk;have epv:=hc 20 _ (by decide) rfl)|(have:=kC kk;have epv:=hc 20 _ (by decide) rfl)|(have:=kD kk;have epv:=hc 22 _ (by decide) rfl)
   first|(have:=kA kk;have efl:=hc 18 _ (by decide) rfl)|(have:=kB kk;have efl:=hc 18 _ (by decide) rfl)|(have:=kC kk;have efl:=hc 18 _ (by decide) rfl)|(have:=kD kk;have efl:=hc 20 _ (by decide) rfl)
   first|(have:=kA kk;have eth:wc.there L.g (t*28+16) 1:=by obtain ⟨T,q,-⟩:=hL.re.th;exact q.there (cH ht hL.re.ok.gn) (by decide))|(have:=kB kk;have eth:wc.there L.g (t*28+16) 1:=by obtain ⟨T,q,-⟩:=hL.re.th;exact q.there (cH ht hL.re.ok.gn) (by decide))|(have:=kC kk;have eth:wc.there L.g (t*28+16) 1:=by obtain ⟨T,q,-⟩:=hL.re.th;exact q.there (cH ht hL.re.ok.gn) (by decide))|(have:=kD kk;have eth:wc.there L.g (t*30+17) 1:=by obtain ⟨T,q,-⟩:=hL.re.th;exact q.there (cH ht hL.re.ok.gn) (by decide))
   have hq2:(((E.th t).stamp:Int)*129+((E.th t).cG:Int)) / 129=((E.th t).stamp:Int):=by omega
   obtain ⟨gp,pl,pc,ak,rfl,aHO⟩:∃ gp pl pc,(grown S w wc gp∧¬L.own gp)∧pv1 = .slice (some ⟨gp,0,none⟩) pl pc∧Sl wc (.slice (some ⟨gp,0,none⟩) pl pc) (ints ((E.th t).aK.map Int.ofNat)):=by
    rcases yu with ⟨-,q⟩|⟨gp,pl,pc,q1,q2,q3⟩
    ·exact absurd q HC.out.2.2
    ·exact ⟨gp,pl,pc,q1,q2,by rw [←q2];exact q3⟩
   have hwp:=aA (show IntKind.i64.wrap (((E.th t).stamp:Int)+1)=(((E.th t).stamp+1:Nat):Int) by rw [eS _ (by omega) (by omega)];omega);have HP:=aA (aP ak aHO);have HL:=aA hL;have zx:=aA (aP hrv (aP hrf yp))
   first
    |have:=kA kk
     have HX:=aA (show ∀ j,j<2*(1+1)→wc.cell? ⟨L.g,t*28+(15+j),none⟩=(([a0]++[.pointer (some ⟨bv,0,none⟩)])++([b0]++[.pointer (some ⟨bf,0,none⟩)]))[j]? from fun j hj=>by
      rcases (by omega:j=0∨j=1∨j=2∨j=3) with q|q|q|q<;>subst q
      all_goals exact hc _ _ (by decide) rfl)
    |have:=kB kk
     have HX:=aA (show ∀ j,j<2*(1+1)→wc.cell? ⟨L.g,t*28+(15+j),none⟩=(([a0]++[.pointer (some ⟨bv,0,none⟩)])++([b0]++[.pointer (some ⟨bf,0,none⟩)]))[j]? from fun j hj=>by
      rcases (by omega:j=0∨j=1∨j=2∨j=3) with q|q|q|q<;>subst q
      all_goals exact hc _ _ (by decide) rfl)
    |have:=kC kk
     have HX:=aA (show ∀ j,j<2*(1+1)→wc.cell? ⟨L.g,t*28+(15+j),none⟩=(([a0]++[.pointer (some ⟨bv,0,none⟩)])++([b0]++[.pointer (some ⟨bf,0,none⟩)]))[j]? from fun j hj=>by
      rcases (by omega:j=0∨j=1∨j=2∨j=3) with q|q|q|q<;>subst q
      all_goals exact hc _ _ (by decide) rfl)
    |have:=kD kk
     have HX:=aA (show ∀ j,j<2*(2+1)→wc.cell? ⟨L.g,t*30+(15+j),none⟩=(([a0,a1]++[.pointer (some ⟨bv,0,none⟩)])++([b0,b1]++[.pointer (some ⟨bf,0,none⟩)]))[j]? from fun j hj=>by
      rcases (by omega:j=0∨j=1∨j=2∨j=3∨j=4∨j=5) with q|q|q|q|q|q<;>subst q
      all_goals exact hc _ _ (by decide) rfl)
   have aE4:L.g<wc.heap.size:=hL.re.lt _ (hL.re.ow _ pI);clear hcut hL hc hcv eP yu hrv hrf hbv yp ak aHO c14 cg;go_upto_region 1 with fail
   first|(have:=kA kk;refine fH (S:=(fun w'=>w'.cell? ⟨L.g,t*28+13,none⟩=some (.int .i64 (((E.th t).stamp:Int)*129+((E.th t).cG:Int)))∧w'.cell? ⟨L.g,t*28+20,none⟩=some (.slice (some ⟨gp,0,none⟩) pl pc)∧w'.cell? ⟨L.g,t*28+18,none⟩=some (.pointer (some ⟨bf,0,none⟩))∧w'.there (L.g) (t*28+16) 1)) 26 rfl (by kernel_rfl) ?_ (fun hHeld=>?_))|(have:=kB kk;refine fH (S:=(fun w'=>w'.cell? ⟨L.g,t*28+13,none⟩=some (.int .i64 (((E.th t).stamp:Int)*129+((E.th t).cG:Int)))∧w'.cell? ⟨L.g,t*28+20,none⟩=some (.slice (some ⟨gp,0,none⟩) pl pc)∧w'.cell? ⟨L.g,t*28+18,none⟩=some (.pointer (some ⟨bf,0,none⟩))∧w'.there (L.g) (t*28+16) 1)) 26 rfl (by kernel_rfl) ?_ (fun hHeld=>?_))|(have:=kC kk;refine fH (S:=(fun w'=>w'.cell? ⟨L.g,t*28+13,none⟩=some (.int .i64 (((E.th t).stamp:Int)*129+((E.th t).cG:Int)))∧w'.cell? ⟨L.g,t*28+20,none⟩=some (.slice (some ⟨gp,0,none⟩) pl pc)∧w'.cell? ⟨L.g,t*28+18,none⟩=some (.pointer (some ⟨bf,0,none⟩))∧w'.there (L.g) (t*28+16) 1)) 26 rfl (by kernel_rfl) ?_ (fun hHeld=>?_))|(have:=kD kk;refine fH (S:=(fun w'=>w'.cell? ⟨L.g,t*30+13,none⟩=some (.int .i64 (((E.th t).stamp:Int)*129+((E.th t).cG:Int)))∧w'.cell? ⟨L.g,t*30+22,none⟩=some (.slice (some ⟨gp,0,none⟩) pl pc)∧w'.cell? ⟨L.g,t*30+20,none⟩=some (.pointer (some ⟨bf,0,none⟩))∧w'.there (L.g) (t*30+17) 1)) 26 rfl (by kernel_rfl) ?_ (fun hHeld=>?_))
   ·exact ⟨e13,epv,efl,eth⟩
   repeat' first
    |(
     (first|refine ZY [5,19,25] 14 (by rfl) (by decide +kernel) ?_|refine ZY [5,19,25] 25 (by rfl) (by decide +kernel) ?_|refine ZY [5,19,25] 27 (by rfl) (by decide +kernel) ?_)
     refine ⟨_,by exact fun _ _ _ h=>h,.inl ⟨by rfl,fun w hS=>by (try dsimp only at hS);go_simp;(try with_reducible rfl)⟩,by assumption,?_⟩
     (try go_frame)
     )
    |(
     (first|refine pF 5 (by rfl) (by decide +kernel) (fun K hK PY=>?_)|refine pF 19 (by rfl) (by decide +kernel) (fun K hK PY=>?_)|refine pF 25 (by rfl) (by decide +kernel) (fun K hK PY=>?_))
     all_goals first
      |(
       have _:On 5:=PY;go_simp;refine (yA _ _ (by omega) (by omega)).mono ?_;rintro e w3 ⟨rfl,rfl⟩;rw [hq2];go_wp2_with fail;refine hK.out _ _ ?_ (fun hHeld=>?_)
       ·exact hHeld
       clear hK K PY
       (try go_frame)
       )
      |(
       have _:On 19:=PY;go_simp;refine hK.out _ _ ?_ (fun hHeld=>?_)
       ·exact ⟨aI (aB _ _) hHeld.1,aI (aB _ _) hHeld.2.1,aI (aB _ _) hHeld.2.2.1,aU (aB _ _) hHeld.2.2.2⟩
       clear hK K PY
       (try go_frame)
       )
      |(
       rw [aJ (by rfl)]
       first|(have:=kA kk;refine aY _ _ _ rfl L.g (t*28+16) (.pointer (some ⟨wc.heap.size,0,none⟩)) rfl rfl rfl rfl hHeld.2.2.2 (by kernel_rfl) ?_)|(have:=kB kk;refine aY _ _ _ rfl L.g (t*28+16) (.pointer (some ⟨wc.heap.size,0,none⟩)) rfl rfl rfl rfl hHeld.2.2.2 (by kernel_rfl) ?_)|(have:=kC kk;refine aY _ _ _ rfl L.g (t*28+16) (.pointer (some ⟨wc.heap.size,0,none⟩)) rfl rfl rfl rfl hHeld.2.2.2 (by kernel_rfl) ?_)|(have:=kD kk;refine aY _ _ _ rfl L.g (t*30+17) (.pointer (some ⟨wc.heap.size,0,none⟩)) rfl rfl rfl rfl hHeld.2.2.2 (by kernel_rfl) ?_)
       refine hK.out _ _ ?_ (fun hHeld=>?_)
       ·exact ⟨aH hHeld.1 (by dsimp only;omega),aH hHeld.2.1 (by dsimp only;omega),aH hHeld.2.2.1 (by dsimp only;omega),bA hHeld.2.2.2 _ rfl _⟩
       clear hK K PY
       (try go_frame)
       )
     )
   refine cC (by kernel_rfl) ?_ _;clear hHeld;rw [hwp.out];generalize mU:World.drew _=W3;have cP:Below wc.heap.size wc W3:=by rw [←mU];exact dU (aB _ _)
   have hrow:Row W3 wc.heap.size 306 [.int .i64 (((E.th t).stamp+1:Nat):Int),.slice (some ⟨gp,0,none⟩) pl pc,.pointer (some ⟨bf,0,none⟩)]:=by rw [←mU];exact dH wc [_,_,_] _
   have HF:=aA (aP cP hrow);clear mU cP hrow;go_wp2;exact cW (v:=.tuple #[]) (by simp [results,results231,results282,results356,results319,go_sem]) rfl ⟨rfl,CE ht HL.out HF.out.1 HF.out.2 HP.out.1 HP.out.2 zx.out.1 zx.out.2.1 zx.out.2.2 HX.out HC.out.1 HC.out.2.1⟩
theorem int.FM:CG int.SR @int.RE @int.aE 231 28:=oF.1
theorem list.FM:CG list.SR @list.RE @list.aE 282 28:=oF.2.1
theorem tree.FM:CG tree.SR @tree.RE @tree.aE 356 28:=oF.2.2.1
theorem row.FM:CG row.SR @row.RE @row.aE 319 30:=oF.2.2.2
end Go.Proofs.YtefjhnhdagolhaaGreat
