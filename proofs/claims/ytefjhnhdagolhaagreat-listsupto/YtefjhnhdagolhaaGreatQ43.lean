import Derived.Test.YtefjhnhdagolhaaGreatQ19
import Derived.Test.YtefjhnhdagolhaaGreatQ41
import Derived.Test.YtefjhnhdagolhaaGreatQ42
namespace Go.Proofs.YtefjhnhdagolhaaGreat.row
open Go.RowKit
open M (aI aC aD Op dA aS cA aO aG aJ)
attribute [local go_sem ↓] Go.wp_at_zero Go.wp_at_succ
section
variable {σ:Type} {R:SR σ} {L:Lt} {S:Nat→Prop} {E E':cA σ} {w:World} {t:Nat}
theorem RE.kO (ht:t<L.n):∀ (vs:List Int) (o:Nat) (E:cA σ) (w:World),RE R L S E w→RE R L S {E with th:=aI E.th t {E.th t with dw:=fun i=>if o≤i∧i<o+vs.length then vs.getD (i-o) 0 else (E.th t).dw i}} (w.setCells (L.gD t) o (ints vs))∧Fr L.own w (w.setCells (L.gD t) o (ints vs))
 |[],o,E,w,h=>by
  refine ⟨h.cast ?_,Fr.refl _ w⟩
  have e:(fun i=>if o≤i∧i<o+([]:List Int).length then ([]:List Int).getD (i-o) 0 else (E.th t).dw i)=(E.th t).dw:=by
   funext i
   rw [if_neg (by simp)]
  rw [e]
  have u:aI E.th t (E.th t)=E.th:=by funext k;unfold aI;split<;>simp_all
  rw [u]
 |v::vs,o,E,w,h=>by
  have r1:=h.gP t ht o v
  obtain ⟨r2,k2⟩:=RE.kO ht vs (o+1) _ _ r1
  refine ⟨r2.cast ?_,(Fr.set w (kJ ht) _).trans k2⟩
  simp only [aV,aC]
  congr 2
  have e:(fun i=>if o+1≤i∧i<o+1+vs.length then vs.getD (i-(o+1)) 0 else aI (E.th t).dw o v i)=fun i=>if o≤i∧i<o+(v::vs).length then (v::vs).getD (i-o) 0 else (E.th t).dw i:=by
   funext i
   simp only [List.length_cons]
   by_cases q:i=o
   ·subst q
    rw [if_neg (by omega),if_pos (by omega),aC]
    simp
   ·rw [aD _ _ q]
    by_cases q2:o+1≤i∧i<o+1+vs.length
    ·rw [if_pos q2,if_pos (by omega),show i-o=(i-(o+1))+1 by omega]
     simp
    ·rw [if_neg q2,if_neg (by omega)]
  rw [e]
theorem tU (ht:t<L.n) {wc W3:World} {gp pl pc bv bf:Nat} {a0 a1 b0 b1:Value} {v f:dA σ}
  (hL:Left R L S w {E with th:=aI E.th t {E.th t with dw:=fun i=>if i<M.tw L.n then (E.th t).tg i else (E.th t).dw i}} wc) (cH:Below wc.heap.size wc W3)
  (hrow:Row W3 wc.heap.size 306 [.int .i64 (((E.th t).stamp+1:Nat):Int),.slice (some ⟨gp,0,none⟩) pl pc,.pointer (some ⟨bf,0,none⟩)]) (OV:grown S w wc gp∧¬L.own gp) (rW:Sl wc (.slice (some ⟨gp,0,none⟩) pl pc) (ints ((E.th t).aK.map Int.ofNat)))
  (TI:R.rep (fun k=>grown S w wc k∧¬L.own k) wc v.st [a0,a1]) (TJ:R.rep (fun k=>grown S w wc k∧¬L.own k) wc f.st [b0,b1]) (TK:eJ (fun k=>grown S w wc k∧¬L.own k) wc f.bs.reverse bf)
  (hX:∀ j,j<2*(2+1)→wc.cell? ⟨L.g,t*30+(15+j),none⟩=(([a0,a1]++[.pointer (some ⟨bv,0,none⟩)])++([b0,b1]++[.pointer (some ⟨bf,0,none⟩)]))[j]?) (hv:(E.th t).now=some v) (hf:(E.th t).dM=some f) :
  Left R L S w {E with th:=aI E.th t (aS.close L.n (E.th t))} (W3.setCell ⟨L.g,t*30+17,none⟩ (.pointer (some ⟨wc.heap.size,0,none⟩))):=by
 have hLb:=Left.below hL.re cH
 have FB:L.g<wc.heap.size:=hL.re.lt _ (hL.re.ow _ fY)
 have hst:∀ k,(grown S w wc k∧¬L.own k)→k<wc.heap.size→(grown (grown S w wc) wc W3 k∧¬L.own k)∧W3.heap[k]?=wc.heap[k]?:=fun k hk hlt=>⟨⟨.inl hk.1,hk.2⟩,cH.block k hlt⟩
 have hI:∀ k,(grown S w wc k∧¬L.own k)→k<wc.heap.size:=fun k hk=>hL.re.lt k hk.1
 have vr:bU R (fun k=>grown (grown S w wc) wc W3 k∧¬L.own k) W3 {v with bs:=f.bs++[((E.th t).stamp+1,(E.th t).aK)]} ([a0,a1]++[.pointer (some ⟨wc.heap.size,0,none⟩)]):=by
  refine ⟨[a0,a1],wc.heap.size,rfl,R.stay hst TI,?_⟩
  show eJ _ W3 (f.bs++[((E.th t).stamp+1,(E.th t).aK)]).reverse wc.heap.size
  rw [List.reverse_append]
  exact ⟨_,bf,⟨.inr ⟨Nat.le_refl _,hrow.lt⟩,fun q=>by have:=hL.re.lt _ (hL.re.ow _ q);omega⟩,hrow,⟨gp,(hst gp OV (hI gp OV)).1,Sl.stay rfl rW (fun q=>(hst gp OV q).2),_,_,rfl⟩,eJ.stay hst hI _ _ TK⟩
 have fr:bU R (fun k=>grown (grown S w wc) wc W3 k∧¬L.own k) W3 f ([b0,b1]++[.pointer (some ⟨bf,0,none⟩)]):=⟨[b0,b1],bf,rfl,R.stay hst TJ,eJ.stay hst hI _ _ TK⟩
 obtain ⟨r2,k2⟩:=hLb.re.kK ht [.pointer (some ⟨wc.heap.size,0,none⟩)] 2 (by simp) (by simp) vr fr (fun j hj=>by
  by_cases q:j=2
  ·subst q
   rfl
  ·rw [if_neg (by simp;omega),cH.cell (p:=⟨L.g,t*30+(15+j),none⟩) FB,hX j hj]
   rcases (by omega:j=0∨j=1∨j=2∨j=3∨j=4∨j=5) with q2|q2|q2|q2|q2|q2<;>subst q2<;>first|rfl|exact absurd rfl q) (aS.close L.n (E.th t)) (by
  simp only [aC]
  unfold aS.close
  rw [hv,hf]
  rfl)
 have:=hL.next (hLb.next (Left.of r2 k2 rfl))
 refine this.cast ?_
 simp only [aV]
set_option maxRecDepth 20000 in
set_option maxHeartbeats 4000000 in
theorem sV (h:RE R L S E w) (ht:t<L.n) (hN:(E.th t).stamp≤1000000000) (hr:(E.th t).aW<129) {v f:dA σ} (hv:(E.th t).now=some v) (hf:(E.th t).dM=some f) (hp:(E.th t).aK≠[]) :
  Calls Tryz.prog 319 #[.pointer (some ⟨L.g,t*30,none⟩)] w fun e w'=>e = .returned (.tuple #[])∧Left R L S w {E with th:=aI E.th t (aS.close L.n (E.th t))} w':=by
 obtain ⟨cv,cf,pv,hc,hcv,dN,-,-⟩:=h.cells ht rfl
 obtain ⟨x0,x1,x2,rfl⟩:=aH hcv.1
 obtain ⟨y0,y1,y2,rfl⟩:=aH dN.1
 have hn:=h.ok.n64
 have MJ:M.tw L.n≤M.aO L.n:=by unfold M.aO;omega
 have vI:M.aO L.n≤200:=by unfold M.aO M.tw;omega
 have CU:=hc 14 _ (by decide) rfl
 have cg:=hc 21 _ (by decide) rfl
 have WZ:L.g≠L.gD t:=by obtain ⟨T,q,-⟩:=h.th;exact Row.apart q (h.gd t ht) (by decide)
 obtain ⟨vJ,xP⟩:∃ vJ,vJ=(List.range (M.tw L.n)).map (E.th t).tg:=⟨_,rfl⟩
 have hlen:(ints vJ).length=M.tw L.n:=by rw [xP];simp [ints]
 have aA0:=aA (show ∀ j u,(ints vJ)[j]?=some u→w.cell? ((⟨L.gG t,0,none⟩:Addr).add j)=some u from fun j u hj=>by
  have hj2:j<M.tw L.n:=by rw [←hlen];exact (List.getElem?_eq_some_iff.1 hj).1
  rw [eM,Nat.zero_add,(h.gg t ht).cell hj2]
  rw [xP,fH,List.getElem?_map,List.getElem?_range hj2] at hj
  simpa using hj)
 have aA1:=aA (show ∀ j,j<(ints vJ).length→(w.cell? ⟨L.gD t,0+j,none⟩).isSome=true from fun j hj=>by rw [Nat.zero_add,(h.gd t ht).cell (by omega)];rfl)
 have HFZ:=aA (show ∀ j,j<(ints vJ).length→w.frozen? ⟨L.gD t,0+j,none⟩=false from fun j _=>(h.gd t ht).frozen _)
 have hdw:(fun i=>if 0≤i∧i<0+vJ.length then vJ.getD (i-0) 0 else (E.th t).dw i)=fun i=>if i<M.tw L.n then (E.th t).tg i else (E.th t).dw i:=by
  have YN:vJ.length=M.tw L.n:=by simpa [ints] using hlen
  funext i
  rw [YN]
  by_cases q:i<M.tw L.n
  ·rw [if_pos ⟨Nat.zero_le _,by omega⟩,if_pos q,xP]
   simp [List.getD_eq_getElem?_getD,List.getElem?_range q]
  ·rw [if_neg (by omega),if_neg q]
 obtain ⟨r1,k1⟩:=RE.kO ht vJ 0 E w.drew h.drew
 rw [hdw] at r1
 have H1:=aA (Left.of r1 (show Fr L.own w _ from ⟨k1.os,k1.tape,k1.output,k1.size,k1.block⟩) rfl)
 have HH:=aA h
 have HC:=aA (And.intro hv (And.intro hf hp))
 have XE:=aA xP
 have HLN:=aA hlen
 clear h hc hcv dN hv hf hp r1 k1 hdw xP hlen
 go_enter Tryz.func319,Tryz.ntmps319
 go_upto_region 0 with fail
 go_cut [11] (fun _ w'=>Left R L S w {E with th:=aI E.th t {E.th t with dw:=fun i=>if i<M.tw L.n then (E.th t).tg i else (E.th t).dw i}} w')
 case first =>
  refine gO (S:=(fun w'=>w'.cell? ⟨L.g,t*30+14,none⟩=some (.slice (some ⟨L.gD t,0,none⟩) (M.aO L.n) (M.aO L.n))∧w'.cell? ⟨L.g,t*30+21,none⟩=some (.slice (some ⟨L.gG t,0,none⟩) (M.tw L.n) (M.tw L.n)))) 10 rfl (by kernel_rfl) ?_ (fun hHeld=>?_)
  ·exact ⟨CU,cg⟩
  iterate 9 (refine tk 9 (by rfl) (by kernel_rfl) (by exact fun _ _ _ h=>h) (.inl ⟨by rfl,fun w hS=>by (try dsimp only at hS);go_simp;(try with_reducible rfl)⟩) (by assumption) ?_;try go_frame)
  refine aU 9 (by rfl) (by kernel_rfl) (fun K hK=>?_)
  refine qM rfl (.tmp 6) (.tmp 10) 22 22 rfl 3 Tryz.underlying22 (by kernel_rfl) (L.gD t) 0 (M.aO L.n) (M.aO L.n) ⟨L.gG t,0,none⟩ (M.tw L.n) (M.tw L.n) rfl rfl (ints vJ) (by rw [HLN.out];exact (Nat.min_eq_left MJ).symm) aA0.out aA1.out HFZ.out (sC vJ) ?_
  refine hK.out _ _ ?_ (fun hHeld=>?_)
  ·exact ⟨(World.cell?_setCells_out _ _ _ _ _ (fun q _=>absurd q WZ)).trans hHeld.1,(World.cell?_setCells_out _ _ _ _ _ (fun q _=>absurd q WZ)).trans hHeld.2⟩
  clear hK K
  (try go_frame)
  refine wpAnyH_done (by kernel_rfl) ?_ _
  (try go_wp2_with fail)
  go_meet
  case rel=>exact H1.out
 case rest =>
  have hL:=hcut
  obtain ⟨cv,cf,pv1,hc,hcv,dN,EV,-⟩:=hL.re.cells ht (aC _ _ _)
  have nU:=hcv.2 v HC.out.1
  have hfr:=dN.2 f HC.out.2.1
  obtain ⟨scv,bv,rfl,TI,QL⟩:=nU
  obtain ⟨scf,bf,rfl,TJ,TK⟩:=hfr
  have lv:=R.len TI
  have lf:=R.len TJ
  obtain ⟨a0,a1,rfl⟩:=xH lv
  obtain ⟨b0,b1,rfl⟩:=xH lf
  have e13:=hc 13 _ (by decide) rfl
  have epv:=hc 22 _ (by decide) rfl
  have efl:=hc 20 _ (by decide) rfl
  have eth:wc.there L.g (t*30+17) 1:=by obtain ⟨T,q,-⟩:=hL.re.th;exact q.there (Nat.lt_of_lt_of_le ht hL.re.ok.gn) (by decide)
  have FT:(((E.th t).stamp:Int)*129+((E.th t).aW:Int)) / 129=((E.th t).stamp:Int):=by omega
  obtain ⟨gp,pl,pc,OV,rfl,TL⟩:∃ gp pl pc,(grown S w wc gp∧¬L.own gp)∧pv1 = .slice (some ⟨gp,0,none⟩) pl pc∧Sl wc (.slice (some ⟨gp,0,none⟩) pl pc) (ints ((E.th t).aK.map Int.ofNat)):=by
   rcases EV with ⟨-,q⟩|⟨gp,pl,pc,q1,q2,q3⟩
   ·exact absurd q HC.out.2.2
   ·exact ⟨gp,pl,pc,q1,q2,by rw [←q2];exact q3⟩
  have hwp:=aA (show IntKind.i64.wrap (((E.th t).stamp:Int)+1)=(((E.th t).stamp+1:Nat):Int) by rw [dJ _ (by omega) (by omega)];omega)
  have HP:=aA (And.intro OV TL)
  have HL:=aA hL
  have KF:=aA (And.intro TI (And.intro TJ TK))
  have HX:=aA (show ∀ j,j<2*(2+1)→wc.cell? ⟨L.g,t*30+(15+j),none⟩=(([a0,a1]++[.pointer (some ⟨bv,0,none⟩)])++([b0,b1]++[.pointer (some ⟨bf,0,none⟩)]))[j]? from fun j hj=>by
   rcases (by omega:j=0∨j=1∨j=2∨j=3∨j=4∨j=5) with q|q|q|q|q|q<;>subst q
   all_goals exact hc _ _ (by decide) rfl)
  have OW:L.g<wc.heap.size:=hL.re.lt _ (hL.re.ow _ fY)
  clear hcut hL hc hcv dN EV TI TJ QL TK OV TL CU cg
  go_upto_region 1 with fail
  refine gO (S:=(fun w'=>w'.cell? ⟨L.g,t*30+13,none⟩=some (.int .i64 (((E.th t).stamp:Int)*129+((E.th t).aW:Int)))∧w'.cell? ⟨L.g,t*30+22,none⟩=some (.slice (some ⟨gp,0,none⟩) pl pc)∧w'.cell? ⟨L.g,t*30+20,none⟩=some (.pointer (some ⟨bf,0,none⟩))∧w'.there (L.g) (t*30+17) 1)) 26 rfl (by kernel_rfl) ?_ (fun hHeld=>?_)
  ·exact ⟨e13,epv,efl,eth⟩
  iterate 5 (refine tk 25 (by rfl) (by kernel_rfl) (by exact fun _ _ _ h=>h) (.inl ⟨by rfl,fun w hS=>by (try dsimp only at hS);go_simp;(try with_reducible rfl)⟩) (by assumption) ?_;try go_frame)
  iterate 11 (refine tk 27 (by rfl) (by kernel_rfl) (by exact fun _ _ _ h=>h) (.inl ⟨by rfl,fun w hS=>by (try dsimp only at hS);go_simp;(try with_reducible rfl)⟩) (by assumption) ?_;try go_frame)
  refine aU 5 (by rfl) (by kernel_rfl) (fun K hK=>?_)
  go_simp
  refine (iT _ _ (by omega) (by omega)).mono ?_
  rintro e w3 ⟨rfl,rfl⟩
  rw [FT]
  go_wp2_with fail
  refine hK.out _ _ ?_ (fun hHeld=>?_)
  ·exact hHeld
  clear hK K
  (try go_frame)
  iterate 1 (refine tk 14 (by rfl) (by kernel_rfl) (by exact fun _ _ _ h=>h) (.inl ⟨by rfl,fun w hS=>by (try dsimp only at hS);go_simp;(try with_reducible rfl)⟩) (by assumption) ?_;try go_frame)
  iterate 1 (refine tk 25 (by rfl) (by kernel_rfl) (by exact fun _ _ _ h=>h) (.inl ⟨by rfl,fun w hS=>by (try dsimp only at hS);go_simp;(try with_reducible rfl)⟩) (by assumption) ?_;try go_frame)
  refine aU 19 (by rfl) (by kernel_rfl) (fun K hK=>?_)
  go_simp
  refine hK.out _ _ ?_ (fun hHeld=>?_)
  ·exact ⟨cell_later (aB _ _) hHeld.1,cell_later (aB _ _) hHeld.2.1,cell_later (aB _ _) hHeld.2.2.1,aN (aB _ _) hHeld.2.2.2⟩
  clear hK K
  (try go_frame)
  iterate 5 (refine tk 25 (by rfl) (by kernel_rfl) (by exact fun _ _ _ h=>h) (.inl ⟨by rfl,fun w hS=>by (try dsimp only at hS);go_simp;(try with_reducible rfl)⟩) (by assumption) ?_;try go_frame)
  refine aU 25 (by rfl) (by kernel_rfl) (fun K hK=>?_)
  rw [if_pos (by rfl)]
  refine aM _ _ _ rfl L.g (t*30+17) (.pointer (some ⟨wc.heap.size,0,none⟩)) rfl rfl rfl rfl hHeld.2.2.2 (by kernel_rfl) ?_
  refine hK.out _ _ ?_ (fun hHeld=>?_)
  ·exact ⟨aF hHeld.1 (by first|exact .inr (by dsimp only;omega)|exact .inl (by assumption)|exact .inl (Ne.symm (by assumption))),aF hHeld.2.1 (by first|exact .inr (by dsimp only;omega)|exact .inl (by assumption)|exact .inl (Ne.symm (by assumption))),aF hHeld.2.2.1 (by first|exact .inr (by dsimp only;omega)|exact .inl (by assumption)|exact .inl (Ne.symm (by assumption))),aQ hHeld.2.2.2 _ rfl _⟩
  clear hK K
  (try go_frame)
  refine wpAnyH_done (by kernel_rfl) ?_ _
  clear hHeld
  rw [hwp.out]
  generalize nV:World.drew _=W3
  have cH:Below wc.heap.size wc W3:=by rw [←nV];exact Below.drew (aB _ _)
  have hrow:Row W3 wc.heap.size 306 [.int .i64 (((E.th t).stamp+1:Nat):Int),.slice (some ⟨gp,0,none⟩) pl pc,.pointer (some ⟨bf,0,none⟩)]:=by rw [←nV];exact Row.new wc [_,_,_] _
  have HF:=aA (And.intro cH hrow)
  clear nV cH hrow
  go_wp2
  exact bodyPost_end (v:=.tuple #[]) (by simp [results,Tryz.results319,go_sem]) rfl ⟨rfl,tU ht HL.out HF.out.1 HF.out.2 HP.out.1 HP.out.2 KF.out.1 KF.out.2.1 KF.out.2.2 HX.out HC.out.1 HC.out.2.1⟩
end
end Go.Proofs.YtefjhnhdagolhaaGreat.row
namespace Go.Proofs.YtefjhnhdagolhaaGreat.row
open Go.RowKit
open M (aI aC aD Op dA aS cA aO aG aJ)
attribute [local go_sem ↓] Go.wp_at_zero Go.wp_at_succ
section
variable {σ:Type} {R:SR σ} {L:Lt} {S:Nat→Prop} {E E':cA σ} {w:World} {t:Nat}
theorem RE.tV (h:RE R L S E w) (ht:t<L.n) {j:Nat} (hj:j<3) (x:Int):RE R L S {E with th:=aI E.th t {E.th t with heard:=aI (E.th t).heard j x}} (w.setCell ⟨L.g,t*30+23+j,none⟩ (.int .i64 x)):=by
 rcases (by omega:j=0∨j=1∨j=2) with q|q|q<;>subst q
 ·exact (h.dO ht 23 (by decide) (.int .i64 x) {E.th t with heard:=aI (E.th t).heard 0 x} rfl rfl rfl rfl rfl (by intros;rfl)).1
 ·exact (h.dO ht 24 (by decide) (.int .i64 x) {E.th t with heard:=aI (E.th t).heard 1 x} rfl rfl rfl rfl rfl (by intros;rfl)).1
 ·exact (h.dO ht 25 (by decide) (.int .i64 x) {E.th t with heard:=aI (E.th t).heard 2 x} rfl rfl rfl rfl rfl (by intros;rfl)).1
def fP (E:cA σ) (t:Nat):aS σ:={E.th t with heard:=aI (E.th t).heard ((E.th t).past % 3) (E.eS ((E.th t).aK.getD ((E.th t).past / 3) 0) ((E.th t).past % 3))}
def cK (P:M.Plain σ) (n:Nat) (E:cA σ) (t:Nat):aS σ:=if (E.th t).past % 3=2 then (fP E t).apply P n ((E.th t).aK.getD ((E.th t).past / 3) 0) else fP E t
def cY (P:M.Plain σ) (n:Nat) (E:cA σ) (t:Nat):aS σ:=if (E.th t).past+1=3*(E.th t).aK.length then (cK P n E t).close n else cK P n E t
theorem rI (P:M.Plain σ) (n k:Nat) (e:aS σ):(aS.apply P n e k).past=e.past∧(aS.apply P n e k).aK=e.aK∧(aS.apply P n e k).stamp=e.stamp∧(aS.apply P n e k).aW=e.aW∧(aS.apply P n e k).dM=e.dM∧(e.now.isSome→(aS.apply P n e k).now.isSome):=by
 unfold aS.apply
 cases hq:e.now with
 |none=>exact ⟨rfl,rfl,rfl,rfl,rfl,fun q=>by cases q⟩
 |some v=>exact ⟨rfl,rfl,rfl,rfl,rfl,fun _=>rfl⟩
theorem eZ (P:M.Plain σ) (n:Nat) (E:cA σ) (t:Nat):(cK P n E t).past=(E.th t).past∧(cK P n E t).aK=(E.th t).aK∧(cK P n E t).stamp=(E.th t).stamp∧(cK P n E t).aW=(E.th t).aW∧(cK P n E t).dM=(E.th t).dM∧((E.th t).now.isSome→(cK P n E t).now.isSome):=by
 unfold cK
 split
 ·exact rI P n _ (fP E t)
 ·exact ⟨rfl,rfl,rfl,rfl,rfl,fun q=>q⟩
theorem fC (P:M.Plain σ) (n:Nat) (E:cA σ) (t:Nat):(cY P n E t).past=(E.th t).past:=by
 unfold cY
 split
 ·exact (eZ P n E t).1
 ·exact (eZ P n E t).1
theorem RE.FU (h:RE R L S E w) (ht:t<L.n) {e:aS σ} (he:E.th t=e) (hne:e.aK≠[]):∃ gp pc,w.cell? ⟨L.g,t*30+22,none⟩=some (.slice (some ⟨gp,0,none⟩) e.aK.length pc):=by
 obtain ⟨cv,cf,pv,hc,hcv,dN,EV,-⟩:=h.cells ht he
 obtain ⟨x0,x1,x2,rfl⟩:=aH hcv.1
 obtain ⟨y0,y1,y2,rfl⟩:=aH dN.1
 have:=hc 22 _ (by decide) rfl
 rcases EV with ⟨-,q⟩|⟨gp,pl,pc,-,q2,q3⟩
 ·exact absurd q hne
 ·obtain ⟨a,cap,e1,-,-,-⟩:=q3
  rw [q2] at e1
  injection e1 with e5 e6 e7
  have el:pl=e.aK.length:=by rw [e6];simp [ints]
  exact ⟨gp,pc,by rw [this,q2,el]⟩
set_option maxRecDepth 20000 in
set_option maxHeartbeats 4000000 in
theorem KG {P:M.Plain σ} {fA:Nat} {rv:Value} (hA:eV R P L fA rv) (h:RE R L S E w) (ht:t<L.n) (hN:(E.th t).stamp≤1000000000) (hr:(E.th t).aW<129) {v f:dA σ} (hv:(E.th t).now=some v) (hf:(E.th t).dM=some f) (hsz:R.sz v.st≤1000000000000)
  (hp:(E.th t).past<3*(E.th t).aK.length) (hl:(E.th t).aK.length≤64) (hk:(E.th t).aK.getD ((E.th t).past / 3) 0<L.n) :
  Calls Tryz.prog 307 #[.pointer (some ⟨L.g,t*30,none⟩)] w fun e w'=>e = .returned (.tuple #[])∧Left R L S w {E with th:=aI E.th t ((cY P L.n E t).pass (3*(E.th t).aK.length) 9)} w':=by
 obtain ⟨cv,cf,pv,hc,hcv,dN,EV,-⟩:=h.cells ht rfl
 obtain ⟨x0,x1,x2,rfl⟩:=aH hcv.1
 obtain ⟨y0,y1,y2,rfl⟩:=aH dN.1
 have hn:=h.ok.n64
 have c0:w.cell? ⟨L.g,t*30,none⟩=some (.pointer (some ⟨L.bS,0,none⟩)):=hc 0 _ (by decide) rfl
 have c4:=hc 4 _ (by decide) rfl
 have cpv:=hc 22 _ (by decide) rfl
 have s3:w.cell? ⟨L.bS,3,none⟩=some (.slice (some ⟨L.cO,0,none⟩) L.n L.n):=h.sh.cell_of rfl
 have MZ:(E.th t).aK≠[]:=by intro q;rw [q] at hp;simp at hp
 obtain ⟨i,hi⟩:∃ i,i=(E.th t).past / 3:=⟨_,rfl⟩
 obtain ⟨j,hj⟩:∃ j,j=(E.th t).past % 3:=⟨_,rfl⟩
 obtain ⟨k,hkk⟩:∃ k,k=(E.th t).aK.getD ((E.th t).past / 3) 0:=⟨_,rfl⟩
 rw [←hkk] at hk
 have hil:i<(E.th t).aK.length:=by omega
 have hj3:j<3:=by omega
 obtain ⟨gp,pc,rfl,cpk⟩:∃ gp pc,pv = .slice (some ⟨gp,0,none⟩) (E.th t).aK.length pc∧w.cell? ⟨gp,i,none⟩=some (.int .i64 (k:Int)):=by
  rcases EV with ⟨-,q⟩|⟨gp,pl,pc,-,q2,q3⟩
  ·exact absurd q MZ
  ·obtain ⟨a,cap,e1,-,-,e4⟩:=q3
   rw [q2] at e1
   injection e1 with e5 e6 e7
   have el:pl=(E.th t).aK.length:=by rw [e6];simp [ints]
   refine ⟨gp,pc,by rw [q2,el],?_⟩
   rcases e4 with e4|⟨g',off,e8,e9⟩
   ·have:(ints ((E.th t).aK.map Int.ofNat)).length=0:=by rw [e4];rfl
    simp [ints] at this
    exact absurd this MZ
   ·rw [e8] at e5
    injection e5 with e5
    injection e5 with e10 e11
    subst e10
    subst e11
    have:=e9 i (.int .i64 (k:Int)) (by
     rw [fH,List.getElem?_map,List.getElem?_eq_getElem hil,hkk,←hi,List.getD_eq_getElem?_getD,List.getElem?_eq_getElem hil]
     rfl)
    rwa [Nat.zero_add] at this
 have hdiv:((E.th t).past:Int) / 3=(i:Int):=by omega
 have hmod:((E.th t).past:Int) % 3=(j:Int):=by omega
 have aA2:(i:Int)<((E.th t).aK.length:Int):=by omega
 have aC6:(k:Int)<(L.n:Int):=by omega
 have aFP:(j:Int)<3:=by omega
 have a0:w.cell? ⟨L.cO,k*3+j,none⟩=some (.int .i64 (E.eS k j)):=h.an.cell hk hj3
 have th:w.there L.g (t*30+23+j) 1:=by obtain ⟨T,q,-⟩:=h.th;have:=q.there (Nat.lt_of_lt_of_le ht h.ok.gn) (show 23+j<30 by omega);rwa [←Nat.add_assoc] at this
 obtain ⟨nSg,-,nAg,-⟩:=h.sR
 have HE:=aA (show fP E t = {E.th t with heard:=aI (E.th t).heard j (E.eS k j)} by unfold fP;rw [←hi,←hj] at *;rw [hkk,←hi])
 have HH:=aA h
 have HC:=aA (And.intro hv (And.intro hf MZ))
 have HI:=aA (And.intro hi (And.intro hj hkk))
 clear h hc hcv dN EV hv hf MZ hi hj hkk
 go_enter Tryz.func307,Tryz.ntmps307
 go_upto_region 0 with fail
 go_quiet (fail)
 rw [hmod]
 generalize jE:World.drewN w nq=W0
 obtain ⟨d0,d3,da,vT,r0,k0,d4,dpv⟩:W0.cell? ⟨L.g,t*30,none⟩=some (.pointer (some ⟨L.bS,0,none⟩))∧W0.cell? ⟨L.bS,3,none⟩=some (.slice (some ⟨L.cO,0,none⟩) L.n L.n)∧W0.cell? ⟨L.cO,k*3+j,none⟩=some (.int .i64 (E.eS k j))∧W0.there L.g (t*30+23+j) 1∧RE R L S E W0∧Fr L.own w W0∧W0.cell? ⟨L.g,t*30+4,none⟩=some (.int .i64 ((E.th t).past:Int))∧W0.cell? ⟨L.g,t*30+22,none⟩=some (.slice (some ⟨gp,0,none⟩) (E.th t).aK.length pc):=by
  rw [←jE]
  exact ⟨c0,s3,a0,th,HH.out.drewN nq,(Fr.refl _ w).drewN nq,c4,cpv⟩
 have H1:=aA (r0.drew.tV ht hj3 (E.eS k j))
 have K0:=aA k0
 clear jE r0 k0 c0 s3 a0 th c4 cpv cpk hdiv hmod hil aA2
 go_upto_region 1 with fail
 refine gO (S:=(fun w'=>w'.cell? ⟨L.g,t*30,none⟩=some (.pointer (some ⟨L.bS,0,none⟩))∧w'.cell? ⟨L.g,t*30+4,none⟩=some (.int .i64 ((E.th t).past:Int))∧w'.cell? ⟨L.g,t*30+22,none⟩=some (.slice (some ⟨gp,0,none⟩) (E.th t).aK.length pc)∧w'.cell? ⟨L.bS,3,none⟩=some (.slice (some ⟨L.cO,0,none⟩) L.n L.n)∧w'.cell? ⟨L.cO,k*3+j,none⟩=some (.int .i64 (E.eS k j))∧w'.there (L.g) (t*30+23+j) 1)) 18 rfl (by kernel_rfl) ?_ (fun hHeld=>?_)
 ·exact ⟨d0,d4,dpv,d3,da,vT⟩
 iterate 13 (refine tk 17 (by rfl) (by kernel_rfl) (by exact fun _ _ _ h=>h) (.inl ⟨by rfl,fun w hS=>by (try dsimp only at hS);go_simp;(try with_reducible rfl)⟩) (by assumption) ?_;try go_frame)
 iterate 2 (refine tk 18 (by rfl) (by kernel_rfl) (by exact fun _ _ _ h=>h) (.inl ⟨by rfl,fun w hS=>by (try dsimp only at hS);go_simp;(try with_reducible rfl)⟩) (by assumption) ?_;try go_frame)
 refine aU 13 (by rfl) (by kernel_rfl) (fun K hK=>?_)
 go_simp
 refine (gY L.cO (k*3+j) _ _ hHeld.2.2.2.2.1).mono ?_
 rintro e w3 ⟨rfl,rfl⟩
 go_wp2_with fail
 refine hK.out _ _ ?_ (fun hHeld=>?_)
 ·exact hHeld
 clear hK K
 (try go_frame)
 iterate 1 (refine tk 17 (by rfl) (by kernel_rfl) (by exact fun _ _ _ h=>h) (.inl ⟨by rfl,fun w hS=>by (try dsimp only at hS);go_simp;(try with_reducible rfl)⟩) (by assumption) ?_;try go_frame)
 refine aU 17 (by rfl) (by kernel_rfl) (fun K hK=>?_)
 rw [if_pos (by rfl)]
 refine aM _ _ _ rfl L.g (t*30+23+j) (.int .i64 (E.eS k j)) rfl rfl rfl rfl hHeld.2.2.2.2.2 (by kernel_rfl) ?_
 refine hK.out _ _ ?_ (fun hHeld=>?_)
 ·exact ⟨aF hHeld.1 (by first|exact .inr (by dsimp only;omega)|exact .inl (by assumption)|exact .inl (Ne.symm (by assumption))),aF hHeld.2.1 (by first|exact .inr (by dsimp only;omega)|exact .inl (by assumption)|exact .inl (Ne.symm (by assumption))),aF hHeld.2.2.1 (by first|exact .inr (by dsimp only;omega)|exact .inl (by assumption)|exact .inl (Ne.symm (by assumption))),aF hHeld.2.2.2.1 (by first|exact .inr (by dsimp only;omega)|exact .inl (by assumption)|exact .inl (Ne.symm (by assumption))),aF hHeld.2.2.2.2.1 (by first|exact .inr (by dsimp only;omega)|exact .inl (by assumption)|exact .inl (Ne.symm (by assumption))),aQ hHeld.2.2.2.2.2 _ rfl _⟩
 clear hK K
 (try go_frame)
 refine wpAnyH_done (by kernel_rfl) ?_ _
 have f4:=hHeld.2.1
 have fpv:=hHeld.2.2.1
 clear hHeld
 generalize xO:World.setCell _ _ _=W2
 have oX:Left R L S w {E with th:=aI E.th t (fP E t)} W2:=by
  rw [←xO,HE.out]
  exact Left.of H1.out (K0.out.drew.trans (Fr.set _ fY _)) rfl
 have g4:W2.cell? ⟨L.g,t*30+4,none⟩=some (.int .i64 ((E.th t).past:Int)):=by rw [←xO];exact f4
 have gpv:W2.cell? ⟨L.g,t*30+22,none⟩=some (.slice (some ⟨gp,0,none⟩) (E.th t).aK.length pc):=by rw [←xO];exact fpv
 have xM:=aA oX
 clear xO oX f4 fpv d0 d3 da vT d4 dpv
 by_cases hj2:j=2
 ·have q1:(2:Int)≤(j:Int):=by omega
  have q2:(j:Int)≤2:=by omega
  have HJ:=aA (show cK P L.n E t=aS.apply P L.n (fP E t) k by unfold cK;rw [if_pos (by rw [←HI.out.2.1];exact hj2),←HI.out.2.2])
  clear hj2
  go_wp2_with fail
  refine (DC hA xM.out.re ht hk (v:=v) (f:=f) (by simp only [aC];exact HC.out.1) (by simp only [aC];exact HC.out.2.1) hsz).mono ?_
  rintro e w3 ⟨rfl,L3⟩
  have mF:=aA (show Left R L S w {E with th:=aI E.th t (cK P L.n E t)} w3 from (xM.out.next L3).cast (by rw [HJ.out];simp only [aV,aC]))
  clear L3
  obtain ⟨y1,y2,y3,y4,y5,y6⟩:=eZ P L.n E t
  obtain ⟨cv7,cf7,pv7,TM,-,-,-,-⟩:=mF.out.re.cells ht (aC _ _ _)
  have z4:=TM 4 _ (by decide) rfl
  rw [y1] at z4
  obtain ⟨gp7,pc7,zpv⟩:=mF.out.re.FU ht (aC _ _ _) (by rw [y2];exact HC.out.2.2)
  rw [y2] at zpv
  have HY:=aA (And.intro y1 (And.intro y2 (And.intro y3 (And.intro y4 (And.intro y5 y6)))))
  clear TM y1 y2 y3 y4 y5 y6 g4 gpv
  by_cases gU:(E.th t).past+1=3*(E.th t).aK.length
  ·have l1:((E.th t).past:Int)≤3*((E.th t).aK.length:Int)-1:=by omega
   have l2:3*((E.th t).aK.length:Int)-1≤((E.th t).past:Int):=by omega
   have DE:=aA (show cY P L.n E t=(cK P L.n E t).close L.n by unfold cY;rw [if_pos gU])
   clear gU
   obtain ⟨v7,TN⟩:=Option.isSome_iff_exists.1 (HY.out.2.2.2.2.2 (by rw [HC.out.1];rfl))
   have HV7:=aA TN
   clear TN
   go_wp2_with fail
   refine (sV mF.out.re ht (by simp only [aC];rw [HY.out.2.2.1];exact hN) (by simp only [aC];rw [HY.out.2.2.2.1];exact hr) (v:=v7) (f:=f) (by simp only [aC];exact HV7.out) (by simp only [aC];rw [HY.out.2.2.2.2.1];exact HC.out.2.1) (by simp only [aC];rw [HY.out.2.1];exact HC.out.2.2)).mono ?_
   rintro e w5 ⟨rfl,L5⟩
   have sU:=aA (show Left R L S w {E with th:=aI E.th t (cY P L.n E t)} w5 from (mF.out.next L5).cast (by rw [DE.out];simp only [aV,aC]))
   have hps:=fN sU.out.re ht (3*(E.th t).aK.length) 9 (by omega) (by simp only [aC];rw [fC];omega)
   rw [show ((3*(E.th t).aK.length:Nat):Int)=3*((E.th t).aK.length:Int) by omega] at hps
   have KH:=aA hps
   clear hps L5
   go_wp2_with fail
   refine KH.out.mono ?_
   rintro e w6 ⟨rfl,r6,k6⟩
   have HR:=aA (And.intro r6 k6)
   clear r6 k6
   go_wp2
   refine bodyPost_end (v:=.tuple #[]) (by simp [results,Tryz.results307,go_sem]) rfl ⟨rfl,sU.out.next (Left.of (HR.out.1.cast ?_) HR.out.2 rfl)⟩
   simp only [aV,aC]
  ·have l1:¬((E.th t).past:Int)=3*((E.th t).aK.length:Int)-1:=by omega
   have DE:=aA (show cY P L.n E t=cK P L.n E t by unfold cY;rw [if_neg gU])
   clear gU
   have sU:=aA (show Left R L S w {E with th:=aI E.th t (cY P L.n E t)} w3 from mF.out.cast (by rw [DE.out]))
   have hps:=fN sU.out.re ht (3*(E.th t).aK.length) 9 (by omega) (by simp only [aC];rw [fC];omega)
   rw [show ((3*(E.th t).aK.length:Nat):Int)=3*((E.th t).aK.length:Int) by omega] at hps
   have KH:=aA hps
   clear hps
   go_wp2_with fail
   refine KH.out.mono ?_
   rintro e w6 ⟨rfl,r6,k6⟩
   have HR:=aA (And.intro r6 k6)
   clear r6 k6
   go_wp2
   refine bodyPost_end (v:=.tuple #[]) (by simp [results,Tryz.results307,go_sem]) rfl ⟨rfl,sU.out.next (Left.of (HR.out.1.cast ?_) HR.out.2 rfl)⟩
   simp only [aV,aC]
 ·have q1:¬(j:Int)=2:=by omega
  have HJ:=aA (show cK P L.n E t=fP E t by unfold cK;rw [if_neg (by rw [←HI.out.2.1];exact hj2)])
  clear hj2
  have mF:=aA (show Left R L S w {E with th:=aI E.th t (cK P L.n E t)} W2 from xM.out.cast (by rw [HJ.out]))
  obtain ⟨y1,y2,y3,y4,y5,y6⟩:=eZ P L.n E t
  obtain ⟨cv7,cf7,pv7,TM,-,-,-,-⟩:=mF.out.re.cells ht (aC _ _ _)
  have z4:=TM 4 _ (by decide) rfl
  rw [y1] at z4
  obtain ⟨gp7,pc7,zpv⟩:=mF.out.re.FU ht (aC _ _ _) (by rw [y2];exact HC.out.2.2)
  rw [y2] at zpv
  have HY:=aA (And.intro y1 (And.intro y2 (And.intro y3 (And.intro y4 (And.intro y5 y6)))))
  clear TM y1 y2 y3 y4 y5 y6 g4 gpv
  by_cases gU:(E.th t).past+1=3*(E.th t).aK.length
  ·have l1:((E.th t).past:Int)≤3*((E.th t).aK.length:Int)-1:=by omega
   have l2:3*((E.th t).aK.length:Int)-1≤((E.th t).past:Int):=by omega
   have DE:=aA (show cY P L.n E t=(cK P L.n E t).close L.n by unfold cY;rw [if_pos gU])
   clear gU
   obtain ⟨v7,TN⟩:=Option.isSome_iff_exists.1 (HY.out.2.2.2.2.2 (by rw [HC.out.1];rfl))
   have HV7:=aA TN
   clear TN
   go_wp2_with fail
   refine (sV mF.out.re ht (by simp only [aC];rw [HY.out.2.2.1];exact hN) (by simp only [aC];rw [HY.out.2.2.2.1];exact hr) (v:=v7) (f:=f) (by simp only [aC];exact HV7.out) (by simp only [aC];rw [HY.out.2.2.2.2.1];exact HC.out.2.1) (by simp only [aC];rw [HY.out.2.1];exact HC.out.2.2)).mono ?_
   rintro e w5 ⟨rfl,L5⟩
   have sU:=aA (show Left R L S w {E with th:=aI E.th t (cY P L.n E t)} w5 from (mF.out.next L5).cast (by rw [DE.out];simp only [aV,aC]))
   have hps:=fN sU.out.re ht (3*(E.th t).aK.length) 9 (by omega) (by simp only [aC];rw [fC];omega)
   rw [show ((3*(E.th t).aK.length:Nat):Int)=3*((E.th t).aK.length:Int) by omega] at hps
   have KH:=aA hps
   clear hps L5
   go_wp2_with fail
   refine KH.out.mono ?_
   rintro e w6 ⟨rfl,r6,k6⟩
   have HR:=aA (And.intro r6 k6)
   clear r6 k6
   go_wp2
   refine bodyPost_end (v:=.tuple #[]) (by simp [results,Tryz.results307,go_sem]) rfl ⟨rfl,sU.out.next (Left.of (HR.out.1.cast ?_) HR.out.2 rfl)⟩
   simp only [aV,aC]
  ·have l1:¬((E.th t).past:Int)=3*((E.th t).aK.length:Int)-1:=by omega
   have DE:=aA (show cY P L.n E t=cK P L.n E t by unfold cY;rw [if_neg gU])
   clear gU
   have sU:=aA (show Left R L S w {E with th:=aI E.th t (cY P L.n E t)} W2 from mF.out.cast (by rw [DE.out]))
   have hps:=fN sU.out.re ht (3*(E.th t).aK.length) 9 (by omega) (by simp only [aC];rw [fC];omega)
   rw [show ((3*(E.th t).aK.length:Nat):Int)=3*((E.th t).aK.length:Int) by omega] at hps
   have KH:=aA hps
   clear hps
   go_wp2_with fail
   refine KH.out.mono ?_
   rintro e w6 ⟨rfl,r6,k6⟩
   have HR:=aA (And.intro r6 k6)
   clear r6 k6
   go_wp2
   refine bodyPost_end (v:=.tuple #[]) (by simp [results,Tryz.results307,go_sem]) rfl ⟨rfl,sU.out.next (Left.of (HR.out.1.cast ?_) HR.out.2 rfl)⟩
   simp only [aV,aC]
end
end Go.Proofs.YtefjhnhdagolhaaGreat.row
