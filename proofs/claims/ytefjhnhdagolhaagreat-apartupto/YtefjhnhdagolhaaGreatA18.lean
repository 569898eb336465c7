import Derived.Test.YtefjhnhdagolhaaGreatA17
set_option maxHeartbeats 4000000
set_option maxRecDepth 20000
namespace Go.Proofs.YtefjhnhdagolhaaGreat
open Tryz
open Go.RowKit
open M (aM aC aD aR bJ cnt)
attribute [local go_sem ↓] Go.wp_at_zero Go.wp_at_succ
section
variable {L:DL} {S:Nat→Prop} {Y:aR} {w:World} {bZ:Nat→Nat} {vo vp:Nat→Value} {vb:Value} {bv:Nat→Value} {t:Nat}
structure aAe (L:DL) (Y:aR) (t:Nat):Prop where
 p1:1≤(Y.th t).part
 p11:(Y.th t).part≤11
 fl:(Y.th t).aO≤1000000000
 en:(Y.th t).ended≤1000000000
 bk:(Y.th t).aG≤L.cap
 bs:Y.bs.length≤1000000000
 pl:8≤(Y.th t).part→(Y.th t).part≤10→(Y.th t).aK.length≤64
 ck:(Y.th t).part=7→∀ k,k<L.n→cnt Y.bs k≤1000000000∧(Y.th t).flipped k≤1000000000
def QK (b:Bool):Int:=if b=true then 2 else 1
theorem nk (h:DR L S Y w bZ vo vp vb bv) (ht:t<L.n) (o:aAe L Y t) :
  Calls prog 87 #[.pointer (some ⟨L.b,0,none⟩),.int .i64 (t:Int)] w fun e w'=>e = .returned (.int .i64 (QK (M.over L.n L.cap Y t (Y.th t)).2))∧eO L S w (M.over L.n L.cap Y t (Y.th t)).1 w':=by
 rcases M.TX o.p1 o.p11 with c|c|c|c|c|c|c|c|c|c|c
 ·have e:M.over L.n L.cap Y t (Y.th t)=(Y.set t ((Y.th t).enter L.n (1+1)),false):=by unfold M.over;split<;>first|rfl|(exfalso;omega)|simp_all
  rw [e];exact mT h ht 1 c (by decide) (by omega)
 ·have e:M.over L.n L.cap Y t (Y.th t)=(Y.set t (bJ.enter L.n {Y.th t with aO:=(Y.th t).aO+1,tries:=1} 3),false):=by unfold M.over;split<;>first|rfl|(exfalso;omega)|simp_all
  rw [e];exact um h ht c o.fl
 ·have e:M.over L.n L.cap Y t (Y.th t)=(Y.set t ((Y.th t).enter L.n (3+1)),false):=by unfold M.over;split<;>first|rfl|(exfalso;omega)|simp_all
  rw [e];exact mT h ht 3 c (by decide) (by omega)
 ·have e:M.over L.n L.cap Y t (Y.th t)=(Y.set t (bJ.enter L.n {Y.th t with stamp:=Y.bs.length} 5),false):=by unfold M.over;split<;>first|rfl|(exfalso;omega)|simp_all
  rw [e];exact uo h ht c
 ·have e:M.over L.n L.cap Y t (Y.th t)=(Y.set t ((Y.th t).enter L.n (5+1)),false):=by unfold M.over;split<;>first|rfl|(exfalso;omega)|simp_all
  rw [e];exact mT h ht 5 c (by decide) (by omega)
 ·have e:M.over L.n L.cap Y t (Y.th t)=(Y.set t ((Y.th t).enter L.n (6+1)),false):=by unfold M.over;split<;>first|rfl|(exfalso;omega)|simp_all
  rw [e];exact mT h ht 6 c (by decide) (by omega)
 ·by_cases q:Y.bs.length=(Y.th t).stamp
  ·have e:M.over L.n L.cap Y t (Y.th t)=(Y.set t (bJ.enter L.n {Y.th t with aK:=Y.pending L.n (Y.th t)} (if t∈Y.pending L.n (Y.th t) then 8 else 11)),false):=by unfold M.over;split<;>first|(simp only [aJ q];done)|(exfalso;omega)|simp_all
   rw [e];exact uq h ht c q (o.ck c)
  ·have e:M.over L.n L.cap Y t (Y.th t)=(Y.set t ((Y.th t).fail L.n L.cap),false):=by unfold M.over;split<;>first|(simp only [aN q];done)|(exfalso;omega)|simp_all
   rw [e];exact FQ h ht 7 c (.inl rfl) q o.bk
 ·have e:M.over L.n L.cap Y t (Y.th t)=(Y.set t ((Y.th t).enter L.n (8+1)),false):=by unfold M.over;split<;>first|rfl|(exfalso;omega)|simp_all
  rw [e];exact mT h ht 8 c (by decide) (fun _=>o.pl (by omega) (by omega))
 ·have e:M.over L.n L.cap Y t (Y.th t)=(Y.set t ((Y.th t).enter L.n (9+1)),false):=by unfold M.over;split<;>first|rfl|(exfalso;omega)|simp_all
  rw [e];exact mT h ht 9 c (by decide) (fun _=>o.pl (by omega) (by omega))
 ·by_cases q:Y.bs.length=(Y.th t).stamp
  ·have e:M.over L.n L.cap Y t (Y.th t)=(⟨aM Y.th t (bJ.enter L.n {Y.th t with aK:=[],aG:=(Y.th t).aG / 2} 11),Y.bs++[(Y.th t).aK]⟩,false):=by unfold M.over;split<;>first|(simp only [aJ q];done)|(exfalso;omega)|simp_all
   rw [e];exact gi h ht c q o.bs o.bk
  ·have e:M.over L.n L.cap Y t (Y.th t)=(Y.set t ((Y.th t).fail L.n L.cap),false):=by unfold M.over;split<;>first|(simp only [aN q];done)|(exfalso;omega)|simp_all
   rw [e];exact FQ h ht 10 c (.inr rfl) q o.bk
 ·have e:M.over L.n L.cap Y t (Y.th t)=(Y.set t {Y.th t with part:=0,ended:=(Y.th t).ended+1},true):=by unfold M.over;split<;>first|rfl|(exfalso;omega)|simp_all
  rw [e];exact gj h ht c o.en
theorem XS (h:DR L S Y w bZ vo vp vb bv) (x:Int) (hx:¬(0≤x∧x<L.n)) :
  Calls prog 53 #[.pointer (some ⟨L.b,0,none⟩),.int .i64 x] w fun e w'=>e = .returned (.tuple #[.int .i64 0,.int .i64 3])∧w'=w:=by
 have c7:w.cell? ⟨L.b,7,none⟩=some (.slice (some ⟨L.g,0,none⟩) L.n L.gc):=h.dV rfl;have hn:=h.n64;clear h
 by_cases h0:x<0
 ·go_enter func53,ntmps53
  go_wp2;exact cR (v:=.tuple #[.int .i64 0,.int .i64 3]) (by simp [results,results53,go_sem]) rfl ⟨rfl,rfl⟩
 ·have h1:(L.n:Int)≤x:=by omega
  clear hx;go_enter func53,ntmps53;go_wp2;exact cR (v:=.tuple #[.int .i64 0,.int .i64 3]) (by simp [results,results53,go_sem]) rfl ⟨rfl,rfl⟩
theorem TU (h:DR L S Y w bZ vo vp vb bv) (ht:t<L.n) (hp:(Y.th t).part=0) :
  Calls prog 53 #[.pointer (some ⟨L.b,0,none⟩),.int .i64 (t:Int)] w fun e w'=>e = .returned (.tuple #[.int .i64 0,.int .i64 5])∧w'=w:=by
 have c7:w.cell? ⟨L.b,7,none⟩=some (.slice (some ⟨L.g,0,none⟩) L.n L.gc):=h.dV rfl;have hn:=h.n64;have cp:=h.ptr t ht;have t3:w.cell? ⟨L.bT t,3,none⟩=some (.int .i64 ((Y.th t).part:Int)):=h.dR ht rfl;rw [hp] at t3;have mP:(0:Int)≤(t:Int):=by omega
 have fM:(t:Int)<(L.n:Int):=by omega
 have xW:¬(L.n:Int)≤(t:Int):=by omega
 clear h;go_enter func53,ntmps53;go_wp2;exact cR (v:=.tuple #[.int .i64 0,.int .i64 5]) (by simp [results,results53,go_sem]) rfl ⟨rfl,rfl⟩
def half (n:Nat) (Y:aR) (x:bJ):bJ:={x with left:=x.left-1,flipped:=if x.part=6 then fun k=>if k / 16=M.tw n-(x.left-1)-1∧k<n then (Y.th k).aO else x.flipped k else x.flipped}
theorem js (n cap:Nat) (Y:aR) (t:Nat):M.dZ n cap Y t=if 0<(Y.th t).left-1 then (Y.set t (half n Y (Y.th t)),false) else M.over n cap Y t (half n Y (Y.th t)):=rfl
end
section
variable {L:DL} {S:Nat→Prop} {Y:aR} {w:World} {bZ:Nat→Nat} {vo vp:Nat→Value} {vb:Value} {bv:Nat→Value} {t:Nat}
theorem OB (n:Nat) (Y:aR) (x:bJ) (h:x.part≠6):half n Y x = {x with left:=x.left-1}:=by unfold half;rw [aN h]
theorem aAI (n d:Nat) (Y:aR) (t:Nat) (x':bJ) (h:(Y.th t).part=6) (hd:d=M.tw n-((Y.th t).left-1)-1) (hx:x' = {Y.th t with left:=(Y.th t).left-1}) :
  {x' with flipped:=fun k=>if k / 16=d∧k<n then ((Y.set t x').th k).aO else x'.flipped k} = half n Y (Y.th t):=by
 subst hx hd;unfold half;rw [aJ h];have:∀ k,((Y.set t {Y.th t with left:=(Y.th t).left-1}).th k).aO=(Y.th k).aO:=fun k=>by
  unfold M.aR.set aM;dsimp only
  split
  ·rename_i e;subst e;rfl
  ·rfl
 simp only [this]
theorem aFk {n:Nat} {x:bJ} (p:Nat) (hn:n≤64) (hb:x.aG≤64) (hp:p=8→x.aK.length≤64):x.len n p≤1000:=by
 unfold bJ.len M.bC M.tw
 repeat (first|omega|split)
theorem dA.self (h:DR L S Y w bZ vo vp vb bv):dA L S Y bZ vo vp vb bv w w:=⟨h,Fr.refl _ _,rfl⟩
structure aGG (L:DL) (Y:aR) (t:Nat):Prop where
 l1:1≤(Y.th t).left
 l2:(Y.th t).left≤(Y.th t).len L.n (Y.th t).part
 ov:aAe L Y t
theorem aAe.ot (o:aAe L Y t):aAe L (Y.set t (half L.n Y (Y.th t))) t:=by
 have e:(Y.set t (half L.n Y (Y.th t))).th t=half L.n Y (Y.th t):=cD _ _ _;constructor
 ·rw [e];exact o.p1
 ·rw [e];exact o.p11
 ·rw [e];exact o.fl
 ·rw [e];exact o.en
 ·rw [e];exact o.bk
 ·exact o.bs
 ·rw [e];exact o.pl
 ·intro h7 k hk
  have h7':(Y.th t).part=7:=by rw [e] at h7;exact h7
  rw [e,OB _ _ _ (by omega)];exact o.ck h7' k hk
theorem TT (h:DR L S Y w bZ vo vp vb bv) (ht:t<L.n) (o:aGG L Y t) :
  Calls prog 53 #[.pointer (some ⟨L.b,0,none⟩),.int .i64 (t:Int)] w fun e w'=>e = .returned (.tuple #[.int .i64 (QK (M.dZ L.n L.cap Y t).2),.int .i64 0])∧eO L S w (M.dZ L.n L.cap Y t).1 w':=by
 have c7:w.cell? ⟨L.b,7,none⟩=some (.slice (some ⟨L.g,0,none⟩) L.n L.gc):=h.dV rfl;have hn:=h.n64;have xV:=h.n1;have cp:=h.ptr t ht;have t3:w.cell? ⟨L.bT t,3,none⟩=some (.int .i64 ((Y.th t).part:Int)):=h.dR ht rfl;have t4:w.cell? ⟨L.bT t,4,none⟩=some (.int .i64 ((Y.th t).left:Int)):=h.dR ht rfl;have f4:=(h.th t ht).frozen 4;have mP:(0:Int)≤(t:Int):=by omega
 have fM:(t:Int)<(L.n:Int):=by omega
 have xW:¬(L.n:Int)≤(t:Int):=by omega
 have hp0:¬((Y.th t).part:Int)=0:=by have:=o.ov.p1;omega
 have PU:=o.l1;have hlM:(Y.th t).left≤1000000:=by
  have h2:=o.l2;have h3:=aFk (n:=L.n) (x:=Y.th t) (Y.th t).part h.n64 (bK o.ov.bk h.RK) (fun q=>o.ov.pl (by omega) (by omega));omega
 have H1:=aA (h.put ht 4 (.int .i64 (((Y.th t).left-1:Nat):Int)) (x':={Y.th t with left:=(Y.th t).left-1}) rfl rfl rfl rfl);have HW:=aA (show ((((Y.th t).left-1:Nat):Int))=((Y.th t).left:Int)-1 by omega);have HO:=aA o;clear h o;rw [js]
 by_cases h6:(Y.th t).part=6
 ·generalize hR:(if 0<(Y.th t).left-1 then (Y.set t (half L.n Y (Y.th t)),false) else M.over L.n L.cap Y t (half L.n Y (Y.th t)))=R
  have HR:=aA hR;clear hR;have htw:M.tw L.n≤4:=by unfold M.tw;omega
  have htl:(Y.th t).left≤M.tw L.n:=by have:=HO.out.l2;rw [h6] at this;simpa [bJ.len] using this
  obtain ⟨d,hd⟩:∃ d,d=M.tw L.n-((Y.th t).left-1)-1:=⟨_,rfl⟩;have aHp:16*d<L.n:=by rw [hd];unfold M.tw at htl ⊢;omega
  have HDI:=aA (show (M.tw L.n:Int)-(((Y.th t).left:Int)-1)-1=(d:Int) by omega);have q1:=H1.out.dr;have HWd:=aA (aCM (show DR L S _ _ bZ vo vp vb bv from (dA.drew (dA.self q1)).dr) ht d aHp);have HX:=aA (aAI L.n d Y t _ h6 hd rfl);have HT:=aA (dA.drew (dA.self q1));have HC:=aA (fun (W:World) (hW:W.cell? ⟨L.b,1,none⟩=some (.int .i64 (L.n:Int)))=>FT W hW hn);have HC1:=aA (show _=some (Value.int .i64 (L.n:Int)) from q1.dV (j:=1) rfl);have HC4:=aA (show (w.setCell ⟨L.bT t,4,none⟩ (.int .i64 (((Y.th t).left-1:Nat):Int))).cell? ⟨L.bT t,4,none⟩=some (Value.int .i64 ((((Y.th t).left-1:Nat):Int))) from by rw [q1.dR ht (j:=4) rfl,cD]);rw [←HDI.out] at HWd;rw [h6] at t3;rw [HW.out] at H1 HWd HT HC1 HC4;clear q1 hd aHp HDI;generalize hgt:M.tw L.n=tw at *;clear hgt;go_enter func53,ntmps53;go_upto_region 8 with fail;generalize World.setCell w _ _=W1 at *;have c1:=HC1.out;have c4:=HC4.out;refine fH (S:=(fun w'=>w'.cell? ⟨L.bT t,4,none⟩=some (.int .i64 (((Y.th t).left:Int)-1))∧w'.cell? ⟨L.b,1,none⟩=some (.int .i64 (L.n:Int)))) 11 rfl (by kernel_rfl) ?_ (fun hHeld=>?_)
  ·exact ⟨c4,c1⟩
  iterate 3 (refine tk 10 (by rfl) (by kernel_rfl) (by exact fun _ _ _ h=>h) (.inl ⟨by rfl,fun w hS=>by (try dsimp only at hS);go_simp;(try with_reducible rfl)⟩) (by assumption) ?_;try go_frame)
  iterate 4 (refine tk 11 (by rfl) (by kernel_rfl) (by exact fun _ _ _ h=>h) (.inl ⟨by rfl,fun w hS=>by (try dsimp only at hS);go_simp;(try with_reducible rfl)⟩) (by assumption) ?_;try go_frame)
  refine cT 3 (by rfl) (by kernel_rfl) (fun K hK=>?_);go_simp;refine (HC.out _ hHeld.2).mono ?_;rintro e w2 ⟨rfl,rfl⟩;go_wp2_with fail;refine hK.out _ _ ?_ (fun hHeld=>?_)
  ·exact hHeld
  clear hK K
  (try go_frame)
  iterate 2 (refine tk 10 (by rfl) (by kernel_rfl) (by exact fun _ _ _ h=>h) (.inl ⟨by rfl,fun w hS=>by (try dsimp only at hS);go_simp;(try with_reducible rfl)⟩) (by assumption) ?_;try go_frame)
  refine cT 10 (by rfl) (by kernel_rfl) (fun K hK=>?_);go_simp;rw [eS ((tw:Int)-(((Y.th t).left:Int)-1)) (by omega) (by omega),eS ((tw:Int)-(((Y.th t).left:Int)-1)-1) (by omega) (by omega)]
  with_reducible refine HWd.out.mono ?_
  rintro e w3 ⟨rfl,h3⟩;have h4:dA L S (Y.set t (half L.n Y (Y.th t))) bZ vo vp vb bv w w3:=H1.out.next (HT.out.next (h3.cast (by rw [cD,set_set,HX.out])));have k4:w3.cell? ⟨L.bT t,4,none⟩=some (.int .i64 (((Y.th t).left:Int)-1)):=by rw [h4.dr.dR ht (j:=4) rfl,cD,←HW.out];rfl
  have k1:w3.cell? ⟨L.b,1,none⟩=some (.int .i64 (L.n:Int)):=h4.dr.dV rfl;have H4:=aA h4;clear h3 h4;go_wp2_with fail;refine hK.out _ _ ?_ (fun hHeld=>?_)
  ·exact ⟨k4,k1⟩
  clear hK K
  (try go_frame)
  refine cC (by kernel_rfl) ?_ _;obtain ⟨e4,-⟩:=hHeld
  by_cases hl:0<(Y.th t).left-1
  ·have eR:R=(Y.set t (half L.n Y (Y.th t)),false):=by rw [←HR.out,aJ hl]
   clear HR;subst eR;have hl':(0:Int)<((Y.th t).left:Int)-1:=by omega
   go_wp2_with fail;exact cR (v:=.tuple #[.int .i64 1,.int .i64 0]) (by simp [results,results53,go_sem]) rfl ⟨rfl,H4.out.left⟩
  ·have eR:R=M.over L.n L.cap Y t (half L.n Y (Y.th t)):=by rw [←HR.out,aN hl]
   clear HR;subst eR;have hl':((Y.th t).left:Int)-1=0:=by omega
   have HV2:=nk H4.out.dr ht HO.out.ov.ot;rw [cD,M.YU] at HV2;have HV3:=aA HV2;rw [hl'] at e4;clear HV2 HO hl' PU hlM;go_wp2_with fail;refine HV3.out.mono ?_;rintro e w5 ⟨rfl,h5⟩;have H5:=aA (H4.out.then h5);clear h5;go_wp2_with fail;exact cR (v:=.tuple #[.int .i64 (QK (M.over L.n L.cap Y t (half L.n Y (Y.th t))).2),.int .i64 0]) (by simp [results,results53,go_sem]) rfl ⟨rfl,H5.out⟩
 ·have hh:=OB L.n Y (Y.th t) h6
  have h6':¬((Y.th t).part:Int)=6:=by omega
  rw [←hh] at H1;clear hh
  by_cases hl:0<(Y.th t).left-1
  ·simp only [aJ hl]
   have hl':(0:Int)<((Y.th t).left:Int)-1:=by omega
   rw [HW.out] at H1;go_enter func53,ntmps53;go_wp2_with fail;exact cR (v:=.tuple #[.int .i64 1,.int .i64 0]) (by simp [results,results53,go_sem]) rfl ⟨rfl,H1.out.left⟩
  ·have hl':((Y.th t).left:Int)-1=0:=by omega
   simp only [aN hl];have HV:=aA (nk H1.out.dr ht HO.out.ov.ot);have HV2:=HV.out;rw [cD,M.YU] at HV2;have HV3:=aA HV2;clear HV HV2;rw [HW.out,hl'] at H1 HV3;have aHy:((Y.th t).left:Int)=1:=by omega
   rw [aHy] at t4;clear HO hl' aHy PU hlM;go_enter func53,ntmps53;go_wp2_with fail;refine HV3.out.mono ?_;rintro e w3 ⟨rfl,h3⟩;have H4:=aA (H1.out.then h3);clear h3;go_wp2_with fail;exact cR (v:=.tuple #[.int .i64 (QK (M.over L.n L.cap Y t (half L.n Y (Y.th t))).2),.int .i64 0]) (by simp [results,results53,go_sem]) rfl ⟨rfl,H4.out⟩
end
theorem aC3:(prog.info? 36).map (fun i=>(i.zero,i.size,i.bytes))=some (some (.agg #[.int .i64 0,.int .i64 0,.int .i64 0]),3,24):=by kernel_rfl
section
variable {L:DL} {S:Nat→Prop} {Y:aR} {w:World} {bZ:Nat→Nat} {vo vp:Nat→Value} {vb:Value} {bv:Nat→Value} {t:Nat}
theorem ZH {w w':World} {b o:Nat} {xs:List Value} (hb:Below w.heap.size w w') (h:w.rangeAt b o xs):w'.rangeAt b o xs:=fun j v hv=>aI hb (h j v hv)
theorem ZG {w w':World} {row:Option Nat} {b o:Nat} {xs:List Value} (hg:w.grownBy w' row) (h:w.rangeAt b o xs) (hne:some b≠row):w'.rangeAt b o xs:=fun j v hv=>hg.cell (h j v hv) hne
theorem xy {w:World} {a:Addr} {b o:Nat} {xs:List Value} (h:w.rangeAt b o xs) (hne:b≠a.block) (u:Value):(w.setCell a u).rangeAt b o xs:=fun j v hv=>aH (h j v hv) (.inl hne)
theorem DR.begun (h:DR L S Y w bZ vo vp vb bv) (ht:t<L.n) {w2 w4:World} (hb:Below w.heap.size w w2) (dP:w2.grownBy w4 (vo t).ownBlock) {g c:Nat} (hg:(vo t).ownBlock=some g∨g=w2.heap.size) {op:M.Op}
  (hown:w4.ownsRow 0 36 3 (.slice (some ⟨g,0,none⟩) ((Y.th t).ops.length+1) c) ((Y.th t).ops.length+1) (EU (Y.th t).ops++[.int .i64 op.c,.int .i64 op.a,.int .i64 op.b])) (hg4:g<w4.heap.size) {w5:World}
  (h5:w5=(((w4.setCell ⟨L.bT t,0,none⟩ (.slice (some ⟨g,0,none⟩) ((Y.th t).ops.length+1) c)).setCell ⟨L.bT t,6,none⟩ (.int .i64 0)).setCell ⟨L.bT t,3,none⟩ (.int .i64 1)).setCell ⟨L.bT t,4,none⟩ (.int .i64 3)):eO L S w (M.eE Y t op) w5:=by
 have qt:=h.PW t ht;have hz:=hb.size;have hlt:=h.lt _ qt.1
 -- blocks that were not touched
 have old:∀ k,k<w.heap.size→k≠L.bT t→(vo t).ownBlock≠some k→w5.heap[k]?=w.heap[k]?:=fun k hk h2 h3=>by
  rw [h5,cZ _ _ _ k h2,cZ _ _ _ k h2,cZ _ _ _ k h2,cZ _ _ _ k h2,dP.block k (by omega) (fun e=>h3 e.symm)];exact hb.block k hk
 have keep:∀ k,S k→bZ k≠4*t+6→bZ k≠4*t+4→w5.heap[k]?=w.heap[k]?:=fun k hS h6 h4=>old k (h.lt k hS) (fun e=>h4 (by rw [e];exact qt.2)) (fun e=>h6 (h.BB t ht k e).2)
 have r4t:Row w4 (L.bT t) 109 (QJ (Y.th t) (L.bF t) L.n (vo t) (vp t)):=(h.th t ht).of_block ((dP.block _ (by omega) (fun e=>by have:=(h.BB t ht _ e.symm).2;rw [qt.2] at this;omega)).trans (hb.block _ hlt));have r5t:Row w5 (L.bT t) 109 (QJ {Y.th t with ops:=(Y.th t).ops++[op],tries:=0,part:=1,left:=3} (L.bF t) L.n (.slice (some ⟨g,0,none⟩) ((Y.th t).ops.length+1) c) (vp t)):=by
  rw [h5];exact (((r4t.set 0 _).set 6 _).set 3 _).set 4 _
 have DU:g≠L.bT t:=by
  rcases hg with e|e
  ·have:=(h.BB t ht g e).2
   exact fun q=>by rw [q,qt.2] at this;omega
  ·omega
 have aAY:w5.ownsRow 0 36 3 (.slice (some ⟨g,0,none⟩) ((Y.th t).ops.length+1) c) ((Y.th t).ops.length+1) (EU (Y.th t).ops++[.int .i64 op.c,.int .i64 op.a,.int .i64 op.b]):=by
  rw [h5];refine aZ hown fun k e=>?_
  have e:g=k:=by simpa [Value.ownBlock] using e
  subst e;rw [cZ _ _ _ g DU,cZ _ _ _ g DU,cZ _ _ _ g DU,cZ _ _ _ g DU]
 have hz5:w5.heap.size=w4.heap.size:=by rw [h5];simp [World.setCell]
 have hS:∀ k,S k→Grow S w w5 k∧OJ bZ w (4*t+6) k=bZ k:=fun k hS=>⟨.inl hS,uW (h.lt k hS)⟩
 refine ⟨⟨OJ bZ w (4*t+6),aM vo t (.slice (some ⟨g,0,none⟩) ((Y.th t).ops.length+1) c),aM vp t (vp t),vb,bv,?_⟩,?_⟩
 ·refine DR.move (bs':=Y.bs) h ht (fun k hS h0 h2 h4 _ h6=>keep k hS h6 h4) hS (fun k hk=>?_) (h.obj.of_block (keep _ h.PV.1 (by rw [h.PV.2];omega) (by rw [h.PV.2];omega))) r5t ?_ ?_ ?_ ?_ ?_ ?_ ?_ ?_ ?_
  ·rcases hk with hk|hk
   ·have:=h.lt k hk;have:=dP.size;omega
   ·exact hk.2
  ·exact (h.fl t ht).of_block (keep _ (h.PT t ht).1 (by rw [(h.PT t ht).2];omega) (by rw [(h.PT t ht).2];omega))
  ·dsimp only
   rw [YT,eD,JA];exact aAY
  ·intro k e
   have e:g=k:=by simpa [Value.ownBlock] using e
   subst e
   rcases hg with q|q
   ·exact ⟨.inl (h.BB t ht g q).1,(uW (h.lt g (h.BB t ht g q).1)).trans (h.BB t ht g q).2⟩
   ·exact ⟨.inr ⟨by omega,by omega⟩,OK (by omega)⟩
  ·exact aZ h.TL fun k e=>keep k (h.CA k e).1 (by rw [(h.CA k e).2];omega) (by rw [(h.CA k e).2];omega)
  ·intro k e
   exact ⟨(hS k (h.CA k e).1).1,(hS k (h.CA k e).1).2.trans (h.CA k e).2⟩
  ·exact fun i hi=>(h.ez i hi).of_block fun k e=>keep k (h.FB i hi k e).1 (by rw [(h.FB i hi k e).2];omega) (by rw [(h.FB i hi k e).2];omega)
  ·exact fun i hi k e=>⟨(hS k (h.FB i hi k e).1).1,(hS k (h.FB i hi k e).1).2.trans (h.FB i hi k e).2⟩
  ·exact (h.MP t ht).of_block fun k e=>keep k (h.JV t ht k e).1 (by rw [(h.JV t ht k e).2];omega) (by rw [(h.JV t ht k e).2];omega)
  ·intro k e
   exact ⟨(hS k (h.JV t ht k e).1).1,(hS k (h.JV t ht k e).1).2.trans (h.JV t ht k e).2⟩
 ·refine ⟨?_,?_,?_,?_,?_⟩
  ·rw [h5];exact dP.os.trans hb.os
  ·rw [h5];exact dP.tape.trans hb.tape
  ·rw [h5];exact dP.output.trans hb.output
  ·have:=dP.size;omega
  ·intro k hk hS
   exact old k hk (fun e=>hS (e▸qt.1)) (fun e=>hS (h.BB t ht k e).1)
theorem FO (h:DR L S Y w bZ vo vp vb bv) (x:Int) (hx:¬(0≤x∧x<L.n)) (op:M.Op) :
  Calls prog 43 #[.pointer (some ⟨L.b,0,none⟩),.int .i64 x,.agg #[.int .i64 op.c,.int .i64 op.a,.int .i64 op.b]] w fun e w'=>e = .returned (.int .i64 3)∧Below w.heap.size w w':=by
 have c7:w.cell? ⟨L.b,7,none⟩=some (.slice (some ⟨L.g,0,none⟩) L.n L.gc):=h.dV rfl;have c7':=fun ob=>bO c7 ob
 have hn:=h.n64;clear h
 by_cases h0:x<0
 ·go_enter func43,ntmps43
  go_wp2;go_ret;exact ⟨rfl,aB _ _⟩
 ·have h1:(L.n:Int)≤x:=by omega
  clear hx;go_enter func43,ntmps43;go_wp2;go_ret;exact ⟨rfl,aB _ _⟩
theorem DT (h:DR L S Y w bZ vo vp vb bv) (ht:t<L.n) (hp:(Y.th t).part≠0) (op:M.Op) :
  Calls prog 43 #[.pointer (some ⟨L.b,0,none⟩),.int .i64 (t:Int),.agg #[.int .i64 op.c,.int .i64 op.a,.int .i64 op.b]] w fun e w'=>e = .returned (.int .i64 4)∧Below w.heap.size w w':=by
 have c7':=fun ob=>bO (show w.cell? ⟨L.b,7,none⟩=some (.slice (some ⟨L.g,0,none⟩) L.n L.gc) from h.dV rfl) ob
 have hn:=h.n64;have cp:=fun ob=>bO (h.ptr t ht) ob
 have t3:=fun ob=>bO (show w.cell? ⟨L.bT t,3,none⟩=some (.int .i64 ((Y.th t).part:Int)) from h.dR ht rfl) ob
 have hp0:¬((Y.th t).part:Int)=0:=by omega
 have mP:(0:Int)≤(t:Int):=by omega
 have fM:(t:Int)<(L.n:Int):=by omega
 have xW:¬(L.n:Int)≤(t:Int):=by omega
 clear h;go_enter func43,ntmps43;go_wp2;go_ret;exact ⟨rfl,aB _ _⟩
theorem QD (h:DR L S Y w bZ vo vp vb bv) (ht:t<L.n) (hp:(Y.th t).part=0) (op:M.Op) (hO:(Y.th t).ops.length≤1000000000) :
  Calls prog 43 #[.pointer (some ⟨L.b,0,none⟩),.int .i64 (t:Int),.agg #[.int .i64 op.c,.int .i64 op.a,.int .i64 op.b]] w fun e w'=>e = .returned (.int .i64 0)∧eO L S w (M.eE Y t op) w':=by
 obtain ⟨si,hsi,hsz⟩:=eZ.1 aC3;simp only [fW] at hsz;obtain ⟨hs1,hs2,hs3⟩:=hsz;have HSI:=aA hsi;have zy:=aA hs1;have HS2:=aA hs2;have HS3:=aA hs3;clear hsi hs1 hs2 hs3;have hn:=h.n64;have mP:(0:Int)≤(t:Int):=by omega
 have fM:(t:Int)<(L.n:Int):=by omega
 have xW:¬(L.n:Int)≤(t:Int):=by omega
 have sQ:∀ k,(vo t).ownBlock=some k→k<w.heap.size:=fun k e=>h.lt k (h.BB t ht k e).1
 have htl:=(h.th t ht).lt;have HH:=aA h;clear h;go_enter func43,ntmps43;go_upto_region 1 with fail;generalize pT:World.alloc w _=W0 at *;have hb0:Below w.heap.size w W0:=by rw [←pT];exact aB _ _
 have aEQ:Row W0 w.heap.size 36 [.int .i64 op.c,.int .i64 op.a,.int .i64 op.b]:=by rw [←pT];exact aV rfl
 have hz0:w.heap.size<W0.heap.size:=aEQ.lt;have c7:W0.cell? ⟨L.b,7,none⟩=some (.slice (some ⟨L.g,0,none⟩) L.n L.gc):=aI hb0 (HH.out.dV rfl);have cp:=aI hb0 (HH.out.ptr t ht);have t3:W0.cell? ⟨L.bT t,3,none⟩=some (.int .i64 ((Y.th t).part:Int)):=aI hb0 (HH.out.dR ht rfl);rw [hp] at t3;have cv:W0.cell? ⟨L.bT t,0,none⟩=some (vo t):=aI hb0 (HH.out.dR ht rfl);have FC:W0.there (L.bT t) 0 1:=aU hb0 ((HH.out.th t ht).there (by simp [QJ]));have aAX:some (L.bT t)≠(vo t).ownBlock:=fun e=>by have h1:=(HH.out.BB t ht _ e.symm).2;have h2:=(HH.out.PW t ht).2;rw [h2] at h1;omega
 have gz:some w.heap.size≠(vo t).ownBlock:=fun e=>by have:=sQ _ e.symm;omega
 have hsz:(prog.info? 106).map (·.size)=some 1:=by kernel_rfl
 have aFf:(prog.info? 36).map (·.size)=some 3:=by kernel_rfl
 have zk:=aA cv;have fG:=aA hb0;have rB:W0.rangeAt w.heap.size 0 [.int .i64 op.c,.int .i64 op.a,.int .i64 op.b]:=fun j v hv=>by rw [nJ];exact aEQ.cell_of hv
 have HOW:=aA (eJ (HH.out.ops t ht) hb0);clear aEQ cv hb0 pT;go_upto_region 6 with fail;refine fH (S:=(fun w'=>w'.rangeAt w.heap.size 0 [.int .i64 op.c,.int .i64 op.a,.int .i64 op.b]∧w'.there (L.bT t) 0 1)) 11 rfl (by kernel_rfl) ?_ (fun hHeld=>?_)
 ·exact ⟨rB,FC⟩
 repeat' first
  |(
   (first|refine ZY [4,5,6,7,10] 10 (by rfl) (by decide +kernel) ?_)
   refine ⟨_,by exact fun _ _ _ h=>h,.inl ⟨by rfl,fun w hS=>by (try dsimp only at hS);go_simp;(try with_reducible rfl)⟩,by assumption,?_⟩
   (try go_frame)
   )
  |(
   (first|refine pF 5 (by rfl) (by decide +kernel) (fun K hK PY=>?_)|refine pF 6 (by rfl) (by decide +kernel) (fun K hK PY=>?_)|refine pF 7 (by rfl) (by decide +kernel) (fun K hK PY=>?_)|refine pF 10 (by rfl) (by decide +kernel) (fun K hK PY=>?_)|refine pF 4 (by rfl) (by decide +kernel) (fun K hK PY=>?_)|refine fC (rs:=[4,5]) (by decide +kernel) (by simp) (JF (by rfl) (fun K hK PY=>?_) (JF (by rfl) (fun K hK PY=>?_) AllReadyH.nil))|refine fC (rs:=[4,6]) (by decide +kernel) (by simp) (JF (by rfl) (fun K hK PY=>?_) (JF (by rfl) (fun K hK PY=>?_) AllReadyH.nil)))
   all_goals first
    |(
     have _:On 4:=PY;rw [aJ (by rfl)];refine jG _ _ rfl _ _ (vo t) rfl (by kernel_rfl) (by refine aI ?_ zk.out;repeat (first|exact aT _ _|refine dU ?_|refine cI ?_ (by first|(simp;done)|(simp;omega)) _)) ?_;refine hK.out _ _ ?_ (fun hHeld=>?_)
     ·exact hHeld
     clear hK K PY
     (try go_frame)
     )
    |(
     have _:On 5:=PY;rw [aJ (by rfl)];refine wp_load_mid 36 (.tmp 5) rfl w.heap.size 0 rfl [.int .i64 op.c,.int .i64 op.a,.int .i64 op.b] _ ?_ underlying36 rfl ?_ ?_
     ·exact hHeld.1
     ·exact aFf
     refine hK.out _ _ ?_ (fun hHeld=>?_)
     ·exact hHeld
     clear hK K PY
     (try go_frame)
     )
    |(
     have _:On 6:=PY;go_simp;refine hK.out _ _ ?_ (fun hHeld=>?_)
     ·exact ⟨ZH (aB _ _) hHeld.1,BJ hHeld.2 _⟩
     clear hK K PY
     (try go_frame)
     )
    |(
     have _:On 7:=PY;refine yE _ rfl (.tmp 35) (.tmp 37) 106 rfl 0 36 si (.agg #[.int .i64 0,.int .i64 0,.int .i64 0]) 3 24 underlying106 HSI.out zy.out HS2.out HS3.out rfl (by decide) (vo t) (Y.th t).ops.length (EU (Y.th t).ops) rfl ?_ ⟨W0.heap.size,0,none⟩ 1 1 [.int .i64 op.c,.int .i64 op.a,.int .i64 op.b] rfl rfl ?_ (by simp [Value.oneCell']) (by decide) (by unfold maxLen;omega) (by omega) (aW _) _ rfl ?_
     ·exact HOW.out.alloc _
     ·exact jH (aV (by simp))
     intro g gc w4 hown dP hat oQ;have HO:=aA hown;have HG:=aA dP;have HA:=aA hat;have hl4:=oQ;clear hown dP hat oQ;refine hK.out _ _ ?_ (fun hHeld=>?_)
     ·exact ⟨ZG HG.out hHeld.1 gz,(aBk HG.out ⟨hHeld.1 0 _ rfl,hHeld.2⟩ aAX gz).2⟩
     clear hK K PY
     (try go_frame)
     )
    |(
     rw [aJ (by rfl)];refine aY _ _ _ rfl (L.bT t) 0 (.slice (some ⟨g,0,none⟩) ((Y.th t).ops.length+1) gc) rfl rfl rfl rfl hHeld.2 hsz ?_;refine hK.out _ _ ?_ (fun hHeld=>?_)
     ·exact ⟨xy hHeld.1 (by simp;omega) _,bA hHeld.2 _ rfl _⟩
     clear hK K PY
     (try go_frame)
     )
   )
  |(
   refine cC (by decide +kernel) ?_ _;have aEH:=aS fG.out (dU (aB W0 (.cells #[.int .i64 op.c,.int .i64 op.a,.int .i64 op.b] 36))) fG.out.size;have KP:Row w4 (L.bT t) 109 (QJ (Y.th t) (L.bF t) L.n (vo t) (vp t)):=((HH.out.th t ht).old aEH).of_block (HG.out.block _ (by simp;omega) aAX);have GD:=KP.set 0 (.slice (some ⟨g,0,none⟩) ((Y.th t).ops.length+1) gc);have x6:=GD.cell_of (i:=6) rfl;have x3:=GD.cell_of (i:=3) rfl;have x4:=GD.cell_of (i:=4) rfl;have y6:=GD.frozen 6;have y3:=GD.frozen 3;have y4:=GD.frozen 4;have hBG:=aA (DR.begun HH.out ht aEH HG.out HA.out HO.out hl4 rfl);clear KP GD hHeld HG HA HO aEH;generalize World.setCell w4 ⟨L.bT t,0,none⟩ (.slice (some ⟨g,0,none⟩) ((Y.th t).ops.length+1) gc)=W5 at *;go_wp2_with fail;go_ret;exact ⟨rfl,hBG.out⟩
   )
end
end Go.Proofs.YtefjhnhdagolhaaGreat
namespace Go.Proofs.YtefjhnhdagolhaaGreat
open Tryz
open Go.RowKit
open M (aM aC aD aR bJ cnt marks tagged num)
attribute [local go_sem ↓] Go.wp_at_zero Go.wp_at_succ
theorem OH:(prog.info? 81).map (fun i=>(i.zero,i.size,i.bytes))=some (some (.agg #[.int .i64 0,.int .i64 0,.int .i64 0]),3,24):=by kernel_rfl
def eB (l:List M.Mark):List Value:=l.flatMap fun m=>[.int .i64 (m.b:Int),.int .i64 (m.t:Int),.int .i64 (m.s:Int)]
theorem nF (l m:List M.Mark):eB (l++m)=eB l++eB m:=by simp [eB]
theorem YR (a:M.Mark) (l:List M.Mark):eB (a::l) = .int .i64 (a.b:Int)::.int .i64 (a.t:Int)::.int .i64 (a.s:Int)::eB l:=by simp [eB]
theorem mF (l:List M.Mark) (i:Nat) (hi:i<l.length):(eB l)[i*3]?=some (.int .i64 ((l[i]).b:Int))∧(eB l)[i*3+1]?=some (.int .i64 ((l[i]).t:Int))∧(eB l)[i*3+2]?=some (.int .i64 ((l[i]).s:Int)):=by
 induction l generalizing i with
 |nil=>exact absurd hi (pY _)
 |cons a l ih =>
  cases i with
  |zero=>exact ⟨rfl,rfl,rfl⟩
  |succ i =>
   have:=ih i (by simpa using hi);rw [YR,show (i+1)*3=i*3+1+1+1 by omega,show i*3+1+1+1+1=i*3+1+1+1+1 from rfl,show i*3+1+1+1+2=i*3+2+1+1+1 by omega];simp only [List.getElem?_cons_succ,List.getElem_cons_succ];exact this
def ahead (bs:List (List Nat)) (i r:Nat):List (Nat×Nat):=tagged (num (bs.take i))++((bs.getD i []).take r).map fun t=>(i+1,t)
theorem cz (bs:List (List Nat)) (i r:Nat) (hi:i<bs.length) (hr:r<(bs[i]).length):ahead bs i (r+1)=ahead bs i r++[(i+1,(bs[i])[r])]:=by
 have e:bs.getD i []=bs[i]:=by simp [List.getD,eT hi]
 unfold ahead;rw [e,BI hr,List.map_append,BL];rfl
theorem ru (bs:List (List Nat)) (i r:Nat) (hi:i<bs.length) (hr:(bs[i]).length≤r):ahead bs i r=ahead bs (i+1) 0:=by
 have e:bs.getD i []=bs[i]:=by simp [List.getD,eT hi]
 unfold ahead;rw [e,rZ hr,BI hi,M.ET,M.LB,ZW,Nat.min_eq_left (Nat.le_of_lt hi)];simp
theorem rq (bs:List (List Nat)):ahead bs bs.length 0=tagged (num bs):=by
 unfold ahead;simp
theorem zV (bs:List (List Nat)) (i:Nat):(bs.take i).flatten.length≤bs.flatten.length:=by
 have:bs.flatten=(bs.take i).flatten++(bs.drop i).flatten:=by rw [←aBV,List.take_append_drop]
 rw [this,eD];omega
theorem ry (bs:List (List Nat)) (i r:Nat):(ahead bs i r).length≤bs.flatten.length:=by
 have hl:∀ bs:List (List Nat),(tagged (num bs)).length=bs.flatten.length:=fun bs=>by
  have:=congrArg List.length (M.EX bs);simpa using this
 by_cases hi:i<bs.length
 ·have e:bs.getD i []=bs[i]:=by simp [List.getD,eT hi]
  have h1:=zV bs (i+1);rw [BI hi] at h1;unfold ahead;rw [e,eD,hl,LD,ZW];simp only [aBV,eD,List.flatten_singleton] at h1;omega
 ·have e:bs.getD i []=[]:=by simp [List.getD,EC (Nat.le_of_not_lt hi)]
  unfold ahead;rw [e,eD,hl];have:=zV bs i;rw [List.take_nil,List.map_nil,List.length_nil];omega
theorem ud (l:List (Nat×Nat)) (u:Nat) (hu:u<l.length) (t:Nat):((l.take (u+1)).map Prod.snd).count t=((l.take u).map Prod.snd).count t+if (l[u]).2=t then 1 else 0:=by
 rw [BI hu,List.map_append,SW];congr 1
 by_cases e:(l[u]).2=t<;>simp [e]
section
variable {L:DL} {S:Nat→Prop} {Y:aR} {w:World} {bZ:Nat→Nat} {vo vp:Nat→Value} {vb:Value} {bv:Nat→Value} {t:Nat}
theorem nH {w:World} {base:Nat} {e:TypeId} {size:Nat} {v:Value} {n:Nat} {xs:List Value} (h:w.ownsRow base e size v n xs) {i:Nat} {u:Value} (hi:xs[i]?=some u):∃ g c,v = .slice (some ⟨g,0,none⟩) n c∧w.cell? ⟨g,i,none⟩=some u:=by
 have hl:i<xs.length:=by
  rcases Nat.lt_or_ge i xs.length with q|q
  ·exact q
  ·rw [EC q] at hi;cases hi
 rcases h.2 with ⟨-,e⟩|⟨g,cap,cur,rfl,h3,h4,h5⟩
 ·have:=h.1;rw [e] at this;omega
 ·refine ⟨g,cap,rfl,?_⟩
  have:=h.cells (g:=g) rfl i u hi
  rwa [gS,nJ] at this
theorem XQ (h:DR L S Y w bZ vo vp vb bv) (hA:Y.bs.flatten.length≤1000000000000) :
  Calls prog 55 #[.pointer (some ⟨L.b,0,none⟩)] w fun e w'=>∃ v,e = .returned v∧w'.ownsRow w.heap.size 81 3 v Y.order.length (eB Y.order)∧Below w.heap.size w w':=by
 obtain ⟨mi,YE,YF⟩:=eZ.1 OH;simp only [fW] at YF;obtain ⟨AX,AY,AZ⟩:=YF;have zv:=aA YE;have kq:=aA AX;have zq:=aA AY;have zu:=aA AZ;clear YE AX AY AZ;obtain ⟨⟨a,c,rfl⟩,hm⟩:=bM h.TL;have hmx:maxLen=9223372036854775807:=rfl;have HH:=aA h;clear h;go_enter func55,ntmps55;go_wp2
 go_loopw [3,4] (fun o i w'=>∃ q:Nat,q≤Y.bs.length∧i = .int .i64 (q:Int)∧Below w.heap.size w w'∧w'.ownsRow w.heap.size 81 3 o (marks (ahead Y.bs q 0)).length (eB (marks (ahead Y.bs q 0)))) (fun _ i _=>Y.bs.length-(intOf i).toNat)
 case atStart=>exact ⟨0,aW _,rfl,aT _ _,jZ _ _ _ _⟩
 case round =>
  obtain ⟨q,hq,rfl,hB,hO⟩:=hrel;have c8:wr.cell? ⟨L.b,8,none⟩=some (.slice a Y.bs.length c):=aI hB (HH.out.dV rfl);have HB:=aA hB;have HO:=aA hO;clear hB hO
  by_cases hlt:q<Y.bs.length
  ·have hlt':(q:Int)<(Y.bs.length:Int):=by omega
   have hq0:(0:Int)≤(q:Int):=by omega
   obtain ⟨g,c',e1,cq⟩:=HH.out.aAj hlt;injection e1 with e1 _ e2
   subst e1 e2;obtain ⟨a2,c2,e3⟩:=(HH.out.ez q hlt).form;rw [e3] at cq;have hm2:(Y.bs[q]).length≤maxLen:=(bM (HH.out.ez q hlt)).2;have HCQ:=aA (aP (show w.cell? ⟨L.b,8,none⟩=_ from HH.out.dV rfl) cq);clear cq;go_wp2
   go_loopw [3,5] (fun o j w'=>∃ r:Nat,r≤(Y.bs[q]).length∧j = .int .i64 (r:Int)∧Below w.heap.size w w'∧w'.ownsRow w.heap.size 81 3 o (marks (ahead Y.bs q r)).length (eB (marks (ahead Y.bs q r)))) (fun _ j _=>(Y.bs[q]).length-(intOf j).toNat)
   case atStart=>exact ⟨0,aW _,rfl,HB.out,HO.out⟩
   case round =>
    rename_i w9;obtain ⟨r,hr,rfl,XW,QL⟩:=hrel;clear HB HO;have d8:=aI XW HCQ.out.1;have dq:=aI XW HCQ.out.2
    by_cases hrt:r<(Y.bs[q]).length
    ·have aA6:(r:Int)<((Y.bs[q]).length:Int):=by omega
     have om:(0:Int)≤(r:Int):=by omega
     obtain ⟨g2,c3,e4,cr⟩:=(HH.out.ez q hlt).at hrt;rw [e3] at e4;injection e4 with e4 _ e5
     subst e4 e5;have dr:=aI XW cr;have HL:=aA (ry Y.bs q r);have HSU:=aA (cz Y.bs q r hlt hrt);generalize hl:ahead Y.bs q r=l at *;generalize htt:(Y.bs[q])[r]=tt at *;have HLM:=aA (show (marks l).length≤1000000000000 by rw [M.uN];exact bK HL.out hA);obtain ⟨⟨oa,oc,rfl⟩,-⟩:=bM QL;have hlm:=HLM.out;have pW:=aA XW;have TE:=aA QL;have vw:=XW.size;clear XW QL;go_wp2
     go_loop [7,8] (fun s j=>∃ u:Nat,u≤(marks l).length∧j = .int .i64 (u:Int)∧s = .int .i64 ((((l.take u).map Prod.snd).count tt:Nat):Int)) (fun _ j=>(marks l).length-(intOf j).toNat)
     case atStart=>exact ⟨0,aW _,rfl,rfl⟩
     case round =>
      obtain ⟨u,hu,rfl,rfl⟩:=hrel;have hcb:((l.take u).map Prod.snd).count tt≤u:=bK List.count_le_length (by simp;omega)
      by_cases yx:u<(marks l).length
      ·have aFg:(u:Int)<((marks l).length:Int):=by omega
       have hu0:(0:Int)≤(u:Int):=by omega
       have hul:u<l.length:=by rw [M.uN] at yx;exact yx
       obtain ⟨og,oc',eo,co⟩:=nH TE.out (mF (marks l) u yx).2.1;injection eo with eo1 _ eo2
       subst eo1 eo2;have e9:((marks l)[u]).t=(l[u]).2:=by simp [marks]
       rw [e9] at co;have hs:=ud l u hul tt;clear e9;generalize (l[u]).2=lu at *
       by_cases hk:lu=tt
       ·have hk':((lu:Int) == (tt:Int))=true:=by simp [hk]
        have HV:=aA (show ((l.take (u+1)).map Prod.snd).count tt=((l.take u).map Prod.snd).count tt+1 by rw [hs,aJ hk]);clear hs hk;generalize ((l.take u).map Prod.snd).count tt=A at *;go_wp2
        go_round
        case rel=>exact ⟨u+1,by omega,by go_num,by rw [HV.out];go_num⟩
        case measure=>simp [intOf];omega
       ·have hk':((lu:Int) == (tt:Int))=false:=by simp;omega
        have HV:=aA (show ((l.take (u+1)).map Prod.snd).count tt=((l.take u).map Prod.snd).count tt by rw [hs,aN hk];rfl);clear hs hk;generalize ((l.take u).map Prod.snd).count tt=A at *;go_wp2
        go_round
        case rel=>exact ⟨u+1,by omega,by go_num,by rw [HV.out]⟩
        case measure=>simp [intOf];omega
      ·have aFg:¬(u:Int)<((marks l).length:Int):=by omega
       have HV:=aA (show ((l.take u).map Prod.snd).count tt=(l.map Prod.snd).count tt by rw [rZ (by rw [M.uN] at yx;omega)]);have HMS:=aA (M.OO l (q+1) tt);rw [HV.out] at hcb ⊢;clear HV;generalize (l.map Prod.snd).count tt=A at *;go_wp2_with (at_builtin;refine cY _ rfl (.tmp 55) (.tmp 61) 43 rfl w.heap.size 81 mi (.agg #[.int .i64 0,.int .i64 0,.int .i64 0]) 3 24 underlying43 zv.out kq.out zq.out zu.out rfl (by decide) _ (marks l).length _ rfl (TE.out.alloc _) ⟨_,0,none⟩ 1 1 [.int .i64 ((q:Int)+1),.int .i64 (tt:Int),.int .i64 (A:Int)] rfl rfl (jH (dH _ _ _)) (by simp [Value.oneCell']) (by decide) (by unfold maxLen;omega) (by omega) (by simp;omega) ?_);intro g3 c3 w3 hown dP DX DK;have cP:Below w.heap.size w w3:=(aS pW.out (aB _ _) vw).grown dP (by simp;omega) (fun q hq=>(TE.out.lt q hq).1);have HR:=aA (aP cP hown);clear hown dP DX DK cP;go_wp2;go_roundw
       case rel =>
        refine ⟨r+1,by omega,by go_num,HR.out.1,?_⟩;rw [HSU.out,HMS.out,nF,eD,JA];have:=HR.out.2;simpa [eB] using this
       case measure=>simp [intOf];omega
    ·have aA6:¬(r:Int)<((Y.bs[q]).length:Int):=by omega
     have HE:=aA (show wr.ownsRow w.heap.size 81 3 _ (marks (ahead Y.bs (q+1) 0)).length (eB (marks (ahead Y.bs (q+1) 0))) by rw [←ru Y.bs q r hlt (by omega)];exact QL);have pW:=aA XW;clear XW QL;go_wp2;go_roundw
     case rel=>exact ⟨q+1,by omega,by go_num,pW.out,HE.out⟩
     case measure=>simp [intOf];omega
  ·have hlt':¬(q:Int)<(Y.bs.length:Int):=by omega
   have hqe:q=Y.bs.length:=by omega
   have HE:=aA (show wr.ownsRow w.heap.size 81 3 _ Y.order.length (eB Y.order) by have:=HO.out;rw [hqe,rq] at this;exact this);clear HO hqe;go_wp2;go_ret;exact ⟨_,rfl,HE.out,HB.out⟩
end
end Go.Proofs.YtefjhnhdagolhaaGreat
