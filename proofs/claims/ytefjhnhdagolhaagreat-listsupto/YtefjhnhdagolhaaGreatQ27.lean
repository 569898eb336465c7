import Derived.Test.YtefjhnhdagolhaaGreatQ26
namespace Go.Proofs.YtefjhnhdagolhaaGreat
open Go.RowKit
open M (aI aC aD aR aT cnt)
attribute [local go_sem ↓] Go.wp_at_zero Go.wp_at_succ
section
variable {L:DL} {S:Nat→Prop} {Y:aR} {w:World} {bC:Nat→Nat} {vo vp:Nat→Value} {vb:Value} {bv:Nat→Value} {t:Nat}
structure TY (L:DL) (Y:aR) (t:Nat):Prop where
 p1:1≤(Y.th t).part
 p11:(Y.th t).part≤11
 fl:(Y.th t).aL≤1000000000
 en:(Y.th t).ended≤1000000000
 bk:(Y.th t).aE≤L.cap
 bs:Y.bs.length≤1000000000
 pl:8≤(Y.th t).part→(Y.th t).part≤10→(Y.th t).aK.length≤64
 ck:(Y.th t).part=7→∀ k,k<L.n→cnt Y.bs k≤1000000000∧(Y.th t).flipped k≤1000000000
def zW (b:Bool):Int:=if b=true then 2 else 1
theorem NC (h:DR L S Y w bC vo vp vb bv) (ht:t<L.n) (o:TY L Y t) :
  Calls Tryz.prog 87 #[.pointer (some ⟨L.b,0,none⟩),.int .i64 (t:Int)] w fun e w'=>e = .returned (.int .i64 (zW (M.over L.n L.cap Y t (Y.th t)).2))∧dL L S w (M.over L.n L.cap Y t (Y.th t)).1 w':=by
 rcases M.CN o.p1 o.p11 with c|c|c|c|c|c|c|c|c|c|c
 ·have e:M.over L.n L.cap Y t (Y.th t)=(Y.set t ((Y.th t).enter L.n (1+1)),false):=by unfold M.over;split<;>first|rfl|(exfalso;omega)|simp_all
  rw [e];exact gQ h ht 1 c (by decide) (by omega)
 ·have e:M.over L.n L.cap Y t (Y.th t)=(Y.set t (aT.enter L.n {Y.th t with aL:=(Y.th t).aL+1,tries:=1} 3),false):=by unfold M.over;split<;>first|rfl|(exfalso;omega)|simp_all
  rw [e];exact PB h ht c o.fl
 ·have e:M.over L.n L.cap Y t (Y.th t)=(Y.set t ((Y.th t).enter L.n (3+1)),false):=by unfold M.over;split<;>first|rfl|(exfalso;omega)|simp_all
  rw [e];exact gQ h ht 3 c (by decide) (by omega)
 ·have e:M.over L.n L.cap Y t (Y.th t)=(Y.set t (aT.enter L.n {Y.th t with stamp:=Y.bs.length} 5),false):=by unfold M.over;split<;>first|rfl|(exfalso;omega)|simp_all
  rw [e];exact PD h ht c
 ·have e:M.over L.n L.cap Y t (Y.th t)=(Y.set t ((Y.th t).enter L.n (5+1)),false):=by unfold M.over;split<;>first|rfl|(exfalso;omega)|simp_all
  rw [e];exact gQ h ht 5 c (by decide) (by omega)
 ·have e:M.over L.n L.cap Y t (Y.th t)=(Y.set t ((Y.th t).enter L.n (6+1)),false):=by unfold M.over;split<;>first|rfl|(exfalso;omega)|simp_all
  rw [e];exact gQ h ht 6 c (by decide) (by omega)
 ·by_cases q:Y.bs.length=(Y.th t).stamp
  ·have e:M.over L.n L.cap Y t (Y.th t)=(Y.set t (aT.enter L.n {Y.th t with aK:=Y.pending L.n (Y.th t)} (if t∈Y.pending L.n (Y.th t) then 8 else 11)),false):=by unfold M.over;split<;>first|(simp only [if_pos q];done)|(exfalso;omega)|simp_all
   rw [e];exact PE h ht c q (o.ck c)
  ·have e:M.over L.n L.cap Y t (Y.th t)=(Y.set t ((Y.th t).fail L.n L.cap),false):=by unfold M.over;split<;>first|(simp only [if_neg q];done)|(exfalso;omega)|simp_all
   rw [e];exact sZ h ht 7 c (.inl rfl) q o.bk
 ·have e:M.over L.n L.cap Y t (Y.th t)=(Y.set t ((Y.th t).enter L.n (8+1)),false):=by unfold M.over;split<;>first|rfl|(exfalso;omega)|simp_all
  rw [e];exact gQ h ht 8 c (by decide) (fun _=>o.pl (by omega) (by omega))
 ·have e:M.over L.n L.cap Y t (Y.th t)=(Y.set t ((Y.th t).enter L.n (9+1)),false):=by unfold M.over;split<;>first|rfl|(exfalso;omega)|simp_all
  rw [e];exact gQ h ht 9 c (by decide) (fun _=>o.pl (by omega) (by omega))
 ·by_cases q:Y.bs.length=(Y.th t).stamp
  ·have e:M.over L.n L.cap Y t (Y.th t)=(⟨aI Y.th t (aT.enter L.n {Y.th t with aK:=[],aE:=(Y.th t).aE / 2} 11),Y.bs++[(Y.th t).aK]⟩,false):=by unfold M.over;split<;>first|(simp only [if_pos q];done)|(exfalso;omega)|simp_all
   rw [e];exact LA h ht c q o.bs o.bk
  ·have e:M.over L.n L.cap Y t (Y.th t)=(Y.set t ((Y.th t).fail L.n L.cap),false):=by unfold M.over;split<;>first|(simp only [if_neg q];done)|(exfalso;omega)|simp_all
   rw [e];exact sZ h ht 10 c (.inr rfl) q o.bk
 ·have e:M.over L.n L.cap Y t (Y.th t)=(Y.set t {Y.th t with part:=0,ended:=(Y.th t).ended+1},true):=by unfold M.over;split<;>first|rfl|(exfalso;omega)|simp_all
  rw [e];exact KZ h ht c o.en
set_option maxHeartbeats 400000 in
theorem GG (h:DR L S Y w bC vo vp vb bv) (x:Int) (hx:¬(0≤x∧x<L.n)) :
  Calls Tryz.prog 53 #[.pointer (some ⟨L.b,0,none⟩),.int .i64 x] w fun e w'=>e = .returned (.tuple #[.int .i64 0,.int .i64 3])∧w'=w:=by
 have c7:w.cell? ⟨L.b,7,none⟩=some (.slice (some ⟨L.g,0,none⟩) L.n L.gc):=h.cS rfl
 have hn:=h.n64
 clear h
 by_cases h0:x<0
 ·go_enter Tryz.func53,Tryz.ntmps53
  go_wp2
  exact bodyPost_ret (v:=.tuple #[.int .i64 0,.int .i64 3]) (by simp [results,Tryz.results53,go_sem]) rfl ⟨rfl,rfl⟩
 ·have h1:(L.n:Int)≤x:=by omega
  clear hx
  go_enter Tryz.func53,Tryz.ntmps53
  go_wp2
  exact bodyPost_ret (v:=.tuple #[.int .i64 0,.int .i64 3]) (by simp [results,Tryz.results53,go_sem]) rfl ⟨rfl,rfl⟩
set_option maxHeartbeats 400000 in
theorem DM (h:DR L S Y w bC vo vp vb bv) (ht:t<L.n) (hp:(Y.th t).part=0) :
  Calls Tryz.prog 53 #[.pointer (some ⟨L.b,0,none⟩),.int .i64 (t:Int)] w fun e w'=>e = .returned (.tuple #[.int .i64 0,.int .i64 5])∧w'=w:=by
 have c7:w.cell? ⟨L.b,7,none⟩=some (.slice (some ⟨L.g,0,none⟩) L.n L.gc):=h.cS rfl
 have hn:=h.n64
 have cp:=h.ptr t ht
 have t3:w.cell? ⟨L.bT t,3,none⟩=some (.int .i64 ((Y.th t).part:Int)):=h.cR ht rfl
 rw [hp] at t3
 have fG:(0:Int)≤(t:Int):=by omega
 have dD:(t:Int)<(L.n:Int):=by omega
 have iM:¬(L.n:Int)≤(t:Int):=by omega
 clear h
 go_enter Tryz.func53,Tryz.ntmps53
 go_wp2
 exact bodyPost_ret (v:=.tuple #[.int .i64 0,.int .i64 5]) (by simp [results,Tryz.results53,go_sem]) rfl ⟨rfl,rfl⟩
def half (n:Nat) (Y:aR) (x:aT):aT:={x with left:=x.left-1,flipped:=if x.part=6 then fun k=>if k / 16=M.tw n-(x.left-1)-1∧k<n then (Y.th k).aL else x.flipped k else x.flipped}
theorem LB (n cap:Nat) (Y:aR) (t:Nat):M.cP n cap Y t=if 0<(Y.th t).left-1 then (Y.set t (half n Y (Y.th t)),false) else M.over n cap Y t (half n Y (Y.th t)):=rfl
end
end Go.Proofs.YtefjhnhdagolhaaGreat
namespace Go.Proofs.YtefjhnhdagolhaaGreat
open Go.RowKit
open M (aI aC aD aR aT cnt)
attribute [local go_sem ↓] Go.wp_at_zero Go.wp_at_succ
section
variable {L:DL} {S:Nat→Prop} {Y:aR} {w:World} {bC:Nat→Nat} {vo vp:Nat→Value} {vb:Value} {bv:Nat→Value} {t:Nat}
theorem xZ (n:Nat) (Y:aR) (x:aT) (h:x.part≠6):half n Y x = {x with left:=x.left-1}:=by unfold half;rw [if_neg h]
theorem TZ (n d:Nat) (Y:aR) (t:Nat) (x':aT) (h:(Y.th t).part=6) (hd:d=M.tw n-((Y.th t).left-1)-1) (hx:x' = {Y.th t with left:=(Y.th t).left-1}) :
  {x' with flipped:=fun k=>if k / 16=d∧k<n then ((Y.set t x').th k).aL else x'.flipped k} = half n Y (Y.th t):=by
 subst hx hd
 unfold half
 rw [if_pos h]
 have:∀ k,((Y.set t {Y.th t with left:=(Y.th t).left-1}).th k).aL=(Y.th k).aL:=fun k=>by
  unfold M.aR.set aI
  dsimp only
  split
  ·rename_i e;subst e;rfl
  ·rfl
 simp only [this]
theorem aBb {n:Nat} {x:aT} (p:Nat) (hn:n≤64) (hb:x.aE≤64) (hp:p=8→x.aK.length≤64):x.len n p≤1000:=by
 unfold aT.len M.aO M.tw
 repeat (first|omega|split)
theorem cL.self (h:DR L S Y w bC vo vp vb bv):cL L S Y bC vo vp vb bv w w:=⟨h,Fr.refl _ _,rfl⟩
structure aDd (L:DL) (Y:aR) (t:Nat):Prop where
 l1:1≤(Y.th t).left
 l2:(Y.th t).left≤(Y.th t).len L.n (Y.th t).part
 ov:TY L Y t
theorem TY.ND (o:TY L Y t):TY L (Y.set t (half L.n Y (Y.th t))) t:=by
 have e:(Y.set t (half L.n Y (Y.th t))).th t=half L.n Y (Y.th t):=bD _ _ _
 constructor
 ·rw [e];exact o.p1
 ·rw [e];exact o.p11
 ·rw [e];exact o.fl
 ·rw [e];exact o.en
 ·rw [e];exact o.bk
 ·exact o.bs
 ·rw [e];exact o.pl
 ·intro h7 k hk
  have h7':(Y.th t).part=7:=by rw [e] at h7;exact h7
  rw [e,xZ _ _ _ (by omega)]
  exact o.ck h7' k hk
set_option maxRecDepth 20000 in
set_option maxHeartbeats 4000000 in
theorem DN (h:DR L S Y w bC vo vp vb bv) (ht:t<L.n) (o:aDd L Y t) :
  Calls Tryz.prog 53 #[.pointer (some ⟨L.b,0,none⟩),.int .i64 (t:Int)] w fun e w'=>e = .returned (.tuple #[.int .i64 (zW (M.cP L.n L.cap Y t).2),.int .i64 0])∧dL L S w (M.cP L.n L.cap Y t).1 w':=by
 have c7:w.cell? ⟨L.b,7,none⟩=some (.slice (some ⟨L.g,0,none⟩) L.n L.gc):=h.cS rfl
 have hn:=h.n64
 have lD:=h.n1
 have cp:=h.ptr t ht
 have t3:w.cell? ⟨L.bT t,3,none⟩=some (.int .i64 ((Y.th t).part:Int)):=h.cR ht rfl
 have t4:w.cell? ⟨L.bT t,4,none⟩=some (.int .i64 ((Y.th t).left:Int)):=h.cR ht rfl
 have f4:=(h.th t ht).frozen 4
 have fG:(0:Int)≤(t:Int):=by omega
 have dD:(t:Int)<(L.n:Int):=by omega
 have iM:¬(L.n:Int)≤(t:Int):=by omega
 have MZ:¬((Y.th t).part:Int)=0:=by have:=o.ov.p1;omega
 have EU:=o.l1
 have hlM:(Y.th t).left≤1000000:=by
  have h2:=o.l2
  have h3:=aBb (n:=L.n) (x:=Y.th t) (Y.th t).part h.n64 (Nat.le_trans o.ov.bk h.vD) (fun q=>o.ov.pl (by omega) (by omega))
  omega
 have H1:=aA (h.put ht 4 (.int .i64 (((Y.th t).left-1:Nat):Int)) (x':={Y.th t with left:=(Y.th t).left-1}) rfl rfl rfl rfl)
 have HW:=aA (show ((((Y.th t).left-1:Nat):Int))=((Y.th t).left:Int)-1 by omega)
 have HO:=aA o
 clear h o
 rw [LB]
 by_cases h6:(Y.th t).part=6
 ·generalize hR:(if 0<(Y.th t).left-1 then (Y.set t (half L.n Y (Y.th t)),false) else M.over L.n L.cap Y t (half L.n Y (Y.th t)))=R
  have HR:=aA hR
  clear hR
  have MJ:M.tw L.n≤4:=by unfold M.tw;omega
  have htl:(Y.th t).left≤M.tw L.n:=by have:=HO.out.l2;rw [h6] at this;simpa [aT.len] using this
  obtain ⟨d,hd⟩:∃ d,d=M.tw L.n-((Y.th t).left-1)-1:=⟨_,rfl⟩
  have aDe:16*d<L.n:=by rw [hd];unfold M.tw at htl ⊢;omega
  have HDI:=aA (show (M.tw L.n:Int)-(((Y.th t).left:Int)-1)-1=(d:Int) by omega)
  have q1:=H1.out.dr
  have HWd:=aA (XI (show DR L S _ _ bC vo vp vb bv from (cL.drew (cL.self q1)).dr) ht d aDe)
  have HX:=aA (TZ L.n d Y t _ h6 hd rfl)
  have HT:=aA (cL.drew (cL.self q1))
  have HC:=aA (fun (W:World) (hW:W.cell? ⟨L.b,1,none⟩=some (.int .i64 (L.n:Int)))=>sW W hW hn)
  have HC1:=aA (show _=some (Value.int .i64 (L.n:Int)) from q1.cS (j:=1) rfl)
  have HC4:=aA (show (w.setCell ⟨L.bT t,4,none⟩ (.int .i64 (((Y.th t).left-1:Nat):Int))).cell? ⟨L.bT t,4,none⟩=some (Value.int .i64 ((((Y.th t).left-1:Nat):Int))) from by rw [q1.cR ht (j:=4) rfl,bD])
  rw [←HDI.out] at HWd
  rw [h6] at t3
  rw [HW.out] at H1 HWd HT HC1 HC4
  clear q1 hd aDe HDI
  generalize hgt:M.tw L.n=tw at *
  clear hgt
  go_enter Tryz.func53,Tryz.ntmps53
  go_upto_region 8 with fail
  generalize World.setCell w _ _=W1 at *
  have c1:=HC1.out
  have c4:=HC4.out
  refine gO (S:=(fun w'=>w'.cell? ⟨L.bT t,4,none⟩=some (.int .i64 (((Y.th t).left:Int)-1))∧w'.cell? ⟨L.b,1,none⟩=some (.int .i64 (L.n:Int)))) 11 rfl (by kernel_rfl) ?_ (fun hHeld=>?_)
  ·exact ⟨c4,c1⟩
  iterate 3 (refine tk 10 (by rfl) (by kernel_rfl) (by exact fun _ _ _ h=>h) (.inl ⟨by rfl,fun w hS=>by (try dsimp only at hS);go_simp;(try with_reducible rfl)⟩) (by assumption) ?_;try go_frame)
  iterate 4 (refine tk 11 (by rfl) (by kernel_rfl) (by exact fun _ _ _ h=>h) (.inl ⟨by rfl,fun w hS=>by (try dsimp only at hS);go_simp;(try with_reducible rfl)⟩) (by assumption) ?_;try go_frame)
  refine aU 3 (by rfl) (by kernel_rfl) (fun K hK=>?_)
  go_simp
  refine (HC.out _ hHeld.2).mono ?_
  rintro e w2 ⟨rfl,rfl⟩
  go_wp2_with fail
  refine hK.out _ _ ?_ (fun hHeld=>?_)
  ·exact hHeld
  clear hK K
  (try go_frame)
  iterate 2 (refine tk 10 (by rfl) (by kernel_rfl) (by exact fun _ _ _ h=>h) (.inl ⟨by rfl,fun w hS=>by (try dsimp only at hS);go_simp;(try with_reducible rfl)⟩) (by assumption) ?_;try go_frame)
  refine aU 10 (by rfl) (by kernel_rfl) (fun K hK=>?_)
  go_simp
  rw [dJ ((tw:Int)-(((Y.th t).left:Int)-1)) (by omega) (by omega),dJ ((tw:Int)-(((Y.th t).left:Int)-1)-1) (by omega) (by omega)]
  with_reducible refine HWd.out.mono ?_
  rintro e w3 ⟨rfl,h3⟩
  have h4:cL L S (Y.set t (half L.n Y (Y.th t))) bC vo vp vb bv w w3:=H1.out.next (HT.out.next (h3.cast (by rw [bD,set_set,HX.out])))
  have k4:w3.cell? ⟨L.bT t,4,none⟩=some (.int .i64 (((Y.th t).left:Int)-1)):=by rw [h4.dr.cR ht (j:=4) rfl,bD,←HW.out];rfl
  have k1:w3.cell? ⟨L.b,1,none⟩=some (.int .i64 (L.n:Int)):=h4.dr.cS rfl
  have H4:=aA h4
  clear h3 h4
  go_wp2_with fail
  refine hK.out _ _ ?_ (fun hHeld=>?_)
  ·exact ⟨k4,k1⟩
  clear hK K
  (try go_frame)
  refine wpAnyH_done (by kernel_rfl) ?_ _
  obtain ⟨e4,-⟩:=hHeld
  by_cases hl:0<(Y.th t).left-1
  ·have eR:R=(Y.set t (half L.n Y (Y.th t)),false):=by rw [←HR.out,if_pos hl]
   clear HR
   subst eR
   have hl':(0:Int)<((Y.th t).left:Int)-1:=by omega
   go_wp2_with fail
   exact bodyPost_ret (v:=.tuple #[.int .i64 1,.int .i64 0]) (by simp [results,Tryz.results53,go_sem]) rfl ⟨rfl,H4.out.left⟩
  ·have eR:R=M.over L.n L.cap Y t (half L.n Y (Y.th t)):=by rw [←HR.out,if_neg hl]
   clear HR
   subst eR
   have hl':((Y.th t).left:Int)-1=0:=by omega
   have HV2:=NC H4.out.dr ht HO.out.ov.ND
   rw [bD,M.FH] at HV2
   have HV3:=aA HV2
   rw [hl'] at e4
   clear HV2 HO hl' EU hlM
   go_wp2_with fail
   refine HV3.out.mono ?_
   rintro e w5 ⟨rfl,h5⟩
   have H5:=aA (H4.out.then h5)
   clear h5
   go_wp2_with fail
   exact bodyPost_ret (v:=.tuple #[.int .i64 (zW (M.over L.n L.cap Y t (half L.n Y (Y.th t))).2),.int .i64 0]) (by simp [results,Tryz.results53,go_sem]) rfl ⟨rfl,H5.out⟩
 ·have hh:=xZ L.n Y (Y.th t) h6
  have h6':¬((Y.th t).part:Int)=6:=by omega
  rw [←hh] at H1
  clear hh
  by_cases hl:0<(Y.th t).left-1
  ·simp only [if_pos hl]
   have hl':(0:Int)<((Y.th t).left:Int)-1:=by omega
   rw [HW.out] at H1
   go_enter Tryz.func53,Tryz.ntmps53
   go_wp2_with fail
   exact bodyPost_ret (v:=.tuple #[.int .i64 1,.int .i64 0]) (by simp [results,Tryz.results53,go_sem]) rfl ⟨rfl,H1.out.left⟩
  ·have hl':((Y.th t).left:Int)-1=0:=by omega
   simp only [if_neg hl]
   have HV:=aA (NC H1.out.dr ht HO.out.ov.ND)
   have HV2:=HV.out
   rw [bD,M.FH] at HV2
   have HV3:=aA HV2
   clear HV HV2
   rw [HW.out,hl'] at H1 HV3
   have aDf:((Y.th t).left:Int)=1:=by omega
   rw [aDf] at t4
   clear HO hl' aDf EU hlM
   go_enter Tryz.func53,Tryz.ntmps53
   go_wp2_with fail
   refine HV3.out.mono ?_
   rintro e w3 ⟨rfl,h3⟩
   have H4:=aA (H1.out.then h3)
   clear h3
   go_wp2_with fail
   exact bodyPost_ret (v:=.tuple #[.int .i64 (zW (M.over L.n L.cap Y t (half L.n Y (Y.th t))).2),.int .i64 0]) (by simp [results,Tryz.results53,go_sem]) rfl ⟨rfl,H4.out⟩
end
end Go.Proofs.YtefjhnhdagolhaaGreat
namespace Go.Proofs.YtefjhnhdagolhaaGreat
open Go.RowKit
open M (aI aC aD aR aT cnt)
attribute [local go_sem ↓] Go.wp_at_zero Go.wp_at_succ
theorem XK:(Tryz.prog.info? 36).map (fun i=>(i.zero,i.size,i.bytes))=some (some (.agg #[.int .i64 0,.int .i64 0,.int .i64 0]),3,24):=by kernel_rfl
section
variable {L:DL} {S:Nat→Prop} {Y:aR} {w:World} {bC:Nat→Nat} {vo vp:Nat→Value} {vb:Value} {bv:Nat→Value} {t:Nat}
theorem pL {w w':World} {b o:Nat} {xs:List Value} (hb:Below w.heap.size w w') (h:w.rangeAt b o xs):w'.rangeAt b o xs:=fun j v hv=>cell_later hb (h j v hv)
theorem pM {w w':World} {row:Option Nat} {b o:Nat} {xs:List Value} (hg:w.grownBy w' row) (h:w.rangeAt b o xs) (hne:some b≠row):w'.rangeAt b o xs:=fun j v hv=>hg.cell (h j v hv) hne
theorem uC {w:World} {a:Addr} {b o:Nat} {xs:List Value} (h:w.rangeAt b o xs) (hne:b≠a.block) (u:Value):(w.setCell a u).rangeAt b o xs:=fun j v hv=>aF (h j v hv) (.inl hne)
theorem DR.begun (h:DR L S Y w bC vo vp vb bv) (ht:t<L.n) {w2 w4:World} (hb:Below w.heap.size w w2) (cG:w2.grownBy w4 (vo t).ownBlock) {g c:Nat} (hg:(vo t).ownBlock=some g∨g=w2.heap.size) {op:M.Op}
  (hown:w4.ownsRow 0 36 3 (.slice (some ⟨g,0,none⟩) ((Y.th t).ops.length+1) c) ((Y.th t).ops.length+1) (pJ (Y.th t).ops++[.int .i64 op.c,.int .i64 op.a,.int .i64 op.b])) (VQ:g<w4.heap.size) {w5:World}
  (h5:w5=(((w4.setCell ⟨L.bT t,0,none⟩ (.slice (some ⟨g,0,none⟩) ((Y.th t).ops.length+1) c)).setCell ⟨L.bT t,6,none⟩ (.int .i64 0)).setCell ⟨L.bT t,3,none⟩ (.int .i64 1)).setCell ⟨L.bT t,4,none⟩ (.int .i64 3)):dL L S w (M.cQ Y t op) w5:=by
 have qt:=h.zE t ht
 have hz:=hb.size
 have hlt:=h.lt _ qt.1
 -- blocks that were not touched
 have old:∀ k,k<w.heap.size→k≠L.bT t→(vo t).ownBlock≠some k→w5.heap[k]?=w.heap[k]?:=fun k hk h2 h3=>by
  rw [h5,Below.heap_setCell _ _ _ k h2,Below.heap_setCell _ _ _ k h2,Below.heap_setCell _ _ _ k h2,Below.heap_setCell _ _ _ k h2,cG.block k (by omega) (fun e=>h3 e.symm)]
  exact hb.block k hk
 have keep:∀ k,S k→bC k≠4*t+6→bC k≠4*t+4→w5.heap[k]?=w.heap[k]?:=fun k hS h6 h4=>old k (h.lt k hS) (fun e=>h4 (by rw [e];exact qt.2)) (fun e=>h6 (h.pK t ht k e).2)
 have r4t:Row w4 (L.bT t) 109 (vT (Y.th t) (L.bF t) L.n (vo t) (vp t)):=(h.th t ht).of_block ((cG.block _ (by omega) (fun e=>by have:=(h.pK t ht _ e.symm).2;rw [qt.2] at this;omega)).trans (hb.block _ hlt))
 have r5t:Row w5 (L.bT t) 109 (vT {Y.th t with ops:=(Y.th t).ops++[op],tries:=0,part:=1,left:=3} (L.bF t) L.n (.slice (some ⟨g,0,none⟩) ((Y.th t).ops.length+1) c) (vp t)):=by
  rw [h5]
  exact (((r4t.set 0 _).set 6 _).set 3 _).set 4 _
 have uY:g≠L.bT t:=by
  rcases hg with e|e
  ·have:=(h.pK t ht g e).2
   exact fun q=>by rw [q,qt.2] at this;omega
  ·omega
 have TW:w5.ownsRow 0 36 3 (.slice (some ⟨g,0,none⟩) ((Y.th t).ops.length+1) c) ((Y.th t).ops.length+1) (pJ (Y.th t).ops++[.int .i64 op.c,.int .i64 op.a,.int .i64 op.b]):=by
  rw [h5]
  refine bJ hown fun k e=>?_
  have e:g=k:=by simpa [Value.ownBlock] using e
  subst e
  rw [Below.heap_setCell _ _ _ g uY,Below.heap_setCell _ _ _ g uY,Below.heap_setCell _ _ _ g uY,Below.heap_setCell _ _ _ g uY]
 have hz5:w5.heap.size=w4.heap.size:=by rw [h5];simp [World.setCell]
 have hS:∀ k,S k→Grow S w w5 k∧xV bC w (4*t+6) k=bC k:=fun k hS=>⟨.inl hS,kS (h.lt k hS)⟩
 refine ⟨⟨xV bC w (4*t+6),aI vo t (.slice (some ⟨g,0,none⟩) ((Y.th t).ops.length+1) c),aI vp t (vp t),vb,bv,?_⟩,?_⟩
 ·refine DR.move (bs':=Y.bs) h ht (fun k hS h0 h2 h4 _ h6=>keep k hS h6 h4) hS (fun k hk=>?_) (h.obj.of_block (keep _ h.zD.1 (by rw [h.zD.2];omega) (by rw [h.zD.2];omega))) r5t ?_ ?_ ?_ ?_ ?_ ?_ ?_ ?_ ?_
  ·rcases hk with hk|hk
   ·have:=h.lt k hk;have:=cG.size;omega
   ·exact hk.2
  ·exact (h.fl t ht).of_block (keep _ (h.zF t ht).1 (by rw [(h.zF t ht).2];omega) (by rw [(h.zF t ht).2];omega))
  ·dsimp only
   rw [FW,List.length_append,List.length_singleton]
   exact TW
  ·intro k e
   have e:g=k:=by simpa [Value.ownBlock] using e
   subst e
   rcases hg with q|q
   ·exact ⟨.inl (h.pK t ht g q).1,(kS (h.lt g (h.pK t ht g q).1)).trans (h.pK t ht g q).2⟩
   ·exact ⟨.inr ⟨by omega,by omega⟩,xW (by omega)⟩
  ·exact bJ h.AU fun k e=>keep k (h.qA k e).1 (by rw [(h.qA k e).2];omega) (by rw [(h.qA k e).2];omega)
  ·intro k e
   exact ⟨(hS k (h.qA k e).1).1,(hS k (h.qA k e).1).2.trans (h.qA k e).2⟩
  ·exact fun i hi=>(h.KU i hi).of_block fun k e=>keep k (h.rZ i hi k e).1 (by rw [(h.rZ i hi k e).2];omega) (by rw [(h.rZ i hi k e).2];omega)
  ·exact fun i hi k e=>⟨(hS k (h.rZ i hi k e).1).1,(hS k (h.rZ i hi k e).1).2.trans (h.rZ i hi k e).2⟩
  ·exact (h.vQ t ht).of_block fun k e=>keep k (h.uA t ht k e).1 (by rw [(h.uA t ht k e).2];omega) (by rw [(h.uA t ht k e).2];omega)
  ·intro k e
   exact ⟨(hS k (h.uA t ht k e).1).1,(hS k (h.uA t ht k e).1).2.trans (h.uA t ht k e).2⟩
 ·refine ⟨?_,?_,?_,?_,?_⟩
  ·rw [h5];exact cG.os.trans hb.os
  ·rw [h5];exact cG.tape.trans hb.tape
  ·rw [h5];exact cG.output.trans hb.output
  ·have:=cG.size;omega
  ·intro k hk hS
   exact old k hk (fun e=>hS (e▸qt.1)) (fun e=>hS (h.pK t ht k e).1)
set_option maxHeartbeats 400000 in
theorem tA (h:DR L S Y w bC vo vp vb bv) (x:Int) (hx:¬(0≤x∧x<L.n)) (op:M.Op) :
  Calls Tryz.prog 43 #[.pointer (some ⟨L.b,0,none⟩),.int .i64 x,.agg #[.int .i64 op.c,.int .i64 op.a,.int .i64 op.b]] w fun e w'=>e = .returned (.int .i64 3)∧Below w.heap.size w w':=by
 have c7:w.cell? ⟨L.b,7,none⟩=some (.slice (some ⟨L.g,0,none⟩) L.n L.gc):=h.cS rfl
 have c7':=fun ob=>aX c7 ob
 have hn:=h.n64
 clear h
 by_cases h0:x<0
 ·go_enter Tryz.func43,Tryz.ntmps43
  go_wp2
  go_ret
  exact ⟨rfl,aB _ _⟩
 ·have h1:(L.n:Int)≤x:=by omega
  clear hx
  go_enter Tryz.func43,Tryz.ntmps43
  go_wp2
  go_ret
  exact ⟨rfl,aB _ _⟩
set_option maxHeartbeats 400000 in
theorem qO (h:DR L S Y w bC vo vp vb bv) (ht:t<L.n) (hp:(Y.th t).part≠0) (op:M.Op) :
  Calls Tryz.prog 43 #[.pointer (some ⟨L.b,0,none⟩),.int .i64 (t:Int),.agg #[.int .i64 op.c,.int .i64 op.a,.int .i64 op.b]] w fun e w'=>e = .returned (.int .i64 4)∧Below w.heap.size w w':=by
 have c7':=fun ob=>aX (show w.cell? ⟨L.b,7,none⟩=some (.slice (some ⟨L.g,0,none⟩) L.n L.gc) from h.cS rfl) ob
 have hn:=h.n64
 have cp:=fun ob=>aX (h.ptr t ht) ob
 have t3:=fun ob=>aX (show w.cell? ⟨L.bT t,3,none⟩=some (.int .i64 ((Y.th t).part:Int)) from h.cR ht rfl) ob
 have MZ:¬((Y.th t).part:Int)=0:=by omega
 have fG:(0:Int)≤(t:Int):=by omega
 have dD:(t:Int)<(L.n:Int):=by omega
 have iM:¬(L.n:Int)≤(t:Int):=by omega
 clear h
 go_enter Tryz.func43,Tryz.ntmps43
 go_wp2
 go_ret
 exact ⟨rfl,aB _ _⟩
set_option maxRecDepth 20000 in
set_option maxHeartbeats 4000000 in
theorem zX (h:DR L S Y w bC vo vp vb bv) (ht:t<L.n) (hp:(Y.th t).part=0) (op:M.Op) (hO:(Y.th t).ops.length≤1000000000) :
  Calls Tryz.prog 43 #[.pointer (some ⟨L.b,0,none⟩),.int .i64 (t:Int),.agg #[.int .i64 op.c,.int .i64 op.a,.int .i64 op.b]] w fun e w'=>e = .returned (.int .i64 0)∧dL L S w (M.cQ Y t op) w':=by
 obtain ⟨si,hsi,hsz⟩:=Option.map_eq_some_iff.1 XK
 simp only [Prod.mk.injEq] at hsz
 obtain ⟨hs1,hs2,hs3⟩:=hsz
 have HSI:=aA hsi
 have NB:=aA hs1
 have ZC:=aA hs2
 have HS3:=aA hs3
 clear hsi hs1 hs2 hs3
 have hn:=h.n64
 have fG:(0:Int)≤(t:Int):=by omega
 have dD:(t:Int)<(L.n:Int):=by omega
 have iM:¬(L.n:Int)≤(t:Int):=by omega
 have iZ:∀ k,(vo t).ownBlock=some k→k<w.heap.size:=fun k e=>h.lt k (h.pK t ht k e).1
 have htl:=(h.th t ht).lt
 have HH:=aA h
 clear h
 go_enter Tryz.func43,Tryz.ntmps43
 go_upto_region 1 with fail
 generalize jE:World.alloc w _=W0 at *
 have hb0:Below w.heap.size w W0:=by rw [←jE];exact aB _ _
 have aBd:Row W0 w.heap.size 36 [.int .i64 op.c,.int .i64 op.a,.int .i64 op.b]:=by rw [←jE];exact Row.new' rfl
 have hz0:w.heap.size<W0.heap.size:=aBd.lt
 have c7:W0.cell? ⟨L.b,7,none⟩=some (.slice (some ⟨L.g,0,none⟩) L.n L.gc):=cell_later hb0 (HH.out.cS rfl)
 have cp:=cell_later hb0 (HH.out.ptr t ht)
 have t3:W0.cell? ⟨L.bT t,3,none⟩=some (.int .i64 ((Y.th t).part:Int)):=cell_later hb0 (HH.out.cR ht rfl)
 rw [hp] at t3
 have cv:W0.cell? ⟨L.bT t,0,none⟩=some (vo t):=cell_later hb0 (HH.out.cR ht rfl)
 have tM:W0.there (L.bT t) 0 1:=aN hb0 ((HH.out.th t ht).there (by simp [vT]))
 have xY:some (L.bT t)≠(vo t).ownBlock:=fun e=>by have h1:=(HH.out.pK t ht _ e.symm).2;have h2:=(HH.out.zE t ht).2;rw [h2] at h1;omega
 have vL:some w.heap.size≠(vo t).ownBlock:=fun e=>by have:=iZ _ e.symm;omega
 have hsz:(Tryz.prog.info? 106).map (·.size)=some 1:=by kernel_rfl
 have UA:(Tryz.prog.info? 36).map (·.size)=some 3:=by kernel_rfl
 have qZ:=aA cv
 have mL:=aA hb0
 have rB:W0.rangeAt w.heap.size 0 [.int .i64 op.c,.int .i64 op.a,.int .i64 op.b]:=fun j v hv=>by rw [Nat.zero_add];exact aBd.cell_of hv
 have HOW:=aA (fI (HH.out.ops t ht) hb0)
 clear aBd cv hb0 jE
 go_upto_region 6 with fail
 refine gO (S:=(fun w'=>w'.rangeAt w.heap.size 0 [.int .i64 op.c,.int .i64 op.a,.int .i64 op.b]∧w'.there (L.bT t) 0 1)) 11 rfl (by kernel_rfl) ?_ (fun hHeld=>?_)
 ·exact ⟨rB,tM⟩
 iterate 4 (refine tk 10 (by rfl) (by kernel_rfl) (by exact fun _ _ _ h=>h) (.inl ⟨by rfl,fun w hS=>by (try dsimp only at hS);go_simp;(try with_reducible rfl)⟩) (by assumption) ?_;try go_frame)
 refine wpAnyH_ready (rs:=[4,5]) (by kernel_rfl) (by simp) (rc (by rfl) (fun K hK=>?_) (rc (by rfl) (fun K hK=>?_) AllReadyH.nil))
 ·rw [if_pos (by rfl)]
  refine bZ _ _ rfl _ _ (vo t) rfl (by kernel_rfl) (by refine cell_later ?_ qZ.out;repeat (first|exact Below.refl _ _|refine Below.drew ?_|refine Below.alloc ?_ (by first|(simp;done)|(simp;omega)) _)) ?_
  refine hK.out _ _ ?_ (fun hHeld=>?_)
  ·exact hHeld
  clear hK K
  (try go_frame)
  refine aU 5 (by rfl) (by kernel_rfl) (fun K hK=>?_)
  rw [if_pos (by rfl)]
  refine wp_load_mid 36 (.tmp 5) rfl w.heap.size 0 rfl [.int .i64 op.c,.int .i64 op.a,.int .i64 op.b] _ ?_ Tryz.underlying36 rfl ?_ ?_
  ·exact hHeld.1
  ·exact UA
  refine hK.out _ _ ?_ (fun hHeld=>?_)
  ·exact hHeld
  clear hK K
  (try go_frame)
  refine aU 6 (by rfl) (by kernel_rfl) (fun K hK=>?_)
  go_simp
  refine hK.out _ _ ?_ (fun hHeld=>?_)
  ·exact ⟨pL (aB _ _) hHeld.1,World.there_alloc hHeld.2 _⟩
  clear hK K
  (try go_frame)
  refine aU 7 (by rfl) (by kernel_rfl) (fun K hK=>?_)
  refine step_append_lies _ rfl (.tmp 35) (.tmp 37) 106 rfl 0 36 si (.agg #[.int .i64 0,.int .i64 0,.int .i64 0]) 3 24 Tryz.underlying106 HSI.out NB.out ZC.out HS3.out rfl (by decide) (vo t) (Y.th t).ops.length (pJ (Y.th t).ops) rfl ?_ ⟨W0.heap.size,0,none⟩ 1 1 [.int .i64 op.c,.int .i64 op.a,.int .i64 op.b] rfl rfl ?_ (by simp [Value.oneCell']) (by decide) (by unfold maxLen;omega) (by omega) (Nat.zero_le _) _ rfl ?_
  ·exact HOW.out.alloc _
  ·exact World.news_of_block (Row.new' (by simp))
  intro g gc w4 hown cG hat gF
  have HO:=aA hown
  have HG:=aA cG
  have HA:=aA hat
  have PG:=gF
  clear hown cG hat gF
  refine hK.out _ _ ?_ (fun hHeld=>?_)
  ·exact ⟨pM HG.out hHeld.1 vL,(xX HG.out ⟨hHeld.1 0 _ rfl,hHeld.2⟩ xY vL).2⟩
  clear hK K
  (try go_frame)
  iterate 2 (refine tk 10 (by rfl) (by kernel_rfl) (by exact fun _ _ _ h=>h) (.inl ⟨by rfl,fun w hS=>by (try dsimp only at hS);go_simp;(try with_reducible rfl)⟩) (by assumption) ?_;try go_frame)
  refine aU 10 (by rfl) (by kernel_rfl) (fun K hK=>?_)
  rw [if_pos (by rfl)]
  refine aM _ _ _ rfl (L.bT t) 0 (.slice (some ⟨g,0,none⟩) ((Y.th t).ops.length+1) gc) rfl rfl rfl rfl hHeld.2 hsz ?_
  refine hK.out _ _ ?_ (fun hHeld=>?_)
  ·exact ⟨uC hHeld.1 (by simp;omega) _,aQ hHeld.2 _ rfl _⟩
  clear hK K
  (try go_frame)
  refine wpAnyH_done (by kernel_rfl) ?_ _
  have yA:=Below.next mL.out (Below.drew (aB W0 (.cells #[.int .i64 op.c,.int .i64 op.a,.int .i64 op.b] 36))) mL.out.size
  have tG:Row w4 (L.bT t) 109 (vT (Y.th t) (L.bF t) L.n (vo t) (vp t)):=((HH.out.th t ht).old yA).of_block (HG.out.block _ (by simp;omega) xY)
  have jJ:=tG.set 0 (.slice (some ⟨g,0,none⟩) ((Y.th t).ops.length+1) gc)
  have x6:=jJ.cell_of (i:=6) rfl
  have x3:=jJ.cell_of (i:=3) rfl
  have x4:=jJ.cell_of (i:=4) rfl
  have y6:=jJ.frozen 6
  have y3:=jJ.frozen 3
  have y4:=jJ.frozen 4
  have hBG:=aA (DR.begun HH.out ht yA HG.out HA.out HO.out PG rfl)
  clear tG jJ hHeld HG HA HO yA
  generalize World.setCell w4 ⟨L.bT t,0,none⟩ (.slice (some ⟨g,0,none⟩) ((Y.th t).ops.length+1) gc)=W5 at *
  go_wp2_with fail
  go_ret
  exact ⟨rfl,hBG.out⟩
 ·rw [if_pos (by rfl)]
  refine wp_load_mid 36 (.tmp 5) rfl w.heap.size 0 rfl [.int .i64 op.c,.int .i64 op.a,.int .i64 op.b] _ ?_ Tryz.underlying36 rfl ?_ ?_
  ·exact hHeld.1
  ·exact UA
  refine hK.out _ _ ?_ (fun hHeld=>?_)
  ·exact hHeld
  clear hK K
  (try go_frame)
  refine wpAnyH_ready (rs:=[4,6]) (by kernel_rfl) (by simp) (rc (by rfl) (fun K hK=>?_) (rc (by rfl) (fun K hK=>?_) AllReadyH.nil))
  ·rw [if_pos (by rfl)]
   refine bZ _ _ rfl _ _ (vo t) rfl (by kernel_rfl) (by refine cell_later ?_ qZ.out;repeat (first|exact Below.refl _ _|refine Below.drew ?_|refine Below.alloc ?_ (by first|(simp;done)|(simp;omega)) _)) ?_
   refine hK.out _ _ ?_ (fun hHeld=>?_)
   ·exact hHeld
   clear hK K
   (try go_frame)
   refine aU 6 (by rfl) (by kernel_rfl) (fun K hK=>?_)
   go_simp
   refine hK.out _ _ ?_ (fun hHeld=>?_)
   ·exact ⟨pL (aB _ _) hHeld.1,World.there_alloc hHeld.2 _⟩
   clear hK K
   (try go_frame)
   refine aU 7 (by rfl) (by kernel_rfl) (fun K hK=>?_)
   refine step_append_lies _ rfl (.tmp 35) (.tmp 37) 106 rfl 0 36 si (.agg #[.int .i64 0,.int .i64 0,.int .i64 0]) 3 24 Tryz.underlying106 HSI.out NB.out ZC.out HS3.out rfl (by decide) (vo t) (Y.th t).ops.length (pJ (Y.th t).ops) rfl ?_ ⟨W0.heap.size,0,none⟩ 1 1 [.int .i64 op.c,.int .i64 op.a,.int .i64 op.b] rfl rfl ?_ (by simp [Value.oneCell']) (by decide) (by unfold maxLen;omega) (by omega) (Nat.zero_le _) _ rfl ?_
   ·exact HOW.out.alloc _
   ·exact World.news_of_block (Row.new' (by simp))
   intro g gc w4 hown cG hat gF
   have HO:=aA hown
   have HG:=aA cG
   have HA:=aA hat
   have PG:=gF
   clear hown cG hat gF
   refine hK.out _ _ ?_ (fun hHeld=>?_)
   ·exact ⟨pM HG.out hHeld.1 vL,(xX HG.out ⟨hHeld.1 0 _ rfl,hHeld.2⟩ xY vL).2⟩
   clear hK K
   (try go_frame)
   iterate 2 (refine tk 10 (by rfl) (by kernel_rfl) (by exact fun _ _ _ h=>h) (.inl ⟨by rfl,fun w hS=>by (try dsimp only at hS);go_simp;(try with_reducible rfl)⟩) (by assumption) ?_;try go_frame)
   refine aU 10 (by rfl) (by kernel_rfl) (fun K hK=>?_)
   rw [if_pos (by rfl)]
   refine aM _ _ _ rfl (L.bT t) 0 (.slice (some ⟨g,0,none⟩) ((Y.th t).ops.length+1) gc) rfl rfl rfl rfl hHeld.2 hsz ?_
   refine hK.out _ _ ?_ (fun hHeld=>?_)
   ·exact ⟨uC hHeld.1 (by simp;omega) _,aQ hHeld.2 _ rfl _⟩
   clear hK K
   (try go_frame)
   refine wpAnyH_done (by kernel_rfl) ?_ _
   have yA:=Below.next mL.out (Below.drew (aB W0 (.cells #[.int .i64 op.c,.int .i64 op.a,.int .i64 op.b] 36))) mL.out.size
   have tG:Row w4 (L.bT t) 109 (vT (Y.th t) (L.bF t) L.n (vo t) (vp t)):=((HH.out.th t ht).old yA).of_block (HG.out.block _ (by simp;omega) xY)
   have jJ:=tG.set 0 (.slice (some ⟨g,0,none⟩) ((Y.th t).ops.length+1) gc)
   have x6:=jJ.cell_of (i:=6) rfl
   have x3:=jJ.cell_of (i:=3) rfl
   have x4:=jJ.cell_of (i:=4) rfl
   have y6:=jJ.frozen 6
   have y3:=jJ.frozen 3
   have y4:=jJ.frozen 4
   have hBG:=aA (DR.begun HH.out ht yA HG.out HA.out HO.out PG rfl)
   clear tG jJ hHeld HG HA HO yA
   generalize World.setCell w4 ⟨L.bT t,0,none⟩ (.slice (some ⟨g,0,none⟩) ((Y.th t).ops.length+1) gc)=W5 at *
   go_wp2_with fail
   go_ret
   exact ⟨rfl,hBG.out⟩
  ·go_simp
   refine hK.out _ _ ?_ (fun hHeld=>?_)
   ·exact ⟨pL (aB _ _) hHeld.1,World.there_alloc hHeld.2 _⟩
   clear hK K
   (try go_frame)
   refine aU 4 (by rfl) (by kernel_rfl) (fun K hK=>?_)
   rw [if_pos (by rfl)]
   refine bZ _ _ rfl _ _ (vo t) rfl (by kernel_rfl) (by refine cell_later ?_ qZ.out;repeat (first|exact Below.refl _ _|refine Below.drew ?_|refine Below.alloc ?_ (by first|(simp;done)|(simp;omega)) _)) ?_
   refine hK.out _ _ ?_ (fun hHeld=>?_)
   ·exact hHeld
   clear hK K
   (try go_frame)
   refine aU 7 (by rfl) (by kernel_rfl) (fun K hK=>?_)
   refine step_append_lies _ rfl (.tmp 35) (.tmp 37) 106 rfl 0 36 si (.agg #[.int .i64 0,.int .i64 0,.int .i64 0]) 3 24 Tryz.underlying106 HSI.out NB.out ZC.out HS3.out rfl (by decide) (vo t) (Y.th t).ops.length (pJ (Y.th t).ops) rfl ?_ ⟨W0.heap.size,0,none⟩ 1 1 [.int .i64 op.c,.int .i64 op.a,.int .i64 op.b] rfl rfl ?_ (by simp [Value.oneCell']) (by decide) (by unfold maxLen;omega) (by omega) (Nat.zero_le _) _ rfl ?_
   ·exact HOW.out.alloc _
   ·exact World.news_of_block (Row.new' (by simp))
   intro g gc w4 hown cG hat gF
   have HO:=aA hown
   have HG:=aA cG
   have HA:=aA hat
   have PG:=gF
   clear hown cG hat gF
   refine hK.out _ _ ?_ (fun hHeld=>?_)
   ·exact ⟨pM HG.out hHeld.1 vL,(xX HG.out ⟨hHeld.1 0 _ rfl,hHeld.2⟩ xY vL).2⟩
   clear hK K
   (try go_frame)
   iterate 2 (refine tk 10 (by rfl) (by kernel_rfl) (by exact fun _ _ _ h=>h) (.inl ⟨by rfl,fun w hS=>by (try dsimp only at hS);go_simp;(try with_reducible rfl)⟩) (by assumption) ?_;try go_frame)
   refine aU 10 (by rfl) (by kernel_rfl) (fun K hK=>?_)
   rw [if_pos (by rfl)]
   refine aM _ _ _ rfl (L.bT t) 0 (.slice (some ⟨g,0,none⟩) ((Y.th t).ops.length+1) gc) rfl rfl rfl rfl hHeld.2 hsz ?_
   refine hK.out _ _ ?_ (fun hHeld=>?_)
   ·exact ⟨uC hHeld.1 (by simp;omega) _,aQ hHeld.2 _ rfl _⟩
   clear hK K
   (try go_frame)
   refine wpAnyH_done (by kernel_rfl) ?_ _
   have yA:=Below.next mL.out (Below.drew (aB W0 (.cells #[.int .i64 op.c,.int .i64 op.a,.int .i64 op.b] 36))) mL.out.size
   have tG:Row w4 (L.bT t) 109 (vT (Y.th t) (L.bF t) L.n (vo t) (vp t)):=((HH.out.th t ht).old yA).of_block (HG.out.block _ (by simp;omega) xY)
   have jJ:=tG.set 0 (.slice (some ⟨g,0,none⟩) ((Y.th t).ops.length+1) gc)
   have x6:=jJ.cell_of (i:=6) rfl
   have x3:=jJ.cell_of (i:=3) rfl
   have x4:=jJ.cell_of (i:=4) rfl
   have y6:=jJ.frozen 6
   have y3:=jJ.frozen 3
   have y4:=jJ.frozen 4
   have hBG:=aA (DR.begun HH.out ht yA HG.out HA.out HO.out PG rfl)
   clear tG jJ hHeld HG HA HO yA
   generalize World.setCell w4 ⟨L.bT t,0,none⟩ (.slice (some ⟨g,0,none⟩) ((Y.th t).ops.length+1) gc)=W5 at *
   go_wp2_with fail
   go_ret
   exact ⟨rfl,hBG.out⟩
end
end Go.Proofs.YtefjhnhdagolhaaGreat
