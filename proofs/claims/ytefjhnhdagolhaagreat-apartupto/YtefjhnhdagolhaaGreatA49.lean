import Derived.Test.YtefjhnhdagolhaaGreatA35
import Derived.Test.YtefjhnhdagolhaaGreatProg
import Derived.Test.YtefjhnhdagolhaaGreatA00
import Derived.WalkKit
import Derived.ProofKit
import Derived.OpenShut
import Derived.JoinedCond
import Derived.Lib.SmallJoins
set_option maxHeartbeats 4000000
set_option maxRecDepth 100000
namespace Go.Proofs.YtefjhnhdagolhaaGreat
open Tryz
open Go.RowKit
attribute [local go_sem ↓] Go.wp_at_zero Go.wp_at_succ
section
variable {I:Nat→Prop} {B:Nat} {w w':World} {p pl pr:Option Addr} {s sl sr:gX} {h hl hr:Nat} {e:Int×Int}
theorem WH (q1:Tr (JB I B w) w pl sl hl) (q2:Tr (JB I B w) w pr sr hr) (hB:B≤w.heap.size) (hz:sl.length+sr.length≤1000000000000) (hh:hl+1<hr) :
  Calls prog 386 #[.pointer pl,.agg #[.int .i64 e.1,.int .i64 e.2],.pointer pr] w (KA I B w (sl++e::sr)):=by
 rcases q2.cases with ⟨-,-,rfl⟩|⟨b1,prl,prr,re,srl,srr,hrl,hrr,rfl,-,nS,tl,tr,rfl,-⟩
 ·omega
 have hz1:sl.length+srl.length+srr.length≤1000000000000:=by simp only [eD,eM] at hz;omega
 unfold wY at nS
 by_cases hc:hrl≤hrr
 ·have WS:(hrl:Int)≤(hrr:Int):=by omega
  go_enter func386,ntmps386;go_upto_region 1 with fail;generalize hW:World.alloc w _=W;have hb0:Below w.heap.size w W:=by rw [←hW];exact aB _ _
  have r4:Row W w.heap.size 373 [.int .i64 e.1,.int .i64 e.2]:=by rw [←hW];exact aV rfl
  have d0:=r4.cell_of (i:=0) rfl;have d1:=r4.cell_of (i:=1) rfl;have r1:=nS.old hb0;have c0:=r1.cell_of (i:=0) rfl;have c1:=r1.cell_of (i:=1) rfl;have c2:=r1.cell_of (i:=2) rfl;have c3:=r1.cell_of (i:=3) rfl;have fG:=aA hb0;have HL:=aA (q1.later hb0);have HM:=aA (tl.later hb0);have HR:=aA (tr.later hb0);have hlt:=r4.lt;clear hW hb0 r4 r1 nS q1 q2 tl tr;go_upto_region 2 with fail;go_wp2_with fail;refine (pN HR.out).mono ?_;rintro e' w2 ⟨rfl,rfl⟩;go_wp2_with fail;refine (pN HM.out).mono ?_;rintro e' w2 ⟨rfl,rfl⟩;go_upto_region 3 with fail;refine fH (S:=(fun w'=>w'.cell? ⟨w.heap.size,0,none⟩=some (.int .i64 e.1)∧w'.cell? ⟨w.heap.size,1,none⟩=some (.int .i64 e.2)∧w'.cell? ⟨b1,0,none⟩=some (.int .i64 re.1)∧w'.cell? ⟨b1,1,none⟩=some (.int .i64 re.2)∧w'.cell? ⟨b1,3,none⟩=some (.pointer prr)∧Below w2.heap.size w2 w')) 14 rfl (by kernel_rfl) ?_ (fun hHeld=>?_)
  ·exact ⟨d0,d1,c0,c1,c3,(aT _ _).drew⟩
  iterate 3 (refine tk 13 (by rfl) (by kernel_rfl) (by exact fun _ _ _ h=>h) (.inl ⟨by rfl,fun w hS=>by (try dsimp only at hS);go_simp;(try with_reducible rfl)⟩) (by assumption) ?_;try go_frame)
  iterate 8 (refine tk 14 (by rfl) (by kernel_rfl) (by exact fun _ _ _ h=>h) (.inl ⟨by rfl,fun w hS=>by (try dsimp only at hS);go_simp;(try with_reducible rfl)⟩) (by assumption) ?_;try go_frame)
  refine cT 3 (by rfl) (by kernel_rfl) (fun K hK=>?_);go_simp;refine (jU (I:=I) (B:=B) (HL.out.later hHeld.2.2.2.2.2) (HM.out.later hHeld.2.2.2.2.2) (by have:=hHeld.2.2.2.2.2.size;omega) (by omega)).mono ?_;rintro e' w3 ⟨b3,rfl,t3,cP⟩;go_wp2_with fail;refine hK.out _ _ ?_ (fun hHeld=>?_)
  ·exact ⟨aI cP hHeld.1,aI cP hHeld.2.1,aI cP hHeld.2.2.1,aI cP hHeld.2.2.2.1,aI cP hHeld.2.2.2.2.1,aS hHeld.2.2.2.2.2 cP hHeld.2.2.2.2.2.size⟩
  clear hK K
  (try go_frame)
  refine cT 12 (by rfl) (by kernel_rfl) (fun K hK=>?_);go_simp;refine (jU (I:=I) (B:=B) t3 (HR.out.later hHeld.2.2.2.2.2) (by have:=hHeld.2.2.2.2.2.size;omega) (by simp only [eD,eM];omega)).mono ?_;rintro e' w4 ⟨b4,rfl,t4,dQ⟩;have HT:=aA t4;clear t4;go_wp2_with fail;refine hK.out _ _ ?_ (fun hHeld=>?_)
  ·exact ⟨aI dQ hHeld.1,aI dQ hHeld.2.1,aI dQ hHeld.2.2.1,aI dQ hHeld.2.2.2.1,aI dQ hHeld.2.2.2.2.1,aS hHeld.2.2.2.2.2 dQ hHeld.2.2.2.2.2.size⟩
  clear hK K
  (try go_frame)
  iterate 1 (refine tk 13 (by rfl) (by kernel_rfl) (by exact fun _ _ _ h=>h) (.inl ⟨by rfl,fun w hS=>by (try dsimp only at hS);go_simp;(try with_reducible rfl)⟩) (by assumption) ?_;try go_frame)
  refine cC (by kernel_rfl) ?_ _;go_wp2_with fail;go_ret;exact ⟨_,_,rfl,by have:=HT.out;simpa using this,aS fG.out hHeld.2.2.2.2.2 fG.out.size⟩
 ·rcases tl.cases with ⟨-,-,rfl⟩|⟨b2,pml,pmr,me,sml,smr,hml,hmr,rfl,-,WO,tml,tmr,rfl,-⟩
  ·omega
  have WS:¬(hrl:Int)≤(hrr:Int):=by omega
  have YJ:sl.length+sml.length+smr.length+srr.length≤1000000000000:=by simp only [eD,eM] at hz1;omega
  unfold wY at WO;go_enter func386,ntmps386;go_upto_region 1 with fail;generalize hW:World.alloc w _=W;have hb0:Below w.heap.size w W:=by rw [←hW];exact aB _ _
  have r4:Row W w.heap.size 373 [.int .i64 e.1,.int .i64 e.2]:=by rw [←hW];exact aV rfl
  have d0:=r4.cell_of (i:=0) rfl;have d1:=r4.cell_of (i:=1) rfl;have r1:=nS.old hb0;have c0:=r1.cell_of (i:=0) rfl;have c1:=r1.cell_of (i:=1) rfl;have c2:=r1.cell_of (i:=2) rfl;have c3:=r1.cell_of (i:=3) rfl;have r2:=WO.old hb0;have m0:=r2.cell_of (i:=0) rfl;have m1:=r2.cell_of (i:=1) rfl;have m2:=r2.cell_of (i:=2) rfl;have m3:=r2.cell_of (i:=3) rfl;have fG:=aA hb0;have HL:=aA (q1.later hb0);have HM:=aA (tl.later hb0);have HML:=aA (tml.later hb0);have HMR:=aA (tmr.later hb0);have HR:=aA (tr.later hb0);have hlt:=r4.lt;clear hW hb0 r4 r1 r2 nS WO q1 q2 tl tr tml tmr;go_upto_region 2 with fail;go_wp2_with fail;refine (pN HR.out).mono ?_;rintro e' w2 ⟨rfl,rfl⟩;go_wp2_with fail;refine (pN HM.out).mono ?_;rintro e' w2 ⟨rfl,rfl⟩;go_upto_region 4 with fail;refine fH (S:=(fun w'=>Below w2.heap.size w2 w'∧w'.cell? ⟨w.heap.size,0,none⟩=some (.int .i64 e.1)∧w'.cell? ⟨w.heap.size,1,none⟩=some (.int .i64 e.2)∧w'.cell? ⟨b1,0,none⟩=some (.int .i64 re.1)∧w'.cell? ⟨b1,1,none⟩=some (.int .i64 re.2)∧w'.cell? ⟨b1,3,none⟩=some (.pointer prr)∧w'.cell? ⟨b2,0,none⟩=some (.int .i64 me.1)∧w'.cell? ⟨b2,1,none⟩=some (.int .i64 me.2)∧w'.cell? ⟨b2,2,none⟩=some (.pointer pml)∧w'.cell? ⟨b2,3,none⟩=some (.pointer pmr))) 26 rfl (by kernel_rfl) ?_ (fun hHeld=>?_)
  ·exact ⟨(aT _ _).drew,d0,d1,c0,c1,c3,m0,m1,m2,m3⟩
  iterate 6 (refine tk 25 (by rfl) (by kernel_rfl) (by exact fun _ _ _ h=>h) (.inl ⟨by rfl,fun w hS=>by (try dsimp only at hS);go_simp;(try with_reducible rfl)⟩) (by assumption) ?_;try go_frame)
  iterate 16 (refine tk 26 (by rfl) (by kernel_rfl) (by exact fun _ _ _ h=>h) (.inl ⟨by rfl,fun w hS=>by (try dsimp only at hS);go_simp;(try with_reducible rfl)⟩) (by assumption) ?_;try go_frame)
  refine cT 6 (by rfl) (by kernel_rfl) (fun K hK=>?_);go_simp;refine (jU (I:=I) (B:=B) (HL.out.later hHeld.1) (HML.out.later hHeld.1) (by have:=hHeld.1.size;omega) (by omega)).mono ?_;rintro e' w5 ⟨b5,rfl,t5,xU⟩;go_wp2_with fail;refine hK.out _ _ ?_ (fun hHeld=>?_)
  ·exact JT xU hHeld
  clear hK K
  (try go_frame)
  refine cT 23 (by rfl) (by kernel_rfl) (fun K hK=>?_);go_simp;refine (jU (I:=I) (B:=B) (HMR.out.later hHeld.1) (HR.out.later hHeld.1) (by have:=hHeld.1.size;omega) (by omega)).mono ?_;rintro e' w6 ⟨b6,rfl,t6,hb6⟩;go_wp2_with fail;refine hK.out _ _ ?_ (fun hHeld=>?_)
  ·exact JT hb6 hHeld
  clear hK K
  (try go_frame)
  refine cT 24 (by rfl) (by kernel_rfl) (fun K hK=>?_);go_simp;refine (jU (I:=I) (B:=B) (by first|exact t5|exact t5.later hb6) (by first|exact t6|exact t6.later xU) (by have:=hHeld.1.size;omega) (by simp only [eD,eM];omega)).mono ?_;rintro e' w7 ⟨b7,rfl,t7,LK⟩;have HT:=aA t7;clear t7;go_wp2_with fail;refine hK.out _ _ ?_ (fun hHeld=>?_)
  ·exact JT LK hHeld
  clear hK K
  (try go_frame)
  iterate 1 (refine tk 25 (by rfl) (by kernel_rfl) (by exact fun _ _ _ h=>h) (.inl ⟨by rfl,fun w hS=>by (try dsimp only at hS);go_simp;(try with_reducible rfl)⟩) (by assumption) ?_;try go_frame)
  refine cC (by kernel_rfl) ?_ _;go_wp2_with fail;go_ret;exact ⟨_,_,rfl,by have:=HT.out;simpa using this,aS fG.out hHeld.1 fG.out.size⟩
theorem uS (q1:Tr (JB I B w) w pl sl hl) (q2:Tr (JB I B w) w pr sr hr) (hB:B≤w.heap.size) (hz:sl.length+sr.length≤1000000000000) :
  Calls prog 383 #[.pointer pl,.agg #[.int .i64 e.1,.int .i64 e.2],.pointer pr] w (KA I B w (sl++e::sr)):=by
 have l1:=q1.len;have l2:=q2.len;have wr1:IntKind.i64.wrap ((hr:Int)+1)=(hr:Int)+1:=eS _ (by omega) (by omega);have wl1:IntKind.i64.wrap ((hl:Int)+1)=(hl:Int)+1:=eS _ (by omega) (by omega);go_enter func383,ntmps383;go_upto_region 1 with fail;generalize hW:World.alloc w _=W;have hb0:Below w.heap.size w W:=by rw [←hW];exact aB _ _
 have r4:Row W w.heap.size 373 [.int .i64 e.1,.int .i64 e.2]:=by rw [←hW];exact aV rfl
 have d0:=r4.cell_of (i:=0) rfl;have d1:=r4.cell_of (i:=1) rfl;have fG:=aA hb0;have HL:=aA (q1.later hb0);have HR:=aA (q2.later hb0);have hlt:=r4.lt;clear hW hb0 r4 q1 q2;go_wp2_with fail;refine (pN HL.out).mono ?_;rintro e' w2 ⟨rfl,rfl⟩;go_wp2_with fail;refine (pN HR.out).mono ?_;rintro e' w2 ⟨rfl,rfl⟩
 by_cases c1:hr+1<hl
 ·have c1':(hr:Int)+1<(hl:Int):=by omega
  go_wp2_with fail;refine (RD (I:=I) (B:=B) HL.out HR.out (by omega) hz c1).mono ?_;rintro e' w3 ⟨p3,h3,rfl,t3,cP⟩;have HT:=aA t3;have oV:=aA cP;clear t3 cP;go_wp2_with fail;go_ret;exact ⟨_,_,rfl,HT.out,aS fG.out oV.out fG.out.size⟩
 ·have c1':¬(hr:Int)+1<(hl:Int):=by omega
  go_wp2_with fail;refine (pN HR.out).mono ?_;rintro e' w2 ⟨rfl,rfl⟩;go_wp2_with fail;refine (pN HL.out).mono ?_;rintro e' w2 ⟨rfl,rfl⟩
  by_cases c2:hl+1<hr
  ·have c2':(hl:Int)+1<(hr:Int):=by omega
   go_wp2_with fail;refine (WH (I:=I) (B:=B) HL.out HR.out (by omega) hz c2).mono ?_;rintro e' w3 ⟨p3,h3,rfl,t3,cP⟩;have HT:=aA t3;have oV:=aA cP;clear t3 cP;go_wp2_with fail;go_ret;exact ⟨_,_,rfl,HT.out,aS fG.out oV.out fG.out.size⟩
  ·have c2':¬(hl:Int)+1<(hr:Int):=by omega
   go_wp2_with fail;refine (jU (I:=I) (B:=B) HL.out HR.out (by omega) (by omega)).mono ?_;rintro e' w3 ⟨p3,rfl,t3,cP⟩;have HT:=aA t3;have oV:=aA cP;clear t3 cP;go_wp2_with fail;go_ret;exact ⟨_,_,rfl,HT.out,aS fG.out oV.out fG.out.size⟩
end
theorem lH.later {I:Nat→Prop} {B d:Nat} {w w':World} {p:Option Addr} {s:gX} {h:Nat} (q:lH (JB I B w) w d p s h) (hb:Below w.heap.size w w'):lH (JB I B w') w' d p s h :=
 q.stay fun k hk hl=>⟨by
  rcases hk with hk|hk
  ·exact .inl hk
  ·exact .inr ⟨hk.1,cH hk.2 hb.size⟩,hb.block k hl⟩
theorem EP {w0 w w':World} {a1 a2 a3 a4 a5 a6:Addr} {v1 v2 v3 v4 v5 v6:Value} (hb:Below w.heap.size w w')
  (h:Below w0.heap.size w0 w∧w.cell? a1=some v1∧w.cell? a2=some v2∧w.cell? a3=some v3∧w.cell? a4=some v4∧w.cell? a5=some v5∧w.cell? a6=some v6) :
  Below w0.heap.size w0 w'∧w'.cell? a1=some v1∧w'.cell? a2=some v2∧w'.cell? a3=some v3∧w'.cell? a4=some v4∧w'.cell? a5=some v5∧w'.cell? a6=some v6 :=
 let ⟨h0,h1,h2,h3,h4,h5,h6⟩:=h
 ⟨aS h0 hb h0.size,aI hb h1,aI hb h2,aI hb h3,aI hb h4,aI hb h5,aI hb h6⟩
section
variable {I:Nat→Prop} {B:Nat} {a b:Int}
theorem ZU {w:World} (hB:B≤w.heap.size):Calls prog 378 #[.pointer none,.agg #[.int .i64 a,.int .i64 b]] w (KA I B w [(a,b)]):=by
 go_enter func378,ntmps378;go_upto_region 1 with fail;generalize hW:World.alloc w _=W;have hb0:Below w.heap.size w W:=by rw [←hW];exact aB _ _
 have r4:Row W w.heap.size 373 [.int .i64 a,.int .i64 b]:=by rw [←hW];exact aV rfl
 have d0:=r4.cell_of (i:=0) rfl;have d1:=r4.cell_of (i:=1) rfl;have hlt:=r4.lt;have fG:=aA hb0;clear hW hb0 r4;go_wp2_with fail;refine (jU (I:=I) (B:=B) (e:=(a,b)) Tr.nil Tr.nil (by omega) (by simp)).mono ?_;rintro e' w3 ⟨p3,rfl,t3,cP⟩;have HT:=aA t3;have oV:=aA cP;clear t3 cP;go_wp2_with fail;go_ret;exact ⟨_,_,rfl,HT.out,aS fG.out oV.out fG.out.size⟩
theorem WI:∀ (d:Nat) (w:World) (p:Option Addr) (s:gX) (h:Nat),lH (JB I B w) w d p s h→vJ s→B≤w.heap.size→s.length≤500000000000 →
  Calls prog 378 #[.pointer p,.agg #[.int .i64 a,.int .i64 b]] w (KA I B w (xH s a b))
 |0,w,p,s,h,q,hs,hB,hz=>by
  obtain ⟨rfl,rfl,-⟩:=q;exact ZU hB
 |d+1,w,p,s,h,q,hs,hB,hz=>by
  have IH:=aA (WI d)
  rcases q with ⟨rfl,rfl,-⟩|⟨b1,pl,pr,e,sl,sr,hl,hr,rfl,-,nS,tl,tr,rfl,-⟩
  ·exact ZU hB
  have hzl:sl.length+sr.length+1≤500000000000:=by simp only [eD,eM] at hz;omega
  obtain ⟨as1,as2,-,-⟩:=mR.mp hs;have ln1:=US sl a b;have ln2:=US sr a b;have HAs:=aA hs;have WJ:=aA as1;have JD:=aA as2;clear hs as1 as2 hz;unfold wY at nS
  by_cases ca:a<e.1
  ·have HPT:=aA (aBF (b:=b) HAs.out ca)
   rw [HPT.out];go_enter func378,ntmps378;go_upto_region 1 with fail;generalize hW:World.alloc w _=W;have hb0:Below w.heap.size w W:=by rw [←hW];exact aB _ _
   have r4:Row W w.heap.size 373 [.int .i64 a,.int .i64 b]:=by rw [←hW];exact aV rfl
   have d0:=r4.cell_of (i:=0) rfl;have d1:=r4.cell_of (i:=1) rfl;have r1:=nS.old hb0;have c0:=r1.cell_of (i:=0) rfl;have c1:=r1.cell_of (i:=1) rfl;have c2:=r1.cell_of (i:=2) rfl;have c3:=r1.cell_of (i:=3) rfl;have hlt:=r4.lt;have fG:=aA hb0;have HL:=aA (tl.later hb0);have HR:=aA (tr.later hb0);clear hW hb0 r4 r1 nS tl tr;go_upto_region 3 with fail;go_quiet (fail);generalize jB:World.drewN W nq=W2;replace fG:=aA (show Below w.heap.size w W2 by rw [←jB];exact aX fG.out _);replace d0:W2.cell? ⟨w.heap.size,0,none⟩=some (.int .i64 a):=by rw [←jB];exact d0
   replace d1:W2.cell? ⟨w.heap.size,1,none⟩=some (.int .i64 b):=by rw [←jB];exact d1
   replace c0:W2.cell? ⟨b1,0,none⟩=some (.int .i64 e.1):=by rw [←jB];exact c0
   replace c1:W2.cell? ⟨b1,1,none⟩=some (.int .i64 e.2):=by rw [←jB];exact c1
   replace c2:W2.cell? ⟨b1,2,none⟩=some (.pointer pl):=by rw [←jB];exact c2
   replace c3:W2.cell? ⟨b1,3,none⟩=some (.pointer pr):=by rw [←jB];exact c3
   replace HL:=aA (show lH (JB I B W2) W2 d pl sl hl by rw [←jB];exact HL.out.later (aX (aT _ _) _));replace HR:=aA (show lH (JB I B W2) W2 d pr sr hr by rw [←jB];exact HR.out.later (aX (aT _ _) _));replace hlt:w.heap.size<W2.heap.size:=by rw [←jB];exact hlt
   clear jB;go_upto_region 4 with fail;refine fH (S:=(fun w'=>Below W2.heap.size W2 w'∧w'.cell? ⟨w.heap.size,0,none⟩=some (.int .i64 a)∧w'.cell? ⟨w.heap.size,1,none⟩=some (.int .i64 b)∧w'.cell? ⟨b1,0,none⟩=some (.int .i64 e.1)∧w'.cell? ⟨b1,1,none⟩=some (.int .i64 e.2)∧w'.cell? ⟨b1,2,none⟩=some (.pointer pl)∧w'.cell? ⟨b1,3,none⟩=some (.pointer pr))) 16 rfl (by kernel_rfl) ?_ (fun hHeld=>?_)
   ·exact ⟨(aT _ _).drew,d0,d1,c0,c1,c2,c3⟩
   iterate 5 (refine tk 15 (by rfl) (by kernel_rfl) (by exact fun _ _ _ h=>h) (.inl ⟨by rfl,fun w hS=>by (try dsimp only at hS);go_simp;(try with_reducible rfl)⟩) (by assumption) ?_;try go_frame)
   iterate 8 (refine tk 16 (by rfl) (by kernel_rfl) (by exact fun _ _ _ h=>h) (.inl ⟨by rfl,fun w hS=>by (try dsimp only at hS);go_simp;(try with_reducible rfl)⟩) (by assumption) ?_;try go_frame)
   refine cT 5 (by rfl) (by kernel_rfl) (fun K hK=>?_);go_simp;refine (IH.out _ _ _ _ (HL.out.later hHeld.1) WJ.out (by have:=hHeld.1.size;omega) (by omega)).mono ?_;rintro e' w3 ⟨p3,h3,rfl,t3,cP⟩;go_wp2_with fail;refine hK.out _ _ ?_ (fun hHeld=>?_)
   ·exact EP cP hHeld
   clear hK K
   (try go_frame)
   refine cT 14 (by rfl) (by kernel_rfl) (fun K hK=>?_);go_simp;refine (uS (I:=I) (B:=B) t3 ⟨d,HR.out.later hHeld.1⟩ (by have:=hHeld.1.size;omega) (by omega)).mono ?_;rintro e' w4 ⟨p4,h4,rfl,t4,dQ⟩;have HT:=aA t4;clear t4;go_wp2_with fail;refine hK.out _ _ ?_ (fun hHeld=>?_)
   ·exact EP dQ hHeld
   clear hK K
   (try go_frame)
   iterate 1 (refine tk 15 (by rfl) (by kernel_rfl) (by exact fun _ _ _ h=>h) (.inl ⟨by rfl,fun w hS=>by (try dsimp only at hS);go_simp;(try with_reducible rfl)⟩) (by assumption) ?_;try go_frame)
   refine cC (by kernel_rfl) ?_ _;go_wp2_with fail;go_ret;exact ⟨_,_,rfl,HT.out,aS fG.out hHeld.1 fG.out.size⟩
  ·by_cases cb:e.1<a
   ·have HPT:=aA (xw (b:=b) HAs.out cb)
    rw [HPT.out];go_enter func378,ntmps378;go_upto_region 1 with fail;generalize hW:World.alloc w _=W;have hb0:Below w.heap.size w W:=by rw [←hW];exact aB _ _
    have r4:Row W w.heap.size 373 [.int .i64 a,.int .i64 b]:=by rw [←hW];exact aV rfl
    have d0:=r4.cell_of (i:=0) rfl;have d1:=r4.cell_of (i:=1) rfl;have r1:=nS.old hb0;have c0:=r1.cell_of (i:=0) rfl;have c1:=r1.cell_of (i:=1) rfl;have c2:=r1.cell_of (i:=2) rfl;have c3:=r1.cell_of (i:=3) rfl;have hlt:=r4.lt;have fG:=aA hb0;have HL:=aA (tl.later hb0);have HR:=aA (tr.later hb0);clear hW hb0 r4 r1 nS tl tr;go_upto_region 3 with fail;go_quiet (fail);generalize jB:World.drewN W nq=W2;replace fG:=aA (show Below w.heap.size w W2 by rw [←jB];exact aX fG.out _);replace d0:W2.cell? ⟨w.heap.size,0,none⟩=some (.int .i64 a):=by rw [←jB];exact d0
    replace d1:W2.cell? ⟨w.heap.size,1,none⟩=some (.int .i64 b):=by rw [←jB];exact d1
    replace c0:W2.cell? ⟨b1,0,none⟩=some (.int .i64 e.1):=by rw [←jB];exact c0
    replace c1:W2.cell? ⟨b1,1,none⟩=some (.int .i64 e.2):=by rw [←jB];exact c1
    replace c2:W2.cell? ⟨b1,2,none⟩=some (.pointer pl):=by rw [←jB];exact c2
    replace c3:W2.cell? ⟨b1,3,none⟩=some (.pointer pr):=by rw [←jB];exact c3
    replace HL:=aA (show lH (JB I B W2) W2 d pl sl hl by rw [←jB];exact HL.out.later (aX (aT _ _) _));replace HR:=aA (show lH (JB I B W2) W2 d pr sr hr by rw [←jB];exact HR.out.later (aX (aT _ _) _));replace hlt:w.heap.size<W2.heap.size:=by rw [←jB];exact hlt
    clear jB;go_upto_region 5 with fail;go_quiet (fail);generalize mU:World.drewN W2 _=W3;replace fG:=aA (show Below w.heap.size w W3 by rw [←mU];exact aX fG.out _);replace d0:W3.cell? ⟨w.heap.size,0,none⟩=some (.int .i64 a):=by rw [←mU];exact d0
    replace d1:W3.cell? ⟨w.heap.size,1,none⟩=some (.int .i64 b):=by rw [←mU];exact d1
    replace c0:W3.cell? ⟨b1,0,none⟩=some (.int .i64 e.1):=by rw [←mU];exact c0
    replace c1:W3.cell? ⟨b1,1,none⟩=some (.int .i64 e.2):=by rw [←mU];exact c1
    replace c2:W3.cell? ⟨b1,2,none⟩=some (.pointer pl):=by rw [←mU];exact c2
    replace c3:W3.cell? ⟨b1,3,none⟩=some (.pointer pr):=by rw [←mU];exact c3
    replace HL:=aA (show lH (JB I B W3) W3 d pl sl hl by rw [←mU];exact HL.out.later (aX (aT _ _) _));replace HR:=aA (show lH (JB I B W3) W3 d pr sr hr by rw [←mU];exact HR.out.later (aX (aT _ _) _));replace hlt:w.heap.size<W3.heap.size:=by rw [←mU];exact hlt
    clear mU;go_upto_region 6 with fail;refine fH (S:=(fun w'=>Below W3.heap.size W3 w'∧w'.cell? ⟨w.heap.size,0,none⟩=some (.int .i64 a)∧w'.cell? ⟨w.heap.size,1,none⟩=some (.int .i64 b)∧w'.cell? ⟨b1,0,none⟩=some (.int .i64 e.1)∧w'.cell? ⟨b1,1,none⟩=some (.int .i64 e.2)∧w'.cell? ⟨b1,2,none⟩=some (.pointer pl)∧w'.cell? ⟨b1,3,none⟩=some (.pointer pr))) 16 rfl (by kernel_rfl) ?_ (fun hHeld=>?_)
    ·exact ⟨(aT _ _).drew,d0,d1,c0,c1,c2,c3⟩
    iterate 13 (refine tk 15 (by rfl) (by kernel_rfl) (by exact fun _ _ _ h=>h) (.inl ⟨by rfl,fun w hS=>by (try dsimp only at hS);go_simp;(try with_reducible rfl)⟩) (by assumption) ?_;try go_frame)
    refine cT 13 (by rfl) (by kernel_rfl) (fun K hK=>?_);go_simp;refine (IH.out _ _ _ _ (HR.out.later hHeld.1) JD.out (by have:=hHeld.1.size;omega) (by omega)).mono ?_;rintro e' w3 ⟨p3,h3,rfl,t3,cP⟩;go_wp2_with fail;refine hK.out _ _ ?_ (fun hHeld=>?_)
    ·exact EP cP hHeld
    clear hK K
    (try go_frame)
    refine cT 14 (by rfl) (by kernel_rfl) (fun K hK=>?_);go_simp;refine (uS (I:=I) (B:=B) ⟨d,HL.out.later (aS hHeld.1 (aT _ _) hHeld.1.size)⟩ t3 (by have:=hHeld.1.size;omega) (by omega)).mono ?_;rintro e' w4 ⟨p4,h4,rfl,t4,dQ⟩;have HT:=aA t4;clear t4;go_wp2_with fail;refine hK.out _ _ ?_ (fun hHeld=>?_)
    ·exact EP dQ hHeld
    clear hK K
    (try go_frame)
    iterate 1 (refine tk 15 (by rfl) (by kernel_rfl) (by exact fun _ _ _ h=>h) (.inl ⟨by rfl,fun w hS=>by (try dsimp only at hS);go_simp;(try with_reducible rfl)⟩) (by assumption) ?_;try go_frame)
    refine cC (by kernel_rfl) ?_ _;go_wp2_with fail;go_ret;exact ⟨_,_,rfl,HT.out,aS fG.out hHeld.1 fG.out.size⟩
   ·have ce:e.1=a:=by omega
    have HPT:=aA (aDh (b:=b) HAs.out ce);rw [HPT.out];clear ce;go_enter func378,ntmps378;go_upto_region 1 with fail;generalize hW:World.alloc w _=W;have hb0:Below w.heap.size w W:=by rw [←hW];exact aB _ _
    have r4:Row W w.heap.size 373 [.int .i64 a,.int .i64 b]:=by rw [←hW];exact aV rfl
    have d0:=r4.cell_of (i:=0) rfl;have d1:=r4.cell_of (i:=1) rfl;have r1:=nS.old hb0;have c0:=r1.cell_of (i:=0) rfl;have c1:=r1.cell_of (i:=1) rfl;have c2:=r1.cell_of (i:=2) rfl;have c3:=r1.cell_of (i:=3) rfl;have hlt:=r4.lt;have fG:=aA hb0;have HL:=aA (tl.later hb0);have HR:=aA (tr.later hb0);clear hW hb0 r4 r1 nS tl tr;go_upto_region 3 with fail;go_quiet (fail);generalize jB:World.drewN W nq=W2;replace fG:=aA (show Below w.heap.size w W2 by rw [←jB];exact aX fG.out _);replace d0:W2.cell? ⟨w.heap.size,0,none⟩=some (.int .i64 a):=by rw [←jB];exact d0
    replace d1:W2.cell? ⟨w.heap.size,1,none⟩=some (.int .i64 b):=by rw [←jB];exact d1
    replace c0:W2.cell? ⟨b1,0,none⟩=some (.int .i64 e.1):=by rw [←jB];exact c0
    replace c1:W2.cell? ⟨b1,1,none⟩=some (.int .i64 e.2):=by rw [←jB];exact c1
    replace c2:W2.cell? ⟨b1,2,none⟩=some (.pointer pl):=by rw [←jB];exact c2
    replace c3:W2.cell? ⟨b1,3,none⟩=some (.pointer pr):=by rw [←jB];exact c3
    replace HL:=aA (show lH (JB I B W2) W2 d pl sl hl by rw [←jB];exact HL.out.later (aX (aT _ _) _));replace HR:=aA (show lH (JB I B W2) W2 d pr sr hr by rw [←jB];exact HR.out.later (aX (aT _ _) _));replace hlt:w.heap.size<W2.heap.size:=by rw [←jB];exact hlt
    clear jB;go_upto_region 5 with fail;go_quiet (fail);generalize mU:World.drewN W2 _=W3;replace fG:=aA (show Below w.heap.size w W3 by rw [←mU];exact aX fG.out _);replace d0:W3.cell? ⟨w.heap.size,0,none⟩=some (.int .i64 a):=by rw [←mU];exact d0
    replace d1:W3.cell? ⟨w.heap.size,1,none⟩=some (.int .i64 b):=by rw [←mU];exact d1
    replace c0:W3.cell? ⟨b1,0,none⟩=some (.int .i64 e.1):=by rw [←mU];exact c0
    replace c1:W3.cell? ⟨b1,1,none⟩=some (.int .i64 e.2):=by rw [←mU];exact c1
    replace c2:W3.cell? ⟨b1,2,none⟩=some (.pointer pl):=by rw [←mU];exact c2
    replace c3:W3.cell? ⟨b1,3,none⟩=some (.pointer pr):=by rw [←mU];exact c3
    replace HL:=aA (show lH (JB I B W3) W3 d pl sl hl by rw [←mU];exact HL.out.later (aX (aT _ _) _));replace HR:=aA (show lH (JB I B W3) W3 d pr sr hr by rw [←mU];exact HR.out.later (aX (aT _ _) _));replace hlt:w.heap.size<W3.heap.size:=by rw [←mU];exact hlt
    clear mU;go_upto_region 7 with fail;refine fH (S:=(fun w'=>Below W3.heap.size W3 w'∧w'.cell? ⟨w.heap.size,0,none⟩=some (.int .i64 a)∧w'.cell? ⟨w.heap.size,1,none⟩=some (.int .i64 b)∧w'.cell? ⟨b1,0,none⟩=some (.int .i64 e.1)∧w'.cell? ⟨b1,1,none⟩=some (.int .i64 e.2)∧w'.cell? ⟨b1,2,none⟩=some (.pointer pl)∧w'.cell? ⟨b1,3,none⟩=some (.pointer pr))) 11 rfl (by kernel_rfl) ?_ (fun hHeld=>?_)
    ·exact ⟨(aT _ _).drew,d0,d1,c0,c1,c2,c3⟩
    iterate 9 (refine tk 10 (by rfl) (by kernel_rfl) (by exact fun _ _ _ h=>h) (.inl ⟨by rfl,fun w hS=>by (try dsimp only at hS);go_simp;(try with_reducible rfl)⟩) (by assumption) ?_;try go_frame)
    refine cT 9 (by rfl) (by kernel_rfl) (fun K hK=>?_);go_simp;refine (jU (I:=I) (B:=B) (e:=(a,b)) ⟨d,HL.out.later hHeld.1⟩ ⟨d,HR.out.later hHeld.1⟩ (by have:=hHeld.1.size;omega) (by omega)).mono ?_;rintro e' w4 ⟨p4,rfl,t4,dQ⟩;have HT:=aA t4;clear t4;go_wp2_with fail;refine hK.out _ _ ?_ (fun hHeld=>?_)
    ·exact EP dQ hHeld
    clear hK K
    (try go_frame)
    iterate 1 (refine tk 10 (by rfl) (by kernel_rfl) (by exact fun _ _ _ h=>h) (.inl ⟨by rfl,fun w hS=>by (try dsimp only at hS);go_simp;(try with_reducible rfl)⟩) (by assumption) ?_;try go_frame)
    refine cC (by kernel_rfl) ?_ _;go_wp2_with fail;go_ret;exact ⟨_,_,rfl,HT.out,aS fG.out hHeld.1 fG.out.size⟩
end
end Go.Proofs.YtefjhnhdagolhaaGreat
namespace Go.Proofs.YtefjhnhdagolhaaGreat
open Tryz
open Go.ChangeShapes Go.WideShapes Go.ChangeAt Go.RowKit Go.Joins Go.Deep
theorem aEr {α:Type} {cs:Array α} (h:cs.size=7):∃ c0 c1 c2 c3 c4 c5 c6,cs=#[c0,c1,c2,c3,c4,c5,c6]:=by
 obtain ⟨l⟩:=cs
 match l,h with
 |[c0,c1,c2,c3,c4,c5,c6],_=>exact ⟨c0,c1,c2,c3,c4,c5,c6,rfl⟩
theorem XK:prog.cellsOf 26=7:=by kernel_rfl
theorem sy:prog.cellsOf 24=4:=by kernel_rfl
theorem NJ:prog.cellsOf 3=1:=by kernel_rfl
theorem aCG:prog.cellsOf 22=1:=by kernel_rfl
section
variable {H:Type} {enc:TypeId×Value→H} {W:World}
theorem oy {fuel:Nat} {c:Value} {y:DataW H×List MemPlace} (h:DataW.trod enc prog W 0 (fun _=>true) true fuel 22 [c]=some y):∃ xs:List Int,Sl W c (ints xs)∧sliceLen y.1=xs.length∧∀ x∈xs,(Lit.int .i64 x).wf=true:=by
 rcases open_ints underlying22 underlying3 NJ h with ⟨hcs,hx⟩|⟨a,len,cap,zs,hcs,-,hl,hm,hz,hx,hcell,hwz⟩
 ·simp at hcs
  subst hcs;subst hx;exact ⟨[],Sl.nil W,rfl,by simp⟩
 ·simp at hcs
  subst hcs;subst hx;simp only [if_true] at hz;have hlen:(ints (zs.take len)).length=len:=by simp [ints];omega
  refine ⟨zs.take len,⟨some a,cap,by rw [hlen],by rw [hlen];exact hl,hm,?_⟩,?_,fun x hx=>hwz x (List.mem_of_mem_take hx)⟩
  ·by_cases h0:len=0
   ·left;subst h0;simp [ints]
   ·right
    obtain ⟨b,off,spot⟩:=a;have aA8:spot=none:=by simpa [Addr.add] using World.cell?_spot (hcell 0 (by omega))
    subst aA8;refine ⟨b,off,rfl,fun j x hj=>?_⟩;have hjl:j<len:=by
     have:=(AB.1 hj).1;omega
    have h2:=hcell j (by omega);rw [lC,IZ,aJ hjl,eT (by omega)] at hj;simp at hj;subst hj;rw [List.getD_eq_getElem?_getD,eT (by omega)] at h2
    by_cases hj0:j=0
    ·subst hj0
     simpa [Addr.add] using h2
    ·simpa [Addr.add,hj0] using h2
  ·show (lits .i64 (zs.take len)).length=_
   simp [lits]
theorem KT {base:Nat} {v:Value} {d:DataW H} {p:List MemPlace} (hv:Value.okWide prog W .any base 26 v) (h:DataW.Trod enc prog W 0 (fun _=>true) true 26 v d p) :
  ∃ (kind th cap st co:Int) (nx ou:List Int) (vn vo:Value) (dn dou:DataW H),v = .agg #[.int .i64 kind,.int .i64 th,.int .i64 cap,.int .i64 st,.int .i64 co,vn,vo]∧Sl W vn (ints nx)∧Sl W vo (ints ou) ∧
   d = .agg [.lit (.int .i64 kind),.lit (.int .i64 th),.lit (.int .i64 cap),.agg [.lit (.int .i64 st),.lit (.int .i64 co),dn,dou]]∧sliceLen dn=nx.length∧sliceLen dou=ou.length ∧
   (∀ x∈[kind,th,cap,st,co]++nx++ou,(Lit.int .i64 x).wf=true):=by
 obtain ⟨cs,rfl,hsz⟩:=okWide_struct underlying26 hv;obtain ⟨c0,c1,c2,c3,c4,c5,c6,rfl⟩:=aEr (hsz.trans XK);obtain ⟨fuel,hf⟩:=h;obtain ⟨y0,y1,y2,y3,m,hx,-,h0,h1,h2,h3⟩:=trod_struct4 underlying26 hf;obtain ⟨z0,z1,z2,z3,m',hx3,-,k0,k1,k2,k3⟩:=trod_struct4 underlying24 h3;simp only [NJ,Value.cells,List.drop_succ_cons,List.drop_zero,List.take_succ_cons,List.take_zero] at h0 h1 h2;simp only [NJ,aCG,sy,Value.cells,List.drop_succ_cons,List.drop_zero,List.take_succ_cons,List.take_zero] at k0 k1 k2 k3;obtain ⟨kind,e0,rfl,w0⟩:=DataW.trod_int underlying3 h0;obtain ⟨th,e1,rfl,w1⟩:=DataW.trod_int underlying3 h1;obtain ⟨cap,e2,rfl,w2⟩:=DataW.trod_int underlying3 h2;obtain ⟨st,e3,rfl,w3⟩:=DataW.trod_int underlying3 k0;obtain ⟨co,e4,rfl,w4⟩:=DataW.trod_int underlying3 k1;obtain ⟨nx,s1,l1,x1⟩:=oy k2;obtain ⟨ou,s2,l2,x2⟩:=oy k3;simp only [List.cons.injEq,and_true] at e0 e1 e2 e3 e4;subst e0 e1 e2 e3 e4;simp only [fW] at hx;subst hx3;refine ⟨kind,th,cap,st,co,nx,ou,c5,c6,z2.1,z3.1,rfl,s1,s2,hx.1,l1,l2,?_⟩;intro x hxm;simp only [tB,BK,List.not_mem_nil,or_false] at hxm
 rcases hxm with ((rfl|rfl|rfl|rfl|rfl)|h)|h
 ·exact w0
 ·exact w1
 ·exact w2
 ·exact w3
 ·exact w4
 ·exact x1 x h
 ·exact x2 x h
end
end Go.Proofs.YtefjhnhdagolhaaGreat
