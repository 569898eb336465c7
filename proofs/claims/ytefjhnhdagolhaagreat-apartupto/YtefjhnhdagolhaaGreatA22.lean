import Derived.Test.YtefjhnhdagolhaaGreatA16
import Derived.Test.YtefjhnhdagolhaaGreatA13
set_option maxHeartbeats 2000000
set_option maxRecDepth 20000
namespace Go.Proofs.YtefjhnhdagolhaaGreat
open Tryz
open Go.RowKit
attribute [local go_sem ↓] Go.wp_at_zero Go.wp_at_succ
theorem aFz {w:World} {base:Nat} {e:TypeId} {v:Value} {n:Nat} {xs:List Value} (h:w.ownsRow base e 1 v n xs):Sl w v xs:=by
 have hl:xs.length=n:=by simpa using h.1
 rcases h.2 with ⟨rfl,rfl⟩|⟨g,cap,cur,rfl,-,hg,hc,hm,hcs,yw⟩
 ·obtain rfl:xs=[]:=List.eq_nil_of_length_eq_zero hl
  exact Sl.nil w
 ·refine ⟨some ⟨g,0,none⟩,cap,by rw [hl],by rw [hl];exact hc,hm,.inr ⟨g,0,rfl,fun j x hj=>?_⟩⟩
  have:=h.cells (g:=g) rfl j x hj;rw [show (⟨g,0,none⟩:Addr).add j=⟨g,j,none⟩ by by_cases q:j=0<;>simp [Addr.add,q]] at this;simpa using this
def TG (n:Nat) (kind cap st co:Int) (nx ou:List Int) (vn vo:Value) (Mk:World→Nat→World→Prop) (w:World) (e:Ending) (w':World):Prop :=
 ∃ (base bX bY:Nat) (tE:TypeId) (bN:Nat) (w01 w1 w03 w4 wr:World),e = .returned (.tuple #[.pointer (some ⟨wr.heap.size,0,none⟩),.bool true])∧tP w01 kind n cap st co nx ou vn vo bY w1∧Below w.heap.size w w01∧Mk w03 bX w4∧w1.heap.size≤w03.heap.size∧base≤w03.heap.size∧Row wr bX 74 [.iface tE (.pointer (some ⟨bN,0,none⟩))]∧DM base w4 wr∧w4.heap.size≤wr.heap.size∧Below w1.heap.size w1 wr ∧
  Row w' wr.heap.size 90 [.pointer (some ⟨bX,0,none⟩),.pointer (some ⟨bY,0,none⟩),.slice none 0 0,.slice none 0 0]∧Below wr.heap.size wr w'∧Below w.heap.size w wr
structure ND (n:Nat) (kind cap st co:Int) (nx ou:List Int) (vn vo:Value) (Mk:World→Nat→World→Prop):Prop where
 ref:∀ W,Sl W vn (ints nx)→Sl W vo (ints ou)→Calls prog 41 #[.agg #[.int .i64 kind,.int .i64 (n:Int),.int .i64 cap,.int .i64 st,.int .i64 co,vn,vo]] W fun e w'=>∃ b,e = .returned (.tuple #[.pointer (some ⟨b,0,none⟩),.int .i64 0])∧tP W kind n cap st co nx ou vn vo b w'
 new:∀ W u1 u2,Sl W u1 (ints nx)→Sl W u2 (ints ou)→Calls prog 42 #[.agg #[.int .i64 kind,.int .i64 (n:Int),.int .i64 cap,.int .i64 st,.int .i64 co,u1,u2]] W fun e w'=>∃ b,e = .returned (.tuple #[.pointer (some ⟨b,0,none⟩),.int .i64 0])∧Mk W b w'
 qQ:∀ W b W',Mk W b W'→∃ tE bN,Row W' b 74 [.iface tE (.pointer (some ⟨bN,0,none⟩))]∧Below W.heap.size W W'
theorem aBp {Mk:World→Nat→World→Prop} (kind:Int) (n:Nat) (cap st co:Int) (nx ou:List Int) (vn vo:Value) (w:World) (hn:Sl w vn (ints nx)) (ho:Sl w vo (ints ou)) (n1:nx.length≤1048576) (n2:ou.length≤1048576) (h:gZ kind n cap st co nx ou=0) (mk:ND n kind cap st co nx ou vn vo Mk) :
  Calls prog 17 #[.agg #[.int .i64 kind,.int .i64 (n:Int),.int .i64 cap,.int .i64 st,.int .i64 co,vn,vo]] w (TG n kind cap st co nx ou vn vo Mk w):=by
 have eP:=(aAl h).1;have aEa:=aA (fun W (hW:Below w.heap.size w W)=>mk.ref W (hn.below hW) (ho.below hW));have aD6:=aA mk.new;have aGl:=aA mk.qQ;obtain ⟨a1,k1,e1,-⟩:=hn.open_ints;obtain ⟨a2,k2,e2,-⟩:=ho.open_ints;have HN:=aA hn;have HO:=aA ho;clear hn ho mk;subst e1;subst e2;clear h;go_enter func17,ntmps17;go_wp2_with fail;refine (aEa.out _ (aB _ _)).mono ?_;rintro e w1 ⟨bY,rfl,uy⟩;obtain ⟨-,-,-,-,-,-,-,-,-,-,eN⟩:=uy.aFv (by omega);have HRD:=aA uy;clear uy;have nS:Row w1 w.heap.size 26 [.int .i64 kind,.int .i64 (n:Int),.int .i64 cap,.int .i64 st,.int .i64 co,.slice a1 nx.length k1,.slice a2 ou.length k2]:=(aV rfl).old eN;have q5:w1.cell? ⟨w.heap.size,5,none⟩=some (.slice a1 nx.length k1):=nS.cell_of rfl;have oU:=aA (aS (aB w _) eN (by simp));have pX:=aA nS;clear eN nS;go_wp2_with fail;refine (mC nx _ _ (HN.out.below oU.out) n1).mono ?_;rintro e w2 ⟨g1,rfl,hg1,yG,bI⟩;have q6:w2.cell? ⟨w.heap.size,6,none⟩=some (.slice a2 ou.length k2):=aI bI (pX.out.cell_of rfl);have pW:=aA bI;have HG1:=aA (show Row w2 g1 3 (ints (nx++[-77,-77])) from yG);have TB:=aA (aS oU.out bI oU.out.size);clear q5 bI yG;go_wp2_with fail;refine (mC ou _ _ (HO.out.below TB.out) n2).mono ?_;rintro e w3 ⟨g2,rfl,hg2,BA,cP⟩;have oV:=aA cP;have ko:=aA (show Row w3 g2 3 (ints (ou++[-77,-77])) from BA);have qj:=aA (HG1.out.old cP);have zj:=aA (aS TB.out cP TB.out.size);have qp:=aA ((pX.out.old pW.out).old cP);obtain ⟨-,q0,q1,q2,q3,q4,q5,q6'⟩:=JN qp.out;have q5':=fun ob=>bO q5 ob
 have aFu:=fun ob=>bO q6' ob
 have hne:¬w.heap.size=w3.heap.size:=by have:=qp.out.lt;omega
 clear cP BA q6;go_wp2_with fail;refine (aD6.out _ _ _ (CC (qj.out.alloc _) n1) (CC (ko.out.alloc _) n2)).mono ?_;rintro e w4 ⟨bX,rfl,aAG⟩;obtain ⟨tE,bN,hrX,dQ⟩:=aGl.out _ _ _ aAG;have HRX:=aA hrX;have aJS:=aA aAG;clear aAG hrX;have FA:=aA (aS (aB w3 _) dQ (by simp));have bq:=aA (aS zj.out FA.out zj.out.size);have r5:w4.cell? ⟨w.heap.size,5,none⟩=some (.slice a1 nx.length k1):=aI FA.out q5;have ql:=aA (qj.out.old FA.out);have aCo:=aA (ko.out.old FA.out);have HR4:=aA (qp.out.old FA.out);clear dQ q0 q1 q2 q3 q4 q5 q6' q5' aFu;go_wp2_with fail;refine (mC nx _ _ (HN.out.below bq.out) n1).mono ?_;rintro e w5 ⟨g3,rfl,hg3,hr3,xU⟩;have JE:=aA xU;have WL:=aA (show Row w5 g3 3 (ints (nx++[-77,-77])) from hr3);clear xU hr3 r5;go_wp2_with fail;refine (pL (nx++[-77,-77]) (nx++[-77,-77]) _ _ _ (mA (ql.out.old JE.out) n1) (mA WL.out n1)).mono ?_;rintro e w6 ⟨rfl,k6,rfl⟩;rw [kE (rfl:nx++[-77,-77]=nx++[-77,-77])];have TC:=aA (aX (aS bq.out JE.out bq.out.size) k6);have r6:(w5.drewN k6).cell? ⟨w.heap.size,6,none⟩=some (.slice a2 ou.length k2):=(HR4.out.old JE.out).cell_of rfl;have HK6:=aA (show Below w4.heap.size w4 (w5.drewN k6) from aX JE.out _);generalize UA:World.drewN w5 k6=w6 at r6 TC HK6 ⊢;have zl:=aA (show Row w6 g2 3 (ints (ou++[-77,-77])) by rw [←UA];exact aCo.out.old (aX JE.out _));have aD2:=aA (show Row w6 g1 3 (ints (nx++[-77,-77])) by rw [←UA];exact ql.out.old (aX JE.out _));clear UA;go_wp2_with fail;refine (mC ou _ _ (HO.out.below TC.out) n2).mono ?_
 rintro e w7 ⟨g4,rfl,hg4,KP,LK⟩;have HB7:=aA LK;have HG4:=aA (show Row w7 g4 3 (ints (ou++[-77,-77])) from KP);clear LK KP r6;go_wp2_with fail;refine (pL (ou++[-77,-77]) (ou++[-77,-77]) _ _ _ (mA (zl.out.old HB7.out) n2) (mA HG4.out n2)).mono ?_;rintro e w8 ⟨rfl,k8,rfl⟩;rw [kE (rfl:ou++[-77,-77]=ou++[-77,-77])];generalize hW8:World.drewN w7 k8=w8;have HK8:=aA (show Below w4.heap.size w4 w8 by rw [←hW8];exact aX (aS HK6.out HB7.out HK6.out.size) _);have aDX:=aA (show Below w.heap.size w w8 by rw [←hW8];exact aX (aS TC.out HB7.out TC.out.size) _);have aD4:=aA (show Row w8 g2 3 (ints (ou++[-77,-77])) by rw [←hW8];exact zl.out.old (aX HB7.out _));have aD3:=aA (show Row w8 g1 3 (ints (nx++[-77,-77])) by rw [←hW8];exact aD2.out.old (aX HB7.out _));clear hW8;have oo:w.heap.size≤g1:=by have:=oU.out.size;omega
 have aFh:w.heap.size≤g2:=by have:=TB.out.size;omega
 have YJ:w1.heap.size≤g2:=by have:=pW.out.size;omega
 have hs1:=qj.out.lt;have hs2:=ko.out.lt;have hx1:bX≠g1:=Row.apart HRX.out ql.out (by decide);have yy:bX≠g2:=Row.apart HRX.out aCo.out (by decide);have fM:w8.there g1 0 (nx.length+2):=aD3.out.there (by simp [ints]);have xW:w8.there g2 0 (ou.length+2):=aD4.out.there (by simp [ints]);have aEO:=aS pW.out oV.out pW.out.size;have aEP:=aS aEO FA.out aEO.size;have HI:=aA (show yQ w w1 w4 (w3.heap.size+1) bX _ w8 from ⟨aDX.out,aS aEP HK8.out aEP.size,DM.cA HK8.out,HK8.out.size,HRX.out.old HK8.out⟩);have HS:=aA (show yQ w w1 w4 (w3.heap.size+1) bX _ w8∧w8.there g1 0 (nx.length+2)∧w8.there g2 0 (ou.length+2) from ⟨HI.out,fM,xW⟩);clear fM xW aEO aEP;go_wp2
 go_loopw [13] (fun i w'=>∃ k:Nat,k≤nx.length+2∧i = .int .i64 (k:Int)∧yQ w w1 w4 (w3.heap.size+1) bX (.iface tE (.pointer (some ⟨bN,0,none⟩))) w'∧w'.there g1 0 (nx.length+2)∧w'.there g2 0 (ou.length+2)) (fun i _=>nx.length+2-(intOf i).toNat)
 case atStart=>exact ⟨0,aW _,rfl,HS.out⟩
 case round =>
  obtain ⟨k,hk,rfl,hB,hT1,TZ⟩:=hrel
  by_cases hlt:k<nx.length+2
  ·obtain ⟨ie,aq⟩:=hT1 k hlt
   rw [nJ] at ie aq;obtain ⟨v,hv⟩:=pQ.1 ie;have hlt':(k:Int)<(nx.length:Int)+2:=by omega
   have WU:(0:Int)≤(k:Int):=by omega
   have HX:=aA (aP hB (aP hT1 TZ));clear hB hT1 TZ ie;go_wp2;go_roundw
   case rel=>exact ⟨k+1,by omega,by go_num,HX.out.1.set oo (by show _≤g1;omega) (by show g1<_;omega) hx1 _,bA HX.out.2.1 _ rfl _,bA HX.out.2.2 _ rfl _⟩
   case measure=>simp [intOf];omega
  ·have hlt':¬(k:Int)<(nx.length:Int)+2:=by omega
   have HX:=aA (aP hB (aP hT1 TZ));clear hB hT1 TZ;go_wp2
   go_loopw [14] (fun i w'=>∃ k:Nat,k≤ou.length+2∧i = .int .i64 (k:Int)∧yQ w w1 w4 (w3.heap.size+1) bX (.iface tE (.pointer (some ⟨bN,0,none⟩))) w'∧w'.there g2 0 (ou.length+2)) (fun i _=>ou.length+2-(intOf i).toNat)
   case atStart=>exact ⟨0,aW _,rfl,HX.out.1,HX.out.2.2⟩
   case round =>
    obtain ⟨k9,hk9,rfl,hB,TZ⟩:=hrel
    by_cases aE2:k9<ou.length+2
    ·obtain ⟨ie,aq⟩:=TZ k9 aE2
     rw [nJ] at ie aq;obtain ⟨v,hv⟩:=pQ.1 ie;have aAV:(k9:Int)<(ou.length:Int)+2:=by omega
     have WU:(0:Int)≤(k9:Int):=by omega
     have qq:=aA (aP hB TZ);clear hB TZ ie;go_wp2;go_roundw
     case rel=>exact ⟨k9+1,by omega,by go_num,qq.out.1.set aFh YJ (by show g2<_;omega) yy _,bA qq.out.2 _ rfl _⟩
     case measure=>simp [intOf];omega
    ·have aAV:¬(k9:Int)<(ou.length:Int)+2:=by omega
     have qq:=aA hB;clear hB TZ;go_wp2
     go_ret2
     unfold TG;exact ⟨_,bX,bY,tE,bN,_,w1,_,w4,_,rfl,HRD.out,aB _ _,aJS.out,by have:=aS pW.out oV.out pW.out.size;exact bK this.size (by simp),by simp,qq.out.rX,qq.out.k4,qq.out.sz,qq.out.b1,aV rfl,aB _ _,qq.out.b0⟩
end Go.Proofs.YtefjhnhdagolhaaGreat
