import Derived.Test.YtefjhnhdagolhaaGreatQ19
import Derived.Test.YtefjhnhdagolhaaGreatQ16
namespace Go.Proofs.YtefjhnhdagolhaaGreat
open Go.RowKit
attribute [local go_sem ↓] Go.wp_at_zero Go.wp_at_succ
theorem SU {w:World} {base:Nat} {e:TypeId} {v:Value} {n:Nat} {xs:List Value} (h:w.ownsRow base e 1 v n xs):Sl w v xs:=by
 have hl:xs.length=n:=by simpa using h.1
 rcases h.2 with ⟨rfl,rfl⟩|⟨g,cap,cur,rfl,-,hg,hc,hm,hcs,RV⟩
 ·obtain rfl:xs=[]:=List.eq_nil_of_length_eq_zero hl
  exact Sl.nil w
 ·refine ⟨some ⟨g,0,none⟩,cap,by rw [hl],by rw [hl];exact hc,hm,.inr ⟨g,0,rfl,fun j x hj=>?_⟩⟩
  have:=h.cells (g:=g) rfl j x hj
  rw [show (⟨g,0,none⟩:Addr).add j=⟨g,j,none⟩ by by_cases q:j=0<;>simp [Addr.add,q]] at this
  simpa using this
end Go.Proofs.YtefjhnhdagolhaaGreat
namespace Go.Proofs.YtefjhnhdagolhaaGreat
open Go.RowKit
attribute [local go_sem ↓] Go.wp_at_zero Go.wp_at_succ
def CV (n:Nat) (kind cap st co:Int) (nx ou:List Int) (vn vo:Value) (Mk:World→Nat→World→Prop) (w:World) (e:Ending) (w':World):Prop :=
 ∃ (base bX bY:Nat) (tE:TypeId) (bN:Nat) (w01 w1 w03 w4 wr:World),e = .returned (.tuple #[.pointer (some ⟨wr.heap.size,0,none⟩),.bool true])∧lI w01 kind n cap st co nx ou vn vo bY w1∧Below w.heap.size w w01∧Mk w03 bX w4∧w1.heap.size≤w03.heap.size∧base≤w03.heap.size∧Row wr bX 74 [.iface tE (.pointer (some ⟨bN,0,none⟩))]∧qK base w4 wr∧w4.heap.size≤wr.heap.size∧Below w1.heap.size w1 wr ∧
  Row w' wr.heap.size 90 [.pointer (some ⟨bX,0,none⟩),.pointer (some ⟨bY,0,none⟩),.slice none 0 0,.slice none 0 0]∧Below wr.heap.size wr w'∧Below w.heap.size w wr
structure FP (n:Nat) (kind cap st co:Int) (nx ou:List Int) (vn vo:Value) (Mk:World→Nat→World→Prop):Prop where
 ref:∀ W,Sl W vn (ints nx)→Sl W vo (ints ou)→Calls Tryz.prog 41 #[.agg #[.int .i64 kind,.int .i64 (n:Int),.int .i64 cap,.int .i64 st,.int .i64 co,vn,vo]] W fun e w'=>∃ b,e = .returned (.tuple #[.pointer (some ⟨b,0,none⟩),.int .i64 0])∧lI W kind n cap st co nx ou vn vo b w'
 new:∀ W u1 u2,Sl W u1 (ints nx)→Sl W u2 (ints ou)→Calls Tryz.prog 42 #[.agg #[.int .i64 kind,.int .i64 (n:Int),.int .i64 cap,.int .i64 st,.int .i64 co,u1,u2]] W fun e w'=>∃ b,e = .returned (.tuple #[.pointer (some ⟨b,0,none⟩),.int .i64 0])∧Mk W b w'
 fL:∀ W b W',Mk W b W'→∃ tE bN,Row W' b 74 [.iface tE (.pointer (some ⟨bN,0,none⟩))]∧Below W.heap.size W W'
set_option maxRecDepth 20000 in
set_option maxHeartbeats 2000000 in
theorem SV {Mk:World→Nat→World→Prop} (kind:Int) (n:Nat) (cap st co:Int) (nx ou:List Int) (vn vo:Value) (w:World) (hn:Sl w vn (ints nx)) (ho:Sl w vo (ints ou)) (n1:nx.length≤1048576) (n2:ou.length≤1048576) (h:eD kind n cap st co nx ou=0) (mk:FP n kind cap st co nx ou vn vo Mk) :
  Calls Tryz.prog 17 #[.agg #[.int .i64 kind,.int .i64 (n:Int),.int .i64 cap,.int .i64 st,.int .i64 co,vn,vo]] w (CV n kind cap st co nx ou vn vo Mk w):=by
 have dN:=(SK h).1
 have aAu:=aA (fun W (hW:Below w.heap.size w W)=>mk.ref W (hn.below hW) (ho.below hW))
 have aAv:=aA mk.new
 have aCF:=aA mk.fL
 obtain ⟨a1,k1,e1,-⟩:=hn.open_ints
 obtain ⟨a2,k2,e2,-⟩:=ho.open_ints
 have HN:=aA hn
 have HO:=aA ho
 clear hn ho mk
 subst e1
 subst e2
 clear h
 go_enter Tryz.func17,Tryz.ntmps17
 go_wp2_with fail
 refine (aAu.out _ (aB _ _)).mono ?_
 rintro e w1 ⟨bY,rfl,CW⟩
 obtain ⟨-,-,-,-,-,-,-,-,-,-,dU⟩:=CW.aAD (by omega)
 have HRD:=aA CW
 clear CW
 have wR:Row w1 w.heap.size 26 [.int .i64 kind,.int .i64 (n:Int),.int .i64 cap,.int .i64 st,.int .i64 co,.slice a1 nx.length k1,.slice a2 ou.length k2]:=(Row.new' rfl).old dU
 have q5:w1.cell? ⟨w.heap.size,5,none⟩=some (.slice a1 nx.length k1):=wR.cell_of rfl
 have jW:=aA (Below.next (aB w _) dU (by simp))
 have jF:=aA wR
 clear dU wR
 go_wp2_with fail
 refine (gH nx _ _ (HN.out.below jW.out) n1).mono ?_
 rintro e w2 ⟨g1,rfl,hg1,lC,aP⟩
 have q6:w2.cell? ⟨w.heap.size,6,none⟩=some (.slice a2 ou.length k2):=cell_later aP (jF.out.cell_of rfl)
 have mD:=aA aP
 have HG1:=aA (show Row w2 g1 3 (ints (nx++[-77,-77])) from lC)
 have CO:=aA (Below.next jW.out aP jW.out.size)
 clear q5 aP lC
 go_wp2_with fail
 refine (gH ou _ _ (HO.out.below CO.out) n2).mono ?_
 rintro e w3 ⟨g2,rfl,hg2,CP,cH⟩
 have pY:=aA cH
 have WH:=aA (show Row w3 g2 3 (ints (ou++[-77,-77])) from CP)
 have OG:=aA (HG1.out.old cH)
 have SG:=aA (Below.next CO.out cH CO.out.size)
 have VP:=aA ((jF.out.old mD.out).old cH)
 obtain ⟨-,q0,q1,q2,q3,q4,q5,q6'⟩:=JG VP.out
 have q5':=fun ob=>aX q5 ob
 have aAw:=fun ob=>aX q6' ob
 have hne:¬w.heap.size=w3.heap.size:=by have:=VP.out.lt;omega
 clear cH CP q6
 go_wp2_with fail
 refine (aAv.out _ _ _ (pX (OG.out.alloc _) n1) (pX (WH.out.alloc _) n2)).mono ?_
 rintro e w4 ⟨bX,rfl,SW⟩
 obtain ⟨tE,bN,hrX,eF⟩:=aCF.out _ _ _ SW
 have HRX:=aA hrX
 have aFq:=aA SW
 clear SW hrX
 have rY:=aA (Below.next (aB w3 _) eF (by simp))
 have JL:=aA (Below.next SG.out rY.out SG.out.size)
 have r5:w4.cell? ⟨w.heap.size,5,none⟩=some (.slice a1 nx.length k1):=cell_later rY.out q5
 have OH:=aA (OG.out.old rY.out)
 have WT:=aA (WH.out.old rY.out)
 have WU:=aA (VP.out.old rY.out)
 clear eF q0 q1 q2 q3 q4 q5 q6' q5' aAw
 go_wp2_with fail
 refine (gH nx _ _ (HN.out.below JL.out) n1).mono ?_
 rintro e w5 ⟨g3,rfl,EZ,FK,nP⟩
 have qL:=aA nP
 have EX:=aA (show Row w5 g3 3 (ints (nx++[-77,-77])) from FK)
 clear nP FK r5
 go_wp2_with fail
 refine (iN (nx++[-77,-77]) (nx++[-77,-77]) _ _ _ (gK (OH.out.old qL.out) n1) (gK EX.out n1)).mono ?_
 rintro e w6 ⟨rfl,k6,rfl⟩
 rw [decide_eq_true (rfl:nx++[-77,-77]=nx++[-77,-77])]
 have CQ:=aA (Below.drewN (Below.next JL.out qL.out JL.out.size) k6)
 have r6:(w5.drewN k6).cell? ⟨w.heap.size,6,none⟩=some (.slice a2 ou.length k2):=(WU.out.old qL.out).cell_of rfl
 have HK6:=aA (show Below w4.heap.size w4 (w5.drewN k6) from Below.drewN qL.out _)
 generalize FL:World.drewN w5 k6=w6 at r6 CQ HK6 ⊢
 have SH:=aA (show Row w6 g2 3 (ints (ou++[-77,-77])) by rw [←FL];exact WT.out.old (Below.drewN qL.out _))
 have aAx:=aA (show Row w6 g1 3 (ints (nx++[-77,-77])) by rw [←FL];exact OH.out.old (Below.drewN qL.out _))
 clear FL
 go_wp2_with fail
 refine (gH ou _ _ (HO.out.below CQ.out) n2).mono ?_
 rintro e w7 ⟨g4,rfl,VQ,tG,zR⟩
 have VR:=aA zR
 have HG4:=aA (show Row w7 g4 3 (ints (ou++[-77,-77])) from tG)
 clear zR tG r6
 go_wp2_with fail
 refine (iN (ou++[-77,-77]) (ou++[-77,-77]) _ _ _ (gK (SH.out.old VR.out) n2) (gK HG4.out n2)).mono ?_
 rintro e w8 ⟨rfl,k8,rfl⟩
 rw [decide_eq_true (rfl:ou++[-77,-77]=ou++[-77,-77])]
 generalize VS:World.drewN w7 k8=w8
 have HK8:=aA (show Below w4.heap.size w4 w8 by rw [←VS];exact Below.drewN (Below.next HK6.out VR.out HK6.out.size) _)
 have aAy:=aA (show Below w.heap.size w w8 by rw [←VS];exact Below.drewN (Below.next CQ.out VR.out CQ.out.size) _)
 have aAz:=aA (show Row w8 g2 3 (ints (ou++[-77,-77])) by rw [←VS];exact SH.out.old (Below.drewN VR.out _))
 have aAA:=aA (show Row w8 g1 3 (ints (nx++[-77,-77])) by rw [←VS];exact aAx.out.old (Below.drewN VR.out _))
 clear VS
 have MT:w.heap.size≤g1:=by have:=jW.out.size;omega
 have aAB:w.heap.size≤g2:=by have:=CO.out.size;omega
 have qJ:w1.heap.size≤g2:=by have:=mD.out.size;omega
 have hs1:=OG.out.lt
 have hs2:=WH.out.lt
 have hx1:bX≠g1:=Row.apart HRX.out OH.out (by decide)
 have hx2:bX≠g2:=Row.apart HRX.out WT.out (by decide)
 have dD:w8.there g1 0 (nx.length+2):=aAA.out.there (by simp [ints])
 have iM:w8.there g2 0 (ou.length+2):=aAz.out.there (by simp [ints])
 have aAQ:=Below.next mD.out pY.out mD.out.size
 have aAR:=Below.next aAQ rY.out aAQ.size
 have HI:=aA (show mZ w w1 w4 (w3.heap.size+1) bX _ w8 from ⟨aAy.out,Below.next aAR HK8.out aAR.size,qK.cV HK8.out,HK8.out.size,HRX.out.old HK8.out⟩)
 have HS:=aA (show mZ w w1 w4 (w3.heap.size+1) bX _ w8∧w8.there g1 0 (nx.length+2)∧w8.there g2 0 (ou.length+2) from ⟨HI.out,dD,iM⟩)
 clear dD iM aAQ aAR
 go_wp2
 go_loopw [13] (fun i w'=>∃ k:Nat,k≤nx.length+2∧i = .int .i64 (k:Int)∧mZ w w1 w4 (w3.heap.size+1) bX (.iface tE (.pointer (some ⟨bN,0,none⟩))) w'∧w'.there g1 0 (nx.length+2)∧w'.there g2 0 (ou.length+2)) (fun i _=>nx.length+2-(intOf i).toNat)
 case atStart=>exact ⟨0,Nat.zero_le _,rfl,HS.out⟩
 case round =>
  obtain ⟨k,hk,rfl,hB,SI,CR⟩:=hrel
  by_cases hlt:k<nx.length+2
  ·obtain ⟨JM,vE⟩:=SI k hlt
   rw [Nat.zero_add] at JM vE
   obtain ⟨v,hv⟩:=Option.isSome_iff_exists.1 JM
   have hlt':(k:Int)<(nx.length:Int)+2:=by omega
   have EW:(0:Int)≤(k:Int):=by omega
   have HX:=aA (And.intro hB (And.intro SI CR))
   clear hB SI CR JM
   go_wp2
   go_roundw
   case rel=>exact ⟨k+1,by omega,by go_num,HX.out.1.set MT (by show _≤g1;omega) (by show g1<_;omega) hx1 _,aQ HX.out.2.1 _ rfl _,aQ HX.out.2.2 _ rfl _⟩
   case measure=>simp [intOf];omega
  ·have hlt':¬(k:Int)<(nx.length:Int)+2:=by omega
   have HX:=aA (And.intro hB (And.intro SI CR))
   clear hB SI CR
   go_wp2
   go_loopw [14] (fun i w'=>∃ k:Nat,k≤ou.length+2∧i = .int .i64 (k:Int)∧mZ w w1 w4 (w3.heap.size+1) bX (.iface tE (.pointer (some ⟨bN,0,none⟩))) w'∧w'.there g2 0 (ou.length+2)) (fun i _=>ou.length+2-(intOf i).toNat)
   case atStart=>exact ⟨0,Nat.zero_le _,rfl,HX.out.1,HX.out.2.2⟩
   case round =>
    obtain ⟨k9,hk9,rfl,hB,CR⟩:=hrel
    by_cases aAC:k9<ou.length+2
    ·obtain ⟨JM,vE⟩:=CR k9 aAC
     rw [Nat.zero_add] at JM vE
     obtain ⟨v,hv⟩:=Option.isSome_iff_exists.1 JM
     have SJ:(k9:Int)<(ou.length:Int)+2:=by omega
     have EW:(0:Int)≤(k9:Int):=by omega
     have OJ:=aA (And.intro hB CR)
     clear hB CR JM
     go_wp2
     go_roundw
     case rel=>exact ⟨k9+1,by omega,by go_num,OJ.out.1.set aAB qJ (by show g2<_;omega) hx2 _,aQ OJ.out.2 _ rfl _⟩
     case measure=>simp [intOf];omega
    ·have SJ:¬(k9:Int)<(ou.length:Int)+2:=by omega
     have OJ:=aA hB
     clear hB CR
     go_wp2
     go_ret2
     unfold CV
     exact ⟨_,bX,bY,tE,bN,_,w1,_,w4,_,rfl,HRD.out,aB _ _,aFq.out,by have:=Below.next mD.out pY.out mD.out.size;exact Nat.le_trans this.size (by simp),by simp,OJ.out.rX,OJ.out.k4,OJ.out.sz,OJ.out.b1,Row.new' rfl,aB _ _,OJ.out.b0⟩
end Go.Proofs.YtefjhnhdagolhaaGreat
