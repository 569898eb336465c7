import Derived.Test.YtefjhnhdagolhaaGreatQ12
import Derived.Test.YtefjhnhdagolhaaGreatQ04
import Derived.Test.YtefjhnhdagolhaaGreatQ05
import Derived.Test.YtefjhnhdagolhaaGreatProg
import Derived.Test.YtefjhnhdagolhaaGreatQ13
import Derived.Test.YtefjhnhdagolhaaGreatQ14
import Derived.Test.YtefjhnhdagolhaaGreatQ15
namespace Go.Proofs.YtefjhnhdagolhaaGreat
open Go.RowKit
attribute [local go_sem ↓] Go.wp_at_zero Go.wp_at_succ
theorem JK (cap st co:Int) (nx ou:List Int) (vn vo:Value) (w:World) (hn:Sl w vn (ints nx)) (ho:Sl w vo (ints ou)) (kind th:Int) (h:eD kind th cap st co nx ou≠0) :
  Calls Tryz.prog 41 #[.agg #[.int .i64 kind,.int .i64 th,.int .i64 cap,.int .i64 st,.int .i64 co,vn,vo]] w fun e w'=>e = .returned (.tuple #[.pointer none,.int .i64 (eD kind th cap st co nx ou)])∧Below w.heap.size w w':=by
 by_cases hc:1≤kind∧kind≤5∧1≤th∧th≤64∧0≤cap∧cap≤64
 ·have h5:kind=5∧cE st co nx ou=false:=by
   unfold eD at h
   rw [if_pos hc] at h
   by_cases hk:kind=5
   ·rw [if_pos hk] at h
    refine ⟨hk,?_⟩
    cases ht:cE st co nx ou
    ·rfl
    ·rw [ht] at h;simp at h
   ·rw [if_neg hk] at h;exact absurd rfl h
  obtain ⟨rfl,ht⟩:=h5
  rw [wI hc rfl ht]
  exact JI cap st co nx ou vn vo w hn ho th ⟨hc.2.2.1,hc.2.2.2.1,hc.2.2.2.2.1,hc.2.2.2.2.2⟩ ht
 ·exact JH cap st co nx ou vn vo w kind th hc
theorem pX {w:World} {g:Nat} {xs:List Int} (h:Row w g 3 (ints (xs++[-77,-77]))) (hl:xs.length≤1048576):Sl w (.slice (some ⟨g,0,none⟩) xs.length (xs.length+2)) (ints xs) :=
 h.sl (by simp [ints]) (by simp [ints]) (by omega) (by unfold maxLen;omega)
theorem gK {w:World} {g:Nat} {xs:List Int} (h:Row w g 3 (ints (xs++[-77,-77]))) (hl:xs.length≤1048576):Sl w (.slice (some ⟨g,0,none⟩) (xs.length+2) (xs.length+2)) (ints (xs++[-77,-77])) :=
 h.sl (by rw [List.take_of_length_le (by simp [ints])]) (by simp [ints]) (by omega) (by unfold maxLen;omega)
set_option maxRecDepth 20000 in
set_option maxHeartbeats 2000000 in
theorem SE (kind th cap st co:Int) (nx ou:List Int) (vn vo:Value) (w:World) (hn:Sl w vn (ints nx)) (ho:Sl w vo (ints ou)) (n1:nx.length≤1048576) (n2:ou.length≤1048576) (h:eD kind th cap st co nx ou≠0) :
  Calls Tryz.prog 17 #[.agg #[.int .i64 kind,.int .i64 th,.int .i64 cap,.int .i64 st,.int .i64 co,vn,vo]] w fun e w'=>e = .returned (.tuple #[.pointer none,.bool true])∧Below w.heap.size w w':=by
 have aAu:=aA (fun W hW=>JK cap st co nx ou vn vo W (hn.below hW) (ho.below hW) kind th h)
 have aAv:=aA (fun (W:World) (u1 u2:Value) (s1:Sl W u1 (ints nx)) (s2:Sl W u2 (ints ou))=>WL cap st co nx ou u1 u2 W s1 s2 kind th h)
 obtain ⟨a1,k1,e1,-⟩:=hn.open_ints
 obtain ⟨a2,k2,e2,-⟩:=ho.open_ints
 have HN:=aA hn
 have HO:=aA ho
 clear hn ho
 subst e1
 subst e2
 generalize eD kind th cap st co nx ou=x at *
 clear h
 go_enter Tryz.func17,Tryz.ntmps17
 go_wp2_with fail
 refine (aAu.out _ (aB _ _)).mono ?_
 rintro e w1 ⟨rfl,dU⟩
 have wR:Row w1 w.heap.size 26 [.int .i64 kind,.int .i64 th,.int .i64 cap,.int .i64 st,.int .i64 co,.slice a1 nx.length k1,.slice a2 ou.length k2]:=(Row.new' rfl).old dU
 have q5:w1.cell? ⟨w.heap.size,5,none⟩=some (.slice a1 nx.length k1):=wR.cell_of rfl
 have jW:=aA (Below.next (aB w _) dU (by simp))
 have jF:=aA wR
 clear dU wR
 go_wp2_with fail
 refine (gH nx _ _ (HN.out.below jW.out) n1).mono ?_
 rintro e w2 ⟨g1,rfl,hg1,lC,aP⟩
 have q6:w2.cell? ⟨w.heap.size,6,none⟩=some (.slice a2 ou.length k2):=cell_later aP (jF.out.cell_of rfl)
 have mD:=aA aP
 have HG1:=aA (show Row w2 g1 3 (ints (nx++[-77,-77])) from lC)
 have CO:=aA (Below.next jW.out aP jW.out.size)
 clear q5 aP lC
 go_wp2_with fail
 refine (gH ou _ _ (HO.out.below CO.out) n2).mono ?_
 rintro e w3 ⟨g2,rfl,hg2,CP,cH⟩
 have pY:=aA cH
 have WH:=aA (show Row w3 g2 3 (ints (ou++[-77,-77])) from CP)
 have OG:=aA (HG1.out.old cH)
 have SG:=aA (Below.next CO.out cH CO.out.size)
 have VP:=aA ((jF.out.old mD.out).old cH)
 obtain ⟨-,q0,q1,q2,q3,q4,q5,q6'⟩:=JG VP.out
 have q5':=fun ob=>aX q5 ob
 have aAw:=fun ob=>aX q6' ob
 have hne:¬w.heap.size=w3.heap.size:=by have:=VP.out.lt;omega
 clear cH CP q6
 go_wp2_with fail
 refine (aAv.out _ _ _ (pX (OG.out.alloc _) n1) (pX (WH.out.alloc _) n2)).mono ?_
 rintro e w4 ⟨rfl,eF⟩
 have rY:=aA (Below.next (aB w3 _) eF (by simp))
 have JL:=aA (Below.next SG.out rY.out SG.out.size)
 have r5:w4.cell? ⟨w.heap.size,5,none⟩=some (.slice a1 nx.length k1):=cell_later rY.out q5
 have OH:=aA (OG.out.old rY.out)
 have WT:=aA (WH.out.old rY.out)
 have WU:=aA (VP.out.old rY.out)
 clear eF q0 q1 q2 q3 q4 q5 q6' q5' aAw
 go_wp2_with fail
 refine (gH nx _ _ (HN.out.below JL.out) n1).mono ?_
 rintro e w5 ⟨g3,rfl,EZ,FK,nP⟩
 have qL:=aA nP
 have EX:=aA (show Row w5 g3 3 (ints (nx++[-77,-77])) from FK)
 clear nP FK r5
 go_wp2_with fail
 refine (iN (nx++[-77,-77]) (nx++[-77,-77]) _ _ _ (gK (OH.out.old qL.out) n1) (gK EX.out n1)).mono ?_
 rintro e w6 ⟨rfl,k6,rfl⟩
 rw [decide_eq_true (rfl:nx++[-77,-77]=nx++[-77,-77])]
 have CQ:=aA (Below.drewN (Below.next JL.out qL.out JL.out.size) k6)
 have r6:(w5.drewN k6).cell? ⟨w.heap.size,6,none⟩=some (.slice a2 ou.length k2):=(WU.out.old qL.out).cell_of rfl
 generalize FL:World.drewN w5 k6=w6 at r6 CQ ⊢
 have SH:=aA (show Row w6 g2 3 (ints (ou++[-77,-77])) by rw [←FL];exact WT.out.old (Below.drewN qL.out _))
 have aAx:=aA (show Row w6 g1 3 (ints (nx++[-77,-77])) by rw [←FL];exact OH.out.old (Below.drewN qL.out _))
 clear FL
 go_wp2_with fail
 refine (gH ou _ _ (HO.out.below CQ.out) n2).mono ?_
 rintro e w7 ⟨g4,rfl,VQ,tG,zR⟩
 have VR:=aA zR
 have HG4:=aA (show Row w7 g4 3 (ints (ou++[-77,-77])) from tG)
 clear zR tG r6
 go_wp2_with fail
 refine (iN (ou++[-77,-77]) (ou++[-77,-77]) _ _ _ (gK (SH.out.old VR.out) n2) (gK HG4.out n2)).mono ?_
 rintro e w8 ⟨rfl,k8,rfl⟩
 rw [decide_eq_true (rfl:ou++[-77,-77]=ou++[-77,-77])]
 generalize VS:World.drewN w7 k8=w8
 have aAy:=aA (show Below w.heap.size w w8 by rw [←VS];exact Below.drewN (Below.next CQ.out VR.out CQ.out.size) _)
 have aAz:=aA (show Row w8 g2 3 (ints (ou++[-77,-77])) by rw [←VS];exact SH.out.old (Below.drewN VR.out _))
 have aAA:=aA (show Row w8 g1 3 (ints (nx++[-77,-77])) by rw [←VS];exact aAx.out.old (Below.drewN VR.out _))
 clear VS
 have MT:w.heap.size≤g1:=by have:=jW.out.size;omega
 have aAB:w.heap.size≤g2:=by have:=CO.out.size;omega
 have dD:w8.there g1 0 (nx.length+2):=aAA.out.there (by simp [ints])
 have iM:w8.there g2 0 (ou.length+2):=aAz.out.there (by simp [ints])
 have HS:=aA (show Below w.heap.size w w8∧w8.there g1 0 (nx.length+2)∧w8.there g2 0 (ou.length+2) from ⟨aAy.out,dD,iM⟩)
 clear dD iM
 go_wp2
 go_loopw [13] (fun i w'=>∃ k:Nat,k≤nx.length+2∧i = .int .i64 (k:Int)∧Below w.heap.size w w'∧w'.there g1 0 (nx.length+2)∧w'.there g2 0 (ou.length+2)) (fun i _=>nx.length+2-(intOf i).toNat)
 case atStart=>exact ⟨0,Nat.zero_le _,rfl,HS.out⟩
 case round =>
  obtain ⟨k,hk,rfl,hB,SI,CR⟩:=hrel
  by_cases hlt:k<nx.length+2
  ·obtain ⟨JM,vE⟩:=SI k hlt
   rw [Nat.zero_add] at JM vE
   obtain ⟨v,hv⟩:=Option.isSome_iff_exists.1 JM
   have hlt':(k:Int)<(nx.length:Int)+2:=by omega
   have EW:(0:Int)≤(k:Int):=by omega
   have HX:=aA (And.intro hB (And.intro SI CR))
   clear hB SI CR JM
   go_wp2
   go_roundw
   case rel=>exact ⟨k+1,by omega,by go_num,HX.out.1.setCell MT _,aQ HX.out.2.1 _ rfl _,aQ HX.out.2.2 _ rfl _⟩
   case measure=>simp [intOf];omega
  ·have hlt':¬(k:Int)<(nx.length:Int)+2:=by omega
   have HX:=aA (And.intro hB (And.intro SI CR))
   clear hB SI CR
   go_wp2
   go_loopw [14] (fun i w'=>∃ k:Nat,k≤ou.length+2∧i = .int .i64 (k:Int)∧Below w.heap.size w w'∧w'.there g2 0 (ou.length+2)) (fun i _=>ou.length+2-(intOf i).toNat)
   case atStart=>exact ⟨0,Nat.zero_le _,rfl,HX.out.1,HX.out.2.2⟩
   case round =>
    obtain ⟨k9,hk9,rfl,hB,CR⟩:=hrel
    by_cases aAC:k9<ou.length+2
    ·obtain ⟨JM,vE⟩:=CR k9 aAC
     rw [Nat.zero_add] at JM vE
     obtain ⟨v,hv⟩:=Option.isSome_iff_exists.1 JM
     have SJ:(k9:Int)<(ou.length:Int)+2:=by omega
     have EW:(0:Int)≤(k9:Int):=by omega
     have OJ:=aA (And.intro hB CR)
     clear hB CR JM
     go_wp2
     go_roundw
     case rel=>exact ⟨k9+1,by omega,by go_num,OJ.out.1.setCell aAB _,aQ OJ.out.2 _ rfl _⟩
     case measure=>simp [intOf];omega
    ·have SJ:¬(k9:Int)<(ou.length:Int)+2:=by omega
     have OJ:=aA hB
     clear hB CR
     go_wp2
     go_ret2
     exact ⟨rfl,OJ.out⟩
end Go.Proofs.YtefjhnhdagolhaaGreat
namespace Go.Proofs.YtefjhnhdagolhaaGreat
open Go.RowKit
attribute [local go_sem ↓] Go.wp_at_zero Go.wp_at_succ
section
variable {base bL bX bY n g gc:Nat} {bT:Nat→Nat} {kind cap st co:Int} {vn vo:Value} {tE:TypeId} {bN fA fO fS fB:Nat} {ms is:Value} {w0:World} (w:World)
set_option maxHeartbeats 400000 in
theorem rD (k:Int) (w:World) (h0:0≤k) (h1:k≤9223372036854775807) :
  Calls Tryz.prog 52 #[.int .i64 k] w fun e w'=>e = .returned (.agg #[.int .i64 (-1-k),.int .i64 (-1),.int .i64 (-1)])∧Below w.heap.size w w':=by
 go_enter Tryz.func52,Tryz.ntmps52
 go_wp2
 exact bodyPost_ret (v:=.agg #[.int .i64 (-1-k),.int .i64 (-1),.int .i64 (-1)]) (by simp [results,Tryz.results52,go_sem]) rfl ⟨rfl,(by repeat (first|exact Below.refl _ _|assumption|refine Below.drewN ?_ _|refine Below.alloc ?_ (by simp) _))⟩
end
end Go.Proofs.YtefjhnhdagolhaaGreat
namespace Go.Proofs.YtefjhnhdagolhaaGreat
open Go.RowKit
attribute [local go_sem ↓] Go.wp_at_zero Go.wp_at_succ
theorem SK {kind th cap st co:Int} {nx ou:List Int} (h:eD kind th cap st co nx ou=0):(1≤kind∧kind≤5∧1≤th∧th≤64∧0≤cap∧cap≤64)∧(kind=5→cE st co nx ou=true):=by
 unfold eD at h
 split at h
 ·rename_i hc
  refine ⟨hc,fun h5=>?_⟩
  rw [if_pos h5] at h
  split at h
  ·assumption
  ·omega
 ·omega
theorem lI.aAD {w0:World} {kind:Int} {n:Nat} {cap st co:Int} {nx ou:List Int} {p1 p2:Option Addr} {m1 k1 m2 k2:Nat} {b:Nat} {w:World} (h:lI w0 kind n cap st co nx ou (.slice p1 m1 k1) (.slice p2 m2 k2) b w) (hn:1≤n) :
  ∃ g gc bT a1 l1 c1 a2 l2 c2,YZ b n g gc bT kind cap st co (.slice a1 l1 c1) (.slice a2 l2 c2) w∧Below w0.heap.size w0 w:=by
 obtain ⟨W1,RU,CI,v,bT,bF,rfl,hb,hI,hv⟩:=h
 have hs:∃ a1 l1 c1 a2 l2 c2,RU = .slice a1 l1 c1∧CI = .slice a2 l2 c2:=by
  rcases hv with ⟨-,rfl,rfl⟩|⟨-,g1,g2,rfl,rfl,-⟩
  ·exact ⟨_,_,_,_,_,_,rfl,rfl⟩
  ·exact ⟨_,_,_,_,_,_,rfl,rfl⟩
 obtain ⟨a1,l1,c1,a2,l2,c2,rfl,rfl⟩:=hs
 obtain ⟨hE,hO,hT,-,hB⟩:=hI
 obtain ⟨hl,⟨rfl,hn0⟩|⟨g,gc,cur,rfl,-,hg,hnc,hcm,hcs,RV⟩⟩:=hO
 ·omega
 ·refine ⟨g,gc,bT,a1,l1,c1,a2,l2,c2,⟨hE,fun t ht=>?_,fun t ht=>(hT t ht).1.cell_of rfl,fun t ht=>(hT t ht).1.cell_of rfl⟩,Below.next hb hB hb.size⟩
  rw [cell_of_row w g _ cur _ _ hg]
  have:(ptrs bT n)[t]?=some (.pointer (some ⟨bT t,0,none⟩)):=by simp [ptrs,List.getElem?_range ht]
  rw [←RV,List.getElem?_take] at this
  split at this
  ·simpa using this
  ·cases this
theorem Row.apart {w:World} {g g':Nat} {t t':TypeId} {xs xs':List Value} (h:Row w g t xs) (h':Row w g' t' xs') (ne:t≠t'):g≠g':=by
 rintro rfl
 have e:=(show w.heap[g]?=_ from h).symm.trans (show w.heap[g]?=_ from h')
 simp at e
 exact ne e.2
structure mZ (w w1 w4:World) (base bX:Nat) (v:Value) (w':World):Prop where
 b0:Below w.heap.size w w'
 b1:Below w1.heap.size w1 w'
 k4:qK base w4 w'
 sz:w4.heap.size≤w'.heap.size
 rX:Row w' bX 74 [v]
theorem mZ.set {w w1 w4:World} {base bX:Nat} {v:Value} {w':World} (h:mZ w w1 w4 base bX v w') {a:Addr} (h0:w.heap.size≤a.block) (h1:w1.heap.size≤a.block) (h4:a.block<base) (hX:bX≠a.block) (u:Value):mZ w w1 w4 base bX v (w'.setCell a u) :=
 ⟨h.b0.setCell h0 u,h.b1.setCell h1 u,h.k4.set h4 u,by simpa [World.setCell] using h.sz,h.rX.setOther hX u⟩
end Go.Proofs.YtefjhnhdagolhaaGreat
namespace Go.Proofs.YtefjhnhdagolhaaGreat
open Go.RowKit
attribute [local go_sem ↓] Go.wp_at_zero Go.wp_at_succ
set_option maxHeartbeats 1000000 in
theorem OK (s:Value) (kind th cap st co:Int) (nx ou:List Int) (vn vo:Value) (w:World) (hn:Sl w vn (ints nx)) (ho:Sl w vo (ints ou)) (n1:nx.length≤1048576) (n2:ou.length≤1048576) (h:eD kind th cap st co nx ou≠0) :
  Calls Tryz.prog 15 #[.agg #[.int .i64 kind,.int .i64 th,.int .i64 cap,.int .i64 st,.int .i64 co,vn,vo],s] w fun e w'=>e = .returned (.bool true)∧Below w.heap.size w w':=by
 have HM:=aA (fun W (hW:Below w.heap.size w W)=>SE kind th cap st co nx ou vn vo W (hn.below hW) (ho.below hW) n1 n2 h)
 clear hn ho n1 n2 h
 go_enter Tryz.func15,Tryz.ntmps15
 go_wp2_with fail
 refine (HM.out _ (aB _ _)).mono ?_
 rintro e w1 ⟨rfl,dU⟩
 have jW:=aA (Below.next (aB w _) dU (by simp))
 clear dU
 go_wp2_with fail
 go_ret
 exact ⟨rfl,jW.out⟩
end Go.Proofs.YtefjhnhdagolhaaGreat
