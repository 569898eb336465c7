import Derived.Test.YtefjhnhdagolhaaGreatA10
import Derived.Test.YtefjhnhdagolhaaGreatA12
import Derived.Test.YtefjhnhdagolhaaGreatA03
set_option maxHeartbeats 2000000
set_option maxRecDepth 20000
namespace Go.Proofs.YtefjhnhdagolhaaGreat
open Tryz
open Go.RowKit
attribute [local go_sem ↓] Go.wp_at_zero Go.wp_at_succ
section
variable {base bL bX bY n g gc:Nat} {bT:Nat→Nat} {kind cap st co:Int} {vn vo:Value} {tE:TypeId} {bN fA fO fS fB:Nat} {ms is:Value} {w0:World} (w:World)
theorem ER (k:Int) (w:World) (h0:0≤k) (h1:k≤9223372036854775807) :
  Calls prog 52 #[.int .i64 k] w fun e w'=>e = .returned (.agg #[.int .i64 (-1-k),.int .i64 (-1),.int .i64 (-1)])∧Below w.heap.size w w':=by
 go_enter func52,ntmps52;go_wp2;exact cR (v:=.agg #[.int .i64 (-1-k),.int .i64 (-1),.int .i64 (-1)]) (by simp [results,results52,go_sem]) rfl ⟨rfl,(by repeat (first|exact aT _ _|assumption|refine aX ?_ _|refine cI ?_ (by simp) _))⟩
end
theorem jo (cap st co:Int) (nx ou:List Int) (vn vo:Value) (w:World) (hn:Sl w vn (ints nx)) (ho:Sl w vo (ints ou)) (kind th:Int) (h:gZ kind th cap st co nx ou≠0) :
  Calls prog 41 #[.agg #[.int .i64 kind,.int .i64 th,.int .i64 cap,.int .i64 st,.int .i64 co,vn,vo]] w fun e w'=>e = .returned (.tuple #[.pointer none,.int .i64 (gZ kind th cap st co nx ou)])∧Below w.heap.size w w':=by
 by_cases hc:1≤kind∧kind≤5∧1≤th∧th≤64∧0≤cap∧cap≤64
 ·have h5:kind=5∧bR st co nx ou=false:=by
   unfold gZ at h;rw [aJ hc] at h
   by_cases hk:kind=5
   ·rw [aJ hk] at h
    refine ⟨hk,?_⟩
    cases ht:bR st co nx ou
    ·rfl
    ·rw [ht] at h;simp at h
   ·rw [aN hk] at h;exact absurd rfl h
  obtain ⟨rfl,ht⟩:=h5;rw [NK hc rfl ht];exact jr cap st co nx ou vn vo w hn ho th ⟨hc.2.2.1,hc.2.2.2.1,hc.2.2.2.2.1,hc.2.2.2.2.2⟩ ht
 ·exact jq cap st co nx ou vn vo w kind th hc
theorem CC {w:World} {g:Nat} {xs:List Int} (h:Row w g 3 (ints (xs++[-77,-77]))) (hl:xs.length≤1048576):Sl w (.slice (some ⟨g,0,none⟩) xs.length (xs.length+2)) (ints xs) :=
 h.sl (by simp [ints]) (by simp [ints]) (by omega) (by unfold maxLen;omega)
theorem mA {w:World} {g:Nat} {xs:List Int} (h:Row w g 3 (ints (xs++[-77,-77]))) (hl:xs.length≤1048576):Sl w (.slice (some ⟨g,0,none⟩) (xs.length+2) (xs.length+2)) (ints (xs++[-77,-77])) :=
 h.sl (by rw [rZ (by simp [ints])]) (by simp [ints]) (by omega) (by unfold maxLen;omega)
theorem aBq (kind th cap st co:Int) (nx ou:List Int) (vn vo:Value) (w:World) (hn:Sl w vn (ints nx)) (ho:Sl w vo (ints ou)) (n1:nx.length≤1048576) (n2:ou.length≤1048576) (h:gZ kind th cap st co nx ou≠0) :
  Calls prog 17 #[.agg #[.int .i64 kind,.int .i64 th,.int .i64 cap,.int .i64 st,.int .i64 co,vn,vo]] w fun e w'=>e = .returned (.tuple #[.pointer none,.bool true])∧Below w.heap.size w w':=by
 have aEa:=aA (fun W hW=>jo cap st co nx ou vn vo W (hn.below hW) (ho.below hW) kind th h);have aD6:=aA (fun (W:World) (u1 u2:Value) (s1:Sl W u1 (ints nx)) (s2:Sl W u2 (ints ou))=>aC8 cap st co nx ou u1 u2 W s1 s2 kind th h);obtain ⟨a1,k1,e1,-⟩:=hn.open_ints;obtain ⟨a2,k2,e2,-⟩:=ho.open_ints;have HN:=aA hn;have HO:=aA ho;clear hn ho;subst e1;subst e2;generalize gZ kind th cap st co nx ou=x at *;clear h;go_enter func17,ntmps17;go_wp2_with fail;refine (aEa.out _ (aB _ _)).mono ?_;rintro e w1 ⟨rfl,eN⟩;have nS:Row w1 w.heap.size 26 [.int .i64 kind,.int .i64 th,.int .i64 cap,.int .i64 st,.int .i64 co,.slice a1 nx.length k1,.slice a2 ou.length k2]:=(aV rfl).old eN;have q5:w1.cell? ⟨w.heap.size,5,none⟩=some (.slice a1 nx.length k1):=nS.cell_of rfl;have oU:=aA (aS (aB w _) eN (by simp));have pX:=aA nS;clear eN nS;go_wp2_with fail;refine (mC nx _ _ (HN.out.below oU.out) n1).mono ?_;rintro e w2 ⟨g1,rfl,hg1,yG,bI⟩;have q6:w2.cell? ⟨w.heap.size,6,none⟩=some (.slice a2 ou.length k2):=aI bI (pX.out.cell_of rfl);have pW:=aA bI;have HG1:=aA (show Row w2 g1 3 (ints (nx++[-77,-77])) from yG);have TB:=aA (aS oU.out bI oU.out.size);clear q5 bI yG;go_wp2_with fail;refine (mC ou _ _ (HO.out.below TB.out) n2).mono ?_;rintro e w3 ⟨g2,rfl,hg2,BA,cP⟩;have oV:=aA cP;have ko:=aA (show Row w3 g2 3 (ints (ou++[-77,-77])) from BA);have qj:=aA (HG1.out.old cP);have zj:=aA (aS TB.out cP TB.out.size);have qp:=aA ((pX.out.old pW.out).old cP);obtain ⟨-,q0,q1,q2,q3,q4,q5,q6'⟩:=JN qp.out
 have q5':=fun ob=>bO q5 ob
 have aFu:=fun ob=>bO q6' ob
 have hne:¬w.heap.size=w3.heap.size:=by have:=qp.out.lt;omega
 clear cP BA q6;go_wp2_with fail;refine (aD6.out _ _ _ (CC (qj.out.alloc _) n1) (CC (ko.out.alloc _) n2)).mono ?_;rintro e w4 ⟨rfl,dQ⟩;have FA:=aA (aS (aB w3 _) dQ (by simp));have bq:=aA (aS zj.out FA.out zj.out.size);have r5:w4.cell? ⟨w.heap.size,5,none⟩=some (.slice a1 nx.length k1):=aI FA.out q5;have ql:=aA (qj.out.old FA.out);have aCo:=aA (ko.out.old FA.out);have HR4:=aA (qp.out.old FA.out);clear dQ q0 q1 q2 q3 q4 q5 q6' q5' aFu;go_wp2_with fail;refine (mC nx _ _ (HN.out.below bq.out) n1).mono ?_;rintro e w5 ⟨g3,rfl,hg3,hr3,xU⟩;have JE:=aA xU;have WL:=aA (show Row w5 g3 3 (ints (nx++[-77,-77])) from hr3);clear xU hr3 r5;go_wp2_with fail;refine (pL (nx++[-77,-77]) (nx++[-77,-77]) _ _ _ (mA (ql.out.old JE.out) n1) (mA WL.out n1)).mono ?_;rintro e w6 ⟨rfl,k6,rfl⟩;rw [kE (rfl:nx++[-77,-77]=nx++[-77,-77])];have TC:=aA (aX (aS bq.out JE.out bq.out.size) k6);have r6:(w5.drewN k6).cell? ⟨w.heap.size,6,none⟩=some (.slice a2 ou.length k2):=(HR4.out.old JE.out).cell_of rfl;generalize UA:World.drewN w5 k6=w6 at r6 TC ⊢;have zl:=aA (show Row w6 g2 3 (ints (ou++[-77,-77])) by rw [←UA];exact aCo.out.old (aX JE.out _));have aD2:=aA (show Row w6 g1 3 (ints (nx++[-77,-77])) by rw [←UA];exact ql.out.old (aX JE.out _));clear UA;go_wp2_with fail;refine (mC ou _ _ (HO.out.below TC.out) n2).mono ?_;rintro e w7 ⟨g4,rfl,hg4,KP,LK⟩;have HB7:=aA LK;have HG4:=aA (show Row w7 g4 3 (ints (ou++[-77,-77])) from KP);clear LK KP r6;go_wp2_with fail
 refine (pL (ou++[-77,-77]) (ou++[-77,-77]) _ _ _ (mA (zl.out.old HB7.out) n2) (mA HG4.out n2)).mono ?_;rintro e w8 ⟨rfl,k8,rfl⟩;rw [kE (rfl:ou++[-77,-77]=ou++[-77,-77])];generalize hW8:World.drewN w7 k8=w8;have aDX:=aA (show Below w.heap.size w w8 by rw [←hW8];exact aX (aS TC.out HB7.out TC.out.size) _);have aD4:=aA (show Row w8 g2 3 (ints (ou++[-77,-77])) by rw [←hW8];exact zl.out.old (aX HB7.out _));have aD3:=aA (show Row w8 g1 3 (ints (nx++[-77,-77])) by rw [←hW8];exact aD2.out.old (aX HB7.out _));clear hW8;have oo:w.heap.size≤g1:=by have:=oU.out.size;omega
 have aFh:w.heap.size≤g2:=by have:=TB.out.size;omega
 have fM:w8.there g1 0 (nx.length+2):=aD3.out.there (by simp [ints]);have xW:w8.there g2 0 (ou.length+2):=aD4.out.there (by simp [ints]);have HS:=aA (show Below w.heap.size w w8∧w8.there g1 0 (nx.length+2)∧w8.there g2 0 (ou.length+2) from ⟨aDX.out,fM,xW⟩);clear fM xW;go_wp2
 go_loopw [13] (fun i w'=>∃ k:Nat,k≤nx.length+2∧i = .int .i64 (k:Int)∧Below w.heap.size w w'∧w'.there g1 0 (nx.length+2)∧w'.there g2 0 (ou.length+2)) (fun i _=>nx.length+2-(intOf i).toNat)
 case atStart=>exact ⟨0,aW _,rfl,HS.out⟩
 case round =>
  obtain ⟨k,hk,rfl,hB,hT1,TZ⟩:=hrel
  by_cases hlt:k<nx.length+2
  ·obtain ⟨ie,aq⟩:=hT1 k hlt
   rw [nJ] at ie aq;obtain ⟨v,hv⟩:=pQ.1 ie;have hlt':(k:Int)<(nx.length:Int)+2:=by omega
   have WU:(0:Int)≤(k:Int):=by omega
   have HX:=aA (aP hB (aP hT1 TZ));clear hB hT1 TZ ie;go_wp2;go_roundw
   case rel=>exact ⟨k+1,by omega,by go_num,HX.out.1.setCell oo _,bA HX.out.2.1 _ rfl _,bA HX.out.2.2 _ rfl _⟩
   case measure=>simp [intOf];omega
  ·have hlt':¬(k:Int)<(nx.length:Int)+2:=by omega
   have HX:=aA (aP hB (aP hT1 TZ));clear hB hT1 TZ;go_wp2
   go_loopw [14] (fun i w'=>∃ k:Nat,k≤ou.length+2∧i = .int .i64 (k:Int)∧Below w.heap.size w w'∧w'.there g2 0 (ou.length+2)) (fun i _=>ou.length+2-(intOf i).toNat)
   case atStart=>exact ⟨0,aW _,rfl,HX.out.1,HX.out.2.2⟩
   case round =>
    obtain ⟨k9,hk9,rfl,hB,TZ⟩:=hrel
    by_cases aE2:k9<ou.length+2
    ·obtain ⟨ie,aq⟩:=TZ k9 aE2
     rw [nJ] at ie aq;obtain ⟨v,hv⟩:=pQ.1 ie;have aAV:(k9:Int)<(ou.length:Int)+2:=by omega
     have WU:(0:Int)≤(k9:Int):=by omega
     have qq:=aA (aP hB TZ);clear hB TZ ie;go_wp2;go_roundw
     case rel=>exact ⟨k9+1,by omega,by go_num,qq.out.1.setCell aFh _,bA qq.out.2 _ rfl _⟩
     case measure=>simp [intOf];omega
    ·have aAV:¬(k9:Int)<(ou.length:Int)+2:=by omega
     have qq:=aA hB;clear hB TZ;go_wp2
     go_ret2
     exact ⟨rfl,qq.out⟩
theorem aAl {kind th cap st co:Int} {nx ou:List Int} (h:gZ kind th cap st co nx ou=0):(1≤kind∧kind≤5∧1≤th∧th≤64∧0≤cap∧cap≤64)∧(kind=5→bR st co nx ou=true):=by
 unfold gZ at h
 split at h
 ·rename_i hc
  refine ⟨hc,fun h5=>?_⟩;rw [aJ h5] at h
  split at h
  ·assumption
  ·omega
 ·omega
theorem SP {st co:Int} {nx ou:List Int} (h:bR st co nx ou=true):0<nx.length∧0<ou.length:=by
 simp only [bR,Bool.and_eq_true,decide_eq_true_eq] at h;obtain ⟨⟨⟨⟨⟨⟨a,b⟩,c⟩,d⟩,e⟩,f⟩,-⟩:=h;have:0<st*co:=Int.mul_pos (by omega) (by omega);omega
theorem tP.aFv {w0:World} {kind:Int} {n:Nat} {cap st co:Int} {nx ou:List Int} {p1 p2:Option Addr} {m1 k1 m2 k2:Nat} {b:Nat} {w:World} (h:tP w0 kind n cap st co nx ou (.slice p1 m1 k1) (.slice p2 m2 k2) b w) (hn:1≤n) :
  ∃ g gc bT a1 l1 c1 a2 l2 c2,aDx b n g gc bT kind cap st co (.slice a1 l1 c1) (.slice a2 l2 c2) w∧Below w0.heap.size w0 w:=by
 obtain ⟨W1,ax,PN,v,bT,bF,rfl,hb,hI,hv⟩:=h;have hs:∃ a1 l1 c1 a2 l2 c2,ax = .slice a1 l1 c1∧PN = .slice a2 l2 c2:=by
  rcases hv with ⟨-,rfl,rfl⟩|⟨-,g1,g2,rfl,rfl,-⟩
  ·exact ⟨_,_,_,_,_,_,rfl,rfl⟩
  ·exact ⟨_,_,_,_,_,_,rfl,rfl⟩
 obtain ⟨a1,l1,c1,a2,l2,c2,rfl,rfl⟩:=hs;obtain ⟨hE,hO,hT,-,hB⟩:=hI;obtain ⟨hl,⟨rfl,hn0⟩|⟨g,gc,cur,rfl,-,hg,hnc,hcm,hcs,yw⟩⟩:=hO
 ·omega
 ·refine ⟨g,gc,bT,a1,l1,c1,a2,l2,c2,⟨hE,fun t ht=>?_,fun t ht=>(hT t ht).1.cell_of rfl,fun t ht=>(hT t ht).1.cell_of rfl⟩,aS hb hB hb.size⟩
  rw [cell_of_row w g _ cur _ _ hg];have:(ptrs bT n)[t]?=some (.pointer (some ⟨bT t,0,none⟩)):=by simp [ptrs,zY ht]
  rw [←yw,IZ] at this
  split at this
  ·simpa using this
  ·cases this
theorem Row.apart {w:World} {g g':Nat} {t t':TypeId} {xs xs':List Value} (h:Row w g t xs) (h':Row w g' t' xs') (ne:t≠t'):g≠g':=by
 rintro rfl;have e:=(show w.heap[g]?=_ from h).symm.trans (show w.heap[g]?=_ from h');simp at e;exact ne e.2
structure yQ (w w1 w4:World) (base bX:Nat) (v:Value) (w':World):Prop where
 b0:Below w.heap.size w w'
 b1:Below w1.heap.size w1 w'
 k4:DM base w4 w'
 sz:w4.heap.size≤w'.heap.size
 rX:Row w' bX 74 [v]
theorem yQ.set {w w1 w4:World} {base bX:Nat} {v:Value} {w':World} (h:yQ w w1 w4 base bX v w') {a:Addr} (h0:w.heap.size≤a.block) (h1:w1.heap.size≤a.block) (h4:a.block<base) (hX:bX≠a.block) (u:Value):yQ w w1 w4 base bX v (w'.setCell a u) :=
 ⟨h.b0.setCell h0 u,h.b1.setCell h1 u,h.k4.set h4 u,by simpa [World.setCell] using h.sz,h.rX.setOther hX u⟩
end Go.Proofs.YtefjhnhdagolhaaGreat
