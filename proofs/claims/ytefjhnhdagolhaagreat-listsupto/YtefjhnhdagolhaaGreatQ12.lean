import Derived.Test.YtefjhnhdagolhaaGreatQ04
import Derived.Test.YtefjhnhdagolhaaGreatQ05
import Derived.Test.YtefjhnhdagolhaaGreatProg
import Derived.Test.YtefjhnhdagolhaaGreatQ08
import Derived.Test.YtefjhnhdagolhaaGreatQ11
import Derived.Test.YtefjhnhdagolhaaGreatQ00
import Derived.Deep.DeepAppendRoom
namespace Go.Proofs.YtefjhnhdagolhaaGreat
open Go.RowKit
attribute [local go_sem ↓] Go.wp_at_zero Go.wp_at_succ
section
variable {w0 w1:World} {n:Nat} {most:Int} {oT:TypeId} {ov:Value} {b:Nat} {w:World}
theorem list.gI.from (h:list.gI w1 n most oT ov b w) (hb:Below w0.heap.size w0 w1):list.gI w0 n most oT ov b w:=let ⟨bN,h1,h2,h3⟩:=h;⟨bN,h1,h2.from hb,Nat.le_trans hb.size h3⟩
theorem row.gI.from (h:row.gI w1 n most oT ov b w) (hb:Below w0.heap.size w0 w1):row.gI w0 n most oT ov b w:=let ⟨bN,h1,h2,h3⟩:=h;⟨bN,h1,h2.from hb,Nat.le_trans hb.size h3⟩
end
theorem JG {w':World} {N:Nat} {t:TypeId} {a b c d e f g:Value} (h:Row w' N t [a,b,c,d,e,f,g]):Row w' N t [a,b,c,d,e,f,g]∧w'.cell? ⟨N,0,none⟩=some a∧w'.cell? ⟨N,1,none⟩=some b∧w'.cell? ⟨N,2,none⟩=some c ∧
  w'.cell? ⟨N,3,none⟩=some d∧w'.cell? ⟨N,4,none⟩=some e∧w'.cell? ⟨N,5,none⟩=some f∧w'.cell? ⟨N,6,none⟩=some g :=
 ⟨h,h.cell_of rfl,h.cell_of rfl,h.cell_of rfl,h.cell_of rfl,h.cell_of rfl,h.cell_of rfl,h.cell_of rfl⟩
section
variable (n:Nat) (cap st co:Int) (nx ou:List Int) (vn vo:Value) (w:World)
set_option maxHeartbeats 1000000 in
theorem WL (hn:Sl w vn (ints nx)) (ho:Sl w vo (ints ou)) (kind th:Int) (h:eD kind th cap st co nx ou≠0) :
  Calls Tryz.prog 42 #[.agg #[.int .i64 kind,.int .i64 th,.int .i64 cap,.int .i64 st,.int .i64 co,vn,vo]] w fun e w'=>e = .returned (.tuple #[.pointer none,.int .i64 (eD kind th cap st co nx ou)])∧Below w.heap.size w w':=by
 have hc:=jM kind th cap st co nx ou vn vo (w.alloc (.cells #[.int .i64 kind,.int .i64 th,.int .i64 cap,.int .i64 st,.int .i64 co,vn,vo] 26)) (hn.below (aB _ _)) (ho.below (aB _ _))
 generalize hx:eD kind th cap st co nx ou=x at *
 have hx0:(x != 0)=true:=by rw [bne_iff_ne];exact h
 have HC:=aA hc
 clear hc hx h hn ho
 go_enter Tryz.func42,Tryz.ntmps42
 go_wp2_with fail
 refine HC.out.mono ?_
 rintro e w1 ⟨rfl,dU⟩
 go_wp2_with fail
 go_ret2
 exact ⟨rfl,Below.next (aB _ _) dU (by simp)⟩
set_option maxHeartbeats 1000000 in
theorem WM (hn:Sl w vn (ints nx)) (ho:Sl w vo (ints ou)) (h1:1≤n) (h2:n≤64) (h3:0≤cap) (h4:cap≤64) :
  Calls Tryz.prog 42 #[.agg #[.int .i64 2,.int .i64 (n:Int),.int .i64 cap,.int .i64 st,.int .i64 co,vn,vo]] w fun e w'=>∃ b,e = .returned (.tuple #[.pointer (some ⟨b,0,none⟩),.int .i64 0])∧list.gI w n cap 143 (.agg #[]) b w':=by
 have hc:=jM 2 n cap st co nx ou vn vo (w.alloc (.cells #[.int .i64 2,.int .i64 (n:Int),.int .i64 cap,.int .i64 st,.int .i64 co,vn,vo] 26)) (hn.below (aB _ _)) (ho.below (aB _ _))
 rw [oA (by omega) (by omega)] at hc
 have HC:=aA hc
 have HOB:=aA (fun W=>list.mW 143 (.agg #[]) 183 (.agg #[]) CA CB JE 2 n cap st co vn vo W h1 h2)
 clear hc hn ho
 go_enter Tryz.func42,Tryz.ntmps42
 go_wp2_with fail
 refine HC.out.mono ?_
 rintro e w1 ⟨rfl,dU⟩
 have jW:=aA (Below.next (aB w _) dU (by simp))
 obtain ⟨QK,-⟩:=MC dU
 clear dU
 go_wp2_with fail
 refine (HOB.out w1).mono ?_
 rintro e w2 ⟨b,rfl,hob⟩
 have HX:=aA (hob.from jW.out)
 clear hob
 go_wp2_with fail
 go_ret2
 exact ⟨b,rfl,HX.out⟩
set_option maxHeartbeats 1000000 in
theorem OC (hn:Sl w vn (ints nx)) (ho:Sl w vo (ints ou)) (h1:1≤n) (h2:n≤64) (h3:0≤cap) (h4:cap≤64) :
  Calls Tryz.prog 42 #[.agg #[.int .i64 3,.int .i64 (n:Int),.int .i64 cap,.int .i64 st,.int .i64 co,vn,vo]] w fun e w'=>∃ b,e = .returned (.tuple #[.pointer (some ⟨b,0,none⟩),.int .i64 0])∧row.gI w n cap 147 (.agg #[]) b w':=by
 have hc:=jM 3 n cap st co nx ou vn vo (w.alloc (.cells #[.int .i64 3,.int .i64 (n:Int),.int .i64 cap,.int .i64 st,.int .i64 co,vn,vo] 26)) (hn.below (aB _ _)) (ho.below (aB _ _))
 rw [oA (by omega) (by omega)] at hc
 have HC:=aA hc
 have HOB:=aA (fun W=>row.mW 147 (.agg #[]) 185 (.agg #[]) CC CD JF 3 n cap st co vn vo W h1 h2)
 clear hc hn ho
 go_enter Tryz.func42,Tryz.ntmps42
 go_wp2_with fail
 refine HC.out.mono ?_
 rintro e w1 ⟨rfl,dU⟩
 have jW:=aA (Below.next (aB w _) dU (by simp))
 obtain ⟨QK,-⟩:=MC dU
 clear dU
 go_wp2_with fail
 refine (HOB.out w1).mono ?_
 rintro e w2 ⟨b,rfl,hob⟩
 have HX:=aA (hob.from jW.out)
 clear hob
 go_wp2_with fail
 go_ret2
 exact ⟨b,rfl,HX.out⟩
end
end Go.Proofs.YtefjhnhdagolhaaGreat
namespace Go.Proofs.YtefjhnhdagolhaaGreat
open Go.RowKit
attribute [local go_sem ↓] Go.wp_at_zero Go.wp_at_succ
def ptrs (bT:Nat→Nat) (k:Nat):List Value:=(List.range k).map fun (t:Nat)=>.pointer (some ⟨bT t,0,none⟩)
theorem OD (bT:Nat→Nat) (k a:Nat):ptrs (fun t=>if t=k then a else bT t) (k+1)=ptrs bT k++[.pointer (some ⟨a,0,none⟩)]:=by
 unfold ptrs
 rw [List.range_succ,List.map_append]
 congr 1
 ·apply List.map_congr_left
  intro t ht
  have:t<k:=List.mem_range.1 ht
  simp only [if_neg (show ¬t=k by omega)]
 ·simp
def VM (kind n cap st co:Int) (vn vo:Value):List Value:=[.int .i64 kind,.int .i64 n,.int .i64 cap,.int .i64 st,.int .i64 co,vn,vo]
def tN (n bF:Nat):List Value:=[.slice none 0 0,.int .i64 0,.int .i64 0,.int .i64 0,.int .i64 0,.int .i64 0,.int .i64 0,.int .i64 0,.slice (some ⟨bF,0,none⟩) n n,.slice none 0 0]
def VN (W1:World) (n:Nat) (cc:List Value) (v:Value) (k:Nat) (bT bF:Nat→Nat) (w':World):Prop :=
 Row w' W1.heap.size 105 (cc++[v,.slice none 0 0])∧w'.ownsRow (W1.heap.size+1) 107 1 v k (ptrs bT k) ∧
 (∀ t,t<k→Row w' (bT t) 109 (tN n (bF t))∧Row w' (bF t) 3 (zeros (.int .i64 0) n)∧W1.heap.size<bT t∧W1.heap.size<bF t∧some (bT t)≠v.ownBlock∧some (bF t)≠v.ownBlock∧bT t≠bF t) ∧
 (∀ s t,s<t→t<k→bT s≠bT t∧bT s≠bF t∧bF s≠bT t∧bF s≠bF t)∧Below W1.heap.size W1 w'
theorem VN.next {W1:World} {n:Nat} {cc:List Value} {v:Value} {k:Nat} {bT bF:Nat→Nat} {wr w2 w4:World} {a b g cap:Nat} (QK:cc.length=7) (h:VN W1 n cc v k bT bF wr) (hb:Below wr.heap.size wr w2)
  (ha:wr.heap.size≤a) (hb':wr.heap.size≤b) (hab:a≠b) (EY:Row w2 a 109 (tN n b)) (hrb:Row w2 b 3 (zeros (.int .i64 0) n))
  (hown:w4.ownsRow (W1.heap.size+1) 107 1 (.slice (some ⟨g,0,none⟩) (k+1) cap) (k+1) (ptrs bT k++[.pointer (some ⟨a,0,none⟩)]))
  (cG:w2.grownBy w4 v.ownBlock) (hg:v.ownBlock=some g∨g=w2.heap.size) :
  VN W1 n cc (.slice (some ⟨g,0,none⟩) (k+1) cap) (k+1) (fun t=>if t=k then a else bT t) (fun t=>if t=k then b else bF t) (w4.setCell ⟨W1.heap.size,7,none⟩ (.slice (some ⟨g,0,none⟩) (k+1) cap)):=by
 obtain ⟨hE,hO,hT,hD,hB⟩:=h
 have hz:=hb.size
 have hzB:=hB.size
 have hlE:=hE.lt
 have hla:=EY.lt
 have hlb:=hrb.lt
 have iZ:=hO.lt
 have keep:∀ {q:Nat} {t:TypeId} {xs:List Value},Row w2 q t xs→some q≠v.ownBlock→Row w4 q t xs:=fun {q t xs} hr hne=>hr.of_block (cG.block q hr.lt hne)
 have YQ:some a≠v.ownBlock:=fun e=>by have:=(iZ a e.symm).2;omega
 have QL:some b≠v.ownBlock:=fun e=>by have:=(iZ b e.symm).2;omega
 have hEv:some W1.heap.size≠v.ownBlock:=fun e=>by have:=(iZ _ e.symm).1;omega
 have sL:∀ q,q<w2.heap.size→some q≠v.ownBlock→q≠g:=fun q hq hne e=>by
  subst e
  rcases hg with h|h
  ·exact hne h.symm
  ·omega
 refine ⟨?_,?_,?_,?_,?_⟩
 ·have:=(keep (hE.old hb) hEv).set 7 (.slice (some ⟨g,0,none⟩) (k+1) cap)
  rw [List.set_append_right _ _ (by omega),QK] at this
  exact this
 ·rw [OD]
  exact ownsRow_setCell_below hown (by simp) _
 ·intro t ht
  by_cases e:t=k
  ·subst e
   simp only [if_true]
   refine ⟨(keep EY YQ).setOther (by simp;omega) _,(keep hrb QL).setOther (by simp;omega) _,by omega,by omega,?_,?_,hab⟩
   ·simp only [Value.ownBlock,ne_eq,Option.some.injEq];exact sL a hla YQ
   ·simp only [Value.ownBlock,ne_eq,Option.some.injEq];exact sL b hlb QL
  ·simp only [if_neg e]
   obtain ⟨h1,h2,h3,h4,h5,h6,h7⟩:=hT t (by omega)
   refine ⟨(keep (h1.old hb) h5).setOther (by simp;omega) _,(keep (h2.old hb) h6).setOther (by simp;omega) _,h3,h4,?_,?_,h7⟩
   ·simp only [Value.ownBlock,ne_eq,Option.some.injEq];exact sL _ (h1.old hb).lt h5
   ·simp only [Value.ownBlock,ne_eq,Option.some.injEq];exact sL _ (h2.old hb).lt h6
 ·intro s t h1 h2
  by_cases e:t=k
  ·subst e
   obtain ⟨r1,r2,-⟩:=hT s h1
   have l1:=r1.lt
   have l2:=r2.lt
   simp only [if_true,if_neg (show ¬s=t by omega)]
   omega
  ·simp only [if_neg e,if_neg (show ¬s=k by omega)]
   exact hD s t h1 (by omega)
 ·exact ((Below.next hB hb hzB).grown cG (by omega) (fun q hq=>by have:=(iZ q hq).1;omega)).setCell (Nat.le_refl _) _
theorem CH {w w4:World} {row:Option Nat} {E N:Nat} {q:Value} (hg:w.grownBy w4 row) (h:w.cell? ⟨N,1,none⟩=some q∧w.there E 7 1) (hE:some E≠row) (hN:some N≠row) :
  w4.cell? ⟨N,1,none⟩=some q∧w4.there E 7 1:=by
 refine ⟨hg.cell h.1 hN,fun j hj=>?_⟩
 obtain ⟨h1,h2⟩:=h.2 j hj
 obtain ⟨u,hu⟩:=Option.isSome_iff_exists.1 h1
 have hlt:=World.block_lt_of_cell? w _ hu
 rw [hg.cell_far ⟨E,7+j,none⟩ hlt hE,hg.frozen_far ⟨E,7+j,none⟩ hlt hE]
 exact ⟨h1,h2⟩
end Go.Proofs.YtefjhnhdagolhaaGreat
namespace Go.Proofs.YtefjhnhdagolhaaGreat
open Go.RowKit
attribute [local go_sem ↓] Go.wp_at_zero Go.wp_at_succ
def lI (w:World) (kind:Int) (n:Nat) (cap st co:Int) (nx ou:List Int) (vn vo:Value) (b:Nat) (w':World):Prop :=
 ∃ W1 RU CI v bT bF,b=W1.heap.size∧Below w.heap.size w W1∧VN W1 n (VM kind n cap st co RU CI) v n bT bF w' ∧
  ((kind≠5∧RU=vn∧CI=vo)∨(kind=5∧∃ g1 g2,RU = .slice (some ⟨g1,0,none⟩) nx.length nx.length∧CI = .slice (some ⟨g2,0,none⟩) ou.length ou.length∧w.heap.size≤g1∧w.heap.size≤g2∧Row W1 g1 3 (ints nx)∧Row W1 g2 3 (ints ou)))
theorem CJ:(Tryz.prog.info? 107).map (fun i=>(i.zero,i.size,i.bytes))=some (some (.pointer none),1,8):=by kernel_rfl
set_option maxHeartbeats 2000000 in
theorem JH (cap st co:Int) (nx ou:List Int) (vn vo:Value) (w:World) (kind th:Int) (h:¬(1≤kind∧kind≤5∧1≤th∧th≤64∧0≤cap∧cap≤64)) :
  Calls Tryz.prog 41 #[.agg #[.int .i64 kind,.int .i64 th,.int .i64 cap,.int .i64 st,.int .i64 co,vn,vo]] w fun e w'=>e = .returned (.tuple #[.pointer none,.int .i64 (eD kind th cap st co nx ou)])∧Below w.heap.size w w':=by
 rw [mR h]
 by_cases c0:kind<1
 ·clear h
  go_enter Tryz.func41,Tryz.ntmps41
  go_wp2
  go_ret2
  exact ⟨rfl,(by repeat (first|exact Below.refl _ _|assumption|refine Below.drewN ?_ _|refine Below.alloc ?_ (by simp) _))⟩
 by_cases c1:5<kind
 ·clear h
  go_enter Tryz.func41,Tryz.ntmps41
  go_wp2
  go_ret2
  exact ⟨rfl,(by repeat (first|exact Below.refl _ _|assumption|refine Below.drewN ?_ _|refine Below.alloc ?_ (by simp) _))⟩
 by_cases c2:th<1
 ·clear h
  go_enter Tryz.func41,Tryz.ntmps41
  go_wp2
  go_ret2
  exact ⟨rfl,(by repeat (first|exact Below.refl _ _|assumption|refine Below.drewN ?_ _|refine Below.alloc ?_ (by simp) _))⟩
 by_cases c3:64<th
 ·clear h
  go_enter Tryz.func41,Tryz.ntmps41
  go_wp2
  go_ret2
  exact ⟨rfl,(by repeat (first|exact Below.refl _ _|assumption|refine Below.drewN ?_ _|refine Below.alloc ?_ (by simp) _))⟩
 by_cases c4:cap<0
 ·clear h
  go_enter Tryz.func41,Tryz.ntmps41
  go_wp2
  go_ret2
  exact ⟨rfl,(by repeat (first|exact Below.refl _ _|assumption|refine Below.drewN ?_ _|refine Below.alloc ?_ (by simp) _))⟩
 by_cases c5:64<cap
 ·clear h
  go_enter Tryz.func41,Tryz.ntmps41
  go_wp2
  go_ret2
  exact ⟨rfl,(by repeat (first|exact Below.refl _ _|assumption|refine Below.drewN ?_ _|refine Below.alloc ?_ (by simp) _))⟩
 exact absurd ⟨by omega,by omega,by omega,by omega,by omega,by omega⟩ h
set_option maxHeartbeats 2000000 in
theorem JI (cap st co:Int) (nx ou:List Int) (vn vo:Value) (w:World) (hn:Sl w vn (ints nx)) (ho:Sl w vo (ints ou)) (th:Int) (h:1≤th∧th≤64∧0≤cap∧cap≤64) (ht:cE st co nx ou=false) :
  Calls Tryz.prog 41 #[.agg #[.int .i64 5,.int .i64 th,.int .i64 cap,.int .i64 st,.int .i64 co,vn,vo]] w fun e w'=>e = .returned (.tuple #[.pointer none,.int .i64 2])∧Below w.heap.size w w':=by
 obtain ⟨c1,c2,c3,c4⟩:=h
 have hc:=fun W hW=>BX st co nx ou vn vo W (hn.below hW) (ho.below hW)
 rw [ht] at hc
 have HC:=aA hc
 clear hc hn ho ht
 go_enter Tryz.func41,Tryz.ntmps41
 go_wp2_with fail
 refine (HC.out _ (aB _ _)).mono ?_
 rintro e w1 ⟨rfl,dU⟩
 go_wp2_with fail
 go_ret2
 exact ⟨rfl,Below.next (aB _ _) dU (by simp)⟩
set_option maxRecDepth 20000 in
set_option maxHeartbeats 4000000 in
theorem sN (cap st co:Int) (nx ou:List Int) (vn vo:Value) (w:World) (kind:Int) (n:Nat) (k1:1≤kind) (k2:kind≤4) (h1:1≤n) (h2:n≤64) (h3:0≤cap) (h4:cap≤64) :
  Calls Tryz.prog 41 #[.agg #[.int .i64 kind,.int .i64 (n:Int),.int .i64 cap,.int .i64 st,.int .i64 co,vn,vo]] w fun e w'=>∃ b,e = .returned (.tuple #[.pointer (some ⟨b,0,none⟩),.int .i64 0])∧lI w kind n cap st co nx ou vn vo b w':=by
 obtain ⟨pi,YR,YS⟩:=Option.map_eq_some_iff.1 CJ
 simp only [Prod.mk.injEq] at YS
 obtain ⟨fE,jK,YT⟩:=YS
 have YU:=aA YR
 have YV:=aA fE
 have YW:=aA jK
 have YY:=aA YT
 clear YR fE jK YT
 have hmk:=dY (P:=Tryz.prog) 22 3 (.int .i64 0) 8 Tryz.underlying22 eH rfl (n:Int) n rfl (by omega) (by omega)
 have c1:¬kind<1:=by omega
 have c2:¬5<kind:=by omega
 have c3:(kind != 5)=true:=by rw [bne_iff_ne];omega
 have c4:(kind == 5)=false:=beq_eq_false_iff_ne.2 (by omega)
 go_enter Tryz.func41,Tryz.ntmps41
 go_upto_region 10 with fail
 generalize gJ:World.alloc w _=W1
 have HBW:=aA (show Below w.heap.size w W1 by rw [←gJ];exact aB w _)
 have hs1:w.heap.size+1≤W1.heap.size:=by rw [←gJ];simp
 have VO:=aA (show Row W1 w.heap.size 26 (VM kind n cap st co vn vo) by rw [←gJ];exact Row.new' rfl)
 have q0:W1.cell? ⟨w.heap.size,0,none⟩=some (.int .i64 kind):=VO.out.cell_of rfl
 have q1:W1.cell? ⟨w.heap.size,1,none⟩=some (.int .i64 (n:Int)):=VO.out.cell_of rfl
 have q2:W1.cell? ⟨w.heap.size,2,none⟩=some (.int .i64 cap):=VO.out.cell_of rfl
 have q3:W1.cell? ⟨w.heap.size,3,none⟩=some (.int .i64 st):=VO.out.cell_of rfl
 have q4:W1.cell? ⟨w.heap.size,4,none⟩=some (.int .i64 co):=VO.out.cell_of rfl
 have q5:W1.cell? ⟨w.heap.size,5,none⟩=some vn:=VO.out.cell_of rfl
 have q6:W1.cell? ⟨w.heap.size,6,none⟩=some vo:=VO.out.cell_of rfl
 clear gJ
 have hI0:VN W1 n (VM kind n cap st co vn vo) (.slice none 0 0) 0 (fun _=>0) (fun _=>0) (W1.alloc (.cells (VM kind n cap st co vn vo++[Value.slice none 0 0,.slice none 0 0]).toArray 105)) :=
  ⟨Row.new' rfl,World.ownsRow_nil _ _ _ _,fun t ht=>absurd ht (by omega),fun s t _ h=>absurd h (by omega),aB _ _⟩
 have HI0:=aA hI0
 clear hI0
 go_wp2_with fail
 go_loopw [6] (fun i w'=>∃ k v bT bF,k≤n∧i = .int .i64 (k:Int)∧VN W1 n (VM kind n cap st co vn vo) v k bT bF w') (fun i _=>n-(intOf i).toNat)
 case atStart=>exact ⟨0,_,_,_,Nat.zero_le _,rfl,HI0.out⟩
 case round =>
  obtain ⟨k,v,bT,bF,hk,rfl,hI⟩:=hrel
  have hcN:wr.cell? ⟨w.heap.size,1,none⟩=some (.int .i64 (n:Int)):=cell_later hI.2.2.2.2 (VO.out.cell_of rfl)
  by_cases hlt:k<n
  ·have hlt':(k:Int)<(n:Int):=by omega
   have hcv:wr.cell? ⟨W1.heap.size,7,none⟩=some v:=hI.1.cell_of rfl
   have tM:wr.there W1.heap.size 7 1:=hI.1.there (by simp [VM])
   have iZ:=hI.2.1.lt
   have hzI:=hI.1.lt
   have vG:some W1.heap.size≠v.ownBlock:=fun e=>by have:=(iZ _ e.symm).1;omega
   have FG:some w.heap.size≠v.ownBlock:=fun e=>by have:=(iZ _ e.symm).1;omega
   have hsz:(Tryz.prog.info? 103).map (·.size)=some 1:=by kernel_rfl
   have HI:=aA hI
   have qZ:=aA hcv
   clear hI hcv iZ
   go_wp2
   refine gO (S:=(fun w'=>w'.cell? ⟨w.heap.size,1,none⟩=some (.int .i64 (n:Int))∧w'.there W1.heap.size 7 1)) 15 rfl (by kernel_rfl) ?_ (fun hHeld=>?_)
   ·exact ⟨hcN,tM⟩
   iterate 4 (refine tk 14 (by rfl) (by kernel_rfl) (by exact fun _ _ _ h=>h) (.inl ⟨by rfl,fun w hS=>by (try dsimp only at hS);go_simp;(try with_reducible rfl)⟩) (by assumption) ?_;try go_frame)
   iterate 2 (refine tk 15 (by rfl) (by kernel_rfl) (by exact fun _ _ _ h=>h) (.inl ⟨by rfl,fun w hS=>by (try dsimp only at hS);go_simp;(try with_reducible rfl)⟩) (by assumption) ?_;try go_frame)
   refine wpAnyH_ready (rs:=[4,7]) (by kernel_rfl) (by simp) (rc (by rfl) (fun K hK=>?_) (rc (by rfl) (fun K hK=>?_) AllReadyH.nil))
   ·rw [if_pos (by rfl)]
    refine bZ _ _ rfl _ _ v rfl (by kernel_rfl) (by refine cell_later ?_ qZ.out;repeat (first|exact Below.refl _ _|refine Below.drew ?_|refine Below.alloc ?_ (by first|(simp;done)|(simp;omega)) _)) ?_
    refine hK.out _ _ ?_ (fun hHeld=>?_)
    ·exact hHeld
    clear hK K
    (try go_frame)
    refine aU 7 (by rfl) (by kernel_rfl) (fun K hK=>?_)
    go_simp
    refine hK.out _ _ ?_ (fun hHeld=>?_)
    ·exact ⟨cell_later (aB _ _) hHeld.1,World.there_alloc hHeld.2 _⟩
    clear hK K
    (try go_frame)
    iterate 1 (refine tk 14 (by rfl) (by kernel_rfl) (by exact fun _ _ _ h=>h) (.inl ⟨by rfl,fun w hS=>by (try dsimp only at hS);go_simp;(try with_reducible rfl)⟩) (by assumption) ?_;try go_frame)
    refine aU 9 (by rfl) (by kernel_rfl) (fun K hK=>?_)
    go_simp
    refine hK.out _ _ ?_ (fun hHeld=>?_)
    ·exact ⟨cell_later (aB _ _) hHeld.1,World.there_alloc hHeld.2 _⟩
    clear hK K
    (try go_frame)
    refine aU 10 (by rfl) (by kernel_rfl) (fun K hK=>?_)
    go_simp
    refine hK.out _ _ ?_ (fun hHeld=>?_)
    ·exact ⟨cell_later (aB _ _) hHeld.1,World.there_alloc hHeld.2 _⟩
    clear hK K
    (try go_frame)
    refine aU 11 (by rfl) (by kernel_rfl) (fun K hK=>?_)
    refine step_append_lies _ rfl (.tmp 65) (.tmp 71) 103 rfl (W1.heap.size+1) 107 pi (.pointer none) 1 8 Tryz.underlying103 YU.out YV.out YW.out YY.out rfl (by decide) v k (ptrs bT k) rfl ?_ ⟨wr.heap.size+1+1,0,none⟩ 1 1 [.pointer (some ⟨wr.heap.size+1,0,none⟩)] rfl rfl ?_ (by simp [Value.oneCell']) (by decide) (by unfold maxLen;omega) (by omega) ?_ (wr.heap.size+1+1+1) (by simp) ?_
    ·exact ((HI.out.2.1.alloc _).alloc _).alloc _
    ·exact World.news_of_block (Row.drew (Row.new' (by simp)))
    ·simp;omega
    intro g gc w4 hown cG hat gF
    have HO:=aA hown
    have HG:=aA cG
    have HA:=aA hat
    clear hown cG hat
    refine hK.out _ _ ?_ (fun hHeld=>?_)
    ·exact CH HG.out hHeld vG FG
    clear hK K
    (try go_frame)
    iterate 2 (refine tk 14 (by rfl) (by kernel_rfl) (by exact fun _ _ _ h=>h) (.inl ⟨by rfl,fun w hS=>by (try dsimp only at hS);go_simp;(try with_reducible rfl)⟩) (by assumption) ?_;try go_frame)
    refine aU 14 (by rfl) (by kernel_rfl) (fun K hK=>?_)
    rw [if_pos (by rfl)]
    refine aM _ _ _ rfl W1.heap.size 7 _ rfl rfl rfl rfl hHeld.2 hsz ?_
    refine hK.out _ _ ?_ (fun hHeld=>?_)
    ·exact ⟨(World.cell?_setCell_far _ _ _ _ (by simp;omega)).trans hHeld.1,aQ hHeld.2 _ rfl _⟩
    clear hK K
    (try go_frame)
    refine wpAnyH_done (by kernel_rfl) ?_ _
    (try go_wp2_with fail)
    go_roundw
    case rel=>exact ⟨k+1,_,_,_,by omega,by go_num,VN.next rfl HI.out (Below.drew (Below.alloc (Below.alloc (aB _ _) (by simp) _) (by simp;omega) _)) (Nat.le_succ _) (Nat.le_refl _) (by omega) (Row.drew (Row.alloc (Row.new' (xs:=tN n wr.heap.size) (by simp)) _)) (Row.drew (Row.alloc (Row.alloc (Row.new' rfl) _) _)) HO.out HG.out (Or.imp_right (fun h=>by rw [h];simp) HA.out)⟩
    case measure=>simp [intOf];omega
   ·go_simp
    refine hK.out _ _ ?_ (fun hHeld=>?_)
    ·exact ⟨cell_later (aB _ _) hHeld.1,World.there_alloc hHeld.2 _⟩
    clear hK K
    (try go_frame)
    iterate 1 (refine tk 15 (by rfl) (by kernel_rfl) (by exact fun _ _ _ h=>h) (.inl ⟨by rfl,fun w hS=>by (try dsimp only at hS);go_simp;(try with_reducible rfl)⟩) (by assumption) ?_;try go_frame)
    refine wpAnyH_ready (rs:=[4,9]) (by kernel_rfl) (by simp) (rc (by rfl) (fun K hK=>?_) (rc (by rfl) (fun K hK=>?_) AllReadyH.nil))
    ·rw [if_pos (by rfl)]
     refine bZ _ _ rfl _ _ v rfl (by kernel_rfl) (by refine cell_later ?_ qZ.out;repeat (first|exact Below.refl _ _|refine Below.drew ?_|refine Below.alloc ?_ (by first|(simp;done)|(simp;omega)) _)) ?_
     refine hK.out _ _ ?_ (fun hHeld=>?_)
     ·exact hHeld
     clear hK K
     (try go_frame)
     refine aU 9 (by rfl) (by kernel_rfl) (fun K hK=>?_)
     go_simp
     refine hK.out _ _ ?_ (fun hHeld=>?_)
     ·exact ⟨cell_later (aB _ _) hHeld.1,World.there_alloc hHeld.2 _⟩
     clear hK K
     (try go_frame)
     refine aU 10 (by rfl) (by kernel_rfl) (fun K hK=>?_)
     go_simp
     refine hK.out _ _ ?_ (fun hHeld=>?_)
     ·exact ⟨cell_later (aB _ _) hHeld.1,World.there_alloc hHeld.2 _⟩
     clear hK K
     (try go_frame)
     refine aU 11 (by rfl) (by kernel_rfl) (fun K hK=>?_)
     refine step_append_lies _ rfl (.tmp 65) (.tmp 71) 103 rfl (W1.heap.size+1) 107 pi (.pointer none) 1 8 Tryz.underlying103 YU.out YV.out YW.out YY.out rfl (by decide) v k (ptrs bT k) rfl ?_ ⟨wr.heap.size+1+1,0,none⟩ 1 1 [.pointer (some ⟨wr.heap.size+1,0,none⟩)] rfl rfl ?_ (by simp [Value.oneCell']) (by decide) (by unfold maxLen;omega) (by omega) ?_ (wr.heap.size+1+1+1) (by simp) ?_
     ·exact ((HI.out.2.1.alloc _).alloc _).alloc _
     ·exact World.news_of_block (Row.drew (Row.new' (by simp)))
     ·simp;omega
     intro g gc w4 hown cG hat gF
     have HO:=aA hown
     have HG:=aA cG
     have HA:=aA hat
     clear hown cG hat
     refine hK.out _ _ ?_ (fun hHeld=>?_)
     ·exact CH HG.out hHeld vG FG
     clear hK K
     (try go_frame)
     iterate 2 (refine tk 14 (by rfl) (by kernel_rfl) (by exact fun _ _ _ h=>h) (.inl ⟨by rfl,fun w hS=>by (try dsimp only at hS);go_simp;(try with_reducible rfl)⟩) (by assumption) ?_;try go_frame)
     refine aU 14 (by rfl) (by kernel_rfl) (fun K hK=>?_)
     rw [if_pos (by rfl)]
     refine aM _ _ _ rfl W1.heap.size 7 _ rfl rfl rfl rfl hHeld.2 hsz ?_
     refine hK.out _ _ ?_ (fun hHeld=>?_)
     ·exact ⟨(World.cell?_setCell_far _ _ _ _ (by simp;omega)).trans hHeld.1,aQ hHeld.2 _ rfl _⟩
     clear hK K
     (try go_frame)
     refine wpAnyH_done (by kernel_rfl) ?_ _
     (try go_wp2_with fail)
     go_roundw
     case rel=>exact ⟨k+1,_,_,_,by omega,by go_num,VN.next rfl HI.out (Below.drew (Below.alloc (Below.alloc (aB _ _) (by simp) _) (by simp;omega) _)) (Nat.le_succ _) (Nat.le_refl _) (by omega) (Row.drew (Row.alloc (Row.new' (xs:=tN n wr.heap.size) (by simp)) _)) (Row.drew (Row.alloc (Row.alloc (Row.new' rfl) _) _)) HO.out HG.out (Or.imp_right (fun h=>by rw [h];simp) HA.out)⟩
     case measure=>simp [intOf];omega
    ·go_simp
     refine hK.out _ _ ?_ (fun hHeld=>?_)
     ·exact ⟨cell_later (aB _ _) hHeld.1,World.there_alloc hHeld.2 _⟩
     clear hK K
     (try go_frame)
     refine wpAnyH_ready (rs:=[4,10]) (by kernel_rfl) (by simp) (rc (by rfl) (fun K hK=>?_) (rc (by rfl) (fun K hK=>?_) AllReadyH.nil))
     ·rw [if_pos (by rfl)]
      refine bZ _ _ rfl _ _ v rfl (by kernel_rfl) (by refine cell_later ?_ qZ.out;repeat (first|exact Below.refl _ _|refine Below.drew ?_|refine Below.alloc ?_ (by first|(simp;done)|(simp;omega)) _)) ?_
      refine hK.out _ _ ?_ (fun hHeld=>?_)
      ·exact hHeld
      clear hK K
      (try go_frame)
      refine aU 10 (by rfl) (by kernel_rfl) (fun K hK=>?_)
      go_simp
      refine hK.out _ _ ?_ (fun hHeld=>?_)
      ·exact ⟨cell_later (aB _ _) hHeld.1,World.there_alloc hHeld.2 _⟩
      clear hK K
      (try go_frame)
      refine aU 11 (by rfl) (by kernel_rfl) (fun K hK=>?_)
      refine step_append_lies _ rfl (.tmp 65) (.tmp 71) 103 rfl (W1.heap.size+1) 107 pi (.pointer none) 1 8 Tryz.underlying103 YU.out YV.out YW.out YY.out rfl (by decide) v k (ptrs bT k) rfl ?_ ⟨wr.heap.size+1+1,0,none⟩ 1 1 [.pointer (some ⟨wr.heap.size+1,0,none⟩)] rfl rfl ?_ (by simp [Value.oneCell']) (by decide) (by unfold maxLen;omega) (by omega) ?_ (wr.heap.size+1+1+1) (by simp) ?_
      ·exact ((HI.out.2.1.alloc _).alloc _).alloc _
      ·exact World.news_of_block (Row.drew (Row.new' (by simp)))
      ·simp;omega
      intro g gc w4 hown cG hat gF
      have HO:=aA hown
      have HG:=aA cG
      have HA:=aA hat
      clear hown cG hat
      refine hK.out _ _ ?_ (fun hHeld=>?_)
      ·exact CH HG.out hHeld vG FG
      clear hK K
      (try go_frame)
      iterate 2 (refine tk 14 (by rfl) (by kernel_rfl) (by exact fun _ _ _ h=>h) (.inl ⟨by rfl,fun w hS=>by (try dsimp only at hS);go_simp;(try with_reducible rfl)⟩) (by assumption) ?_;try go_frame)
      refine aU 14 (by rfl) (by kernel_rfl) (fun K hK=>?_)
      rw [if_pos (by rfl)]
      refine aM _ _ _ rfl W1.heap.size 7 _ rfl rfl rfl rfl hHeld.2 hsz ?_
      refine hK.out _ _ ?_ (fun hHeld=>?_)
      ·exact ⟨(World.cell?_setCell_far _ _ _ _ (by simp;omega)).trans hHeld.1,aQ hHeld.2 _ rfl _⟩
      clear hK K
      (try go_frame)
      refine wpAnyH_done (by kernel_rfl) ?_ _
      (try go_wp2_with fail)
      go_roundw
      case rel=>exact ⟨k+1,_,_,_,by omega,by go_num,VN.next rfl HI.out (Below.drew (Below.alloc (Below.alloc (aB _ _) (by simp) _) (by simp;omega) _)) (Nat.le_succ _) (Nat.le_refl _) (by omega) (Row.drew (Row.alloc (Row.new' (xs:=tN n wr.heap.size) (by simp)) _)) (Row.drew (Row.alloc (Row.alloc (Row.new' rfl) _) _)) HO.out HG.out (Or.imp_right (fun h=>by rw [h];simp) HA.out)⟩
      case measure=>simp [intOf];omega
     ·go_simp
      refine hK.out _ _ ?_ (fun hHeld=>?_)
      ·exact ⟨cell_later (aB _ _) hHeld.1,World.there_alloc hHeld.2 _⟩
      clear hK K
      (try go_frame)
      refine aU 4 (by rfl) (by kernel_rfl) (fun K hK=>?_)
      rw [if_pos (by rfl)]
      refine bZ _ _ rfl _ _ v rfl (by kernel_rfl) (by refine cell_later ?_ qZ.out;repeat (first|exact Below.refl _ _|refine Below.drew ?_|refine Below.alloc ?_ (by first|(simp;done)|(simp;omega)) _)) ?_
      refine hK.out _ _ ?_ (fun hHeld=>?_)
      ·exact hHeld
      clear hK K
      (try go_frame)
      refine aU 11 (by rfl) (by kernel_rfl) (fun K hK=>?_)
      refine step_append_lies _ rfl (.tmp 65) (.tmp 71) 103 rfl (W1.heap.size+1) 107 pi (.pointer none) 1 8 Tryz.underlying103 YU.out YV.out YW.out YY.out rfl (by decide) v k (ptrs bT k) rfl ?_ ⟨wr.heap.size+1+1,0,none⟩ 1 1 [.pointer (some ⟨wr.heap.size+1,0,none⟩)] rfl rfl ?_ (by simp [Value.oneCell']) (by decide) (by unfold maxLen;omega) (by omega) ?_ (wr.heap.size+1+1+1) (by simp) ?_
      ·exact ((HI.out.2.1.alloc _).alloc _).alloc _
      ·exact World.news_of_block (Row.drew (Row.new' (by simp)))
      ·simp;omega
      intro g gc w4 hown cG hat gF
      have HO:=aA hown
      have HG:=aA cG
      have HA:=aA hat
      clear hown cG hat
      refine hK.out _ _ ?_ (fun hHeld=>?_)
      ·exact CH HG.out hHeld vG FG
      clear hK K
      (try go_frame)
      iterate 2 (refine tk 14 (by rfl) (by kernel_rfl) (by exact fun _ _ _ h=>h) (.inl ⟨by rfl,fun w hS=>by (try dsimp only at hS);go_simp;(try with_reducible rfl)⟩) (by assumption) ?_;try go_frame)
      refine aU 14 (by rfl) (by kernel_rfl) (fun K hK=>?_)
      rw [if_pos (by rfl)]
      refine aM _ _ _ rfl W1.heap.size 7 _ rfl rfl rfl rfl hHeld.2 hsz ?_
      refine hK.out _ _ ?_ (fun hHeld=>?_)
      ·exact ⟨(World.cell?_setCell_far _ _ _ _ (by simp;omega)).trans hHeld.1,aQ hHeld.2 _ rfl _⟩
      clear hK K
      (try go_frame)
      refine wpAnyH_done (by kernel_rfl) ?_ _
      (try go_wp2_with fail)
      go_roundw
      case rel=>exact ⟨k+1,_,_,_,by omega,by go_num,VN.next rfl HI.out (Below.drew (Below.alloc (Below.alloc (aB _ _) (by simp) _) (by simp;omega) _)) (Nat.le_succ _) (Nat.le_refl _) (by omega) (Row.drew (Row.alloc (Row.new' (xs:=tN n wr.heap.size) (by simp)) _)) (Row.drew (Row.alloc (Row.alloc (Row.new' rfl) _) _)) HO.out HG.out (Or.imp_right (fun h=>by rw [h];simp) HA.out)⟩
      case measure=>simp [intOf];omega
  ·have WJ:k=n:=by omega
   subst WJ
   have HI:=aA hI
   clear hI
   have hlt':¬(k:Int)<(k:Int):=by omega
   go_wp2
   go_ret2
   exact ⟨W1.heap.size,rfl,W1,_,_,v,bT,bF,rfl,HBW.out,HI.out,.inl ⟨by omega,rfl,rfl⟩⟩
end Go.Proofs.YtefjhnhdagolhaaGreat
namespace Go.Proofs.YtefjhnhdagolhaaGreat
open Go.RowKit
def qK (base:Nat) (w w':World):Prop:=∀ k,base≤k→k<w.heap.size→w'.heap[k]?=w.heap[k]?
theorem qK.row {base:Nat} {w w':World} (h:qK base w w') {g:Nat} {t:TypeId} {xs:List Value} (hr:Row w g t xs) (hg:base≤g):Row w' g t xs:=hr.of_block (h g hg hr.lt)
theorem qK.cV {base:Nat} {w w':World} (hb:Below w.heap.size w w'):qK base w w':=fun k _ h2=>hb.block k h2
theorem qK.set {base:Nat} {w w':World} (h:qK base w w') {a:Addr} (ha:a.block<base) (v:Value):qK base w (w'.setCell a v):=fun k h1 h2=>(Below.heap_setCell w' a v k (by omega)).trans (h k h1 h2)
end Go.Proofs.YtefjhnhdagolhaaGreat
namespace Go.Proofs.YtefjhnhdagolhaaGreat
open Go.RowKit
attribute [local go_sem ↓] Go.wp_at_zero Go.wp_at_succ
structure YZ (b n g gc:Nat) (bT:Nat→Nat) (kind cap st co:Int) (vn vo:Value) (w:World):Prop where
 row:Row w b 105 (VM kind n cap st co vn vo++[.slice (some ⟨g,0,none⟩) n gc,.slice none 0 0])
 ptr:∀ t,t<n→w.cell? ⟨g,t,none⟩=some (.pointer (some ⟨bT t,0,none⟩))
 ended:∀ t,t<n→w.cell? ⟨bT t,1,none⟩=some (.int .i64 0)
 part:∀ t,t<n→w.cell? ⟨bT t,3,none⟩=some (.int .i64 0)
theorem lI.reads {w0:World} {kind:Int} {n:Nat} {cap st co:Int} {nx ou:List Int} {vn vo:Value} {b:Nat} {w:World} (h:lI w0 kind n cap st co nx ou vn vo b w) (hn:1≤n) :
  ∃ g gc bT RU CI,YZ b n g gc bT kind cap st co RU CI w∧Below w0.heap.size w0 w:=by
 obtain ⟨W1,RU,CI,v,bT,bF,rfl,hb,hI,-⟩:=h
 obtain ⟨hE,hO,hT,-,hB⟩:=hI
 obtain ⟨hl,⟨rfl,hn0⟩|⟨g,gc,cur,rfl,-,hg,hnc,hcm,hcs,RV⟩⟩:=hO
 ·omega
 ·refine ⟨g,gc,bT,RU,CI,⟨hE,fun t ht=>?_,fun t ht=>(hT t ht).1.cell_of rfl,fun t ht=>(hT t ht).1.cell_of rfl⟩,Below.next hb hB hb.size⟩
  rw [cell_of_row w g _ cur _ _ hg]
  have:(ptrs bT n)[t]?=some (.pointer (some ⟨bT t,0,none⟩)):=by simp [ptrs,List.getElem?_range ht]
  rw [←RV,List.getElem?_take] at this
  split at this
  ·simpa using this
  ·cases this
section
variable {b n g gc:Nat} {bT:Nat→Nat} {kind cap st co:Int} {vn vo:Value} (w:World)
end
end Go.Proofs.YtefjhnhdagolhaaGreat
namespace Go.Proofs.YtefjhnhdagolhaaGreat
open Go.RowKit
attribute [local go_sem ↓] Go.wp_at_zero Go.wp_at_succ
section
variable (kind n cap st co:Int) (a1:Option Addr) (l1 c1:Nat) (a2:Option Addr) (l2 c2:Nat) (w:World)
set_option maxHeartbeats 1000000 in
theorem wN (h1:2≤kind) (h2:kind≤4) :
  Calls Tryz.prog 113 #[.agg #[.int .i64 kind,.int .i64 n,.int .i64 cap,.int .i64 st,.int .i64 co,.slice a1 l1 c1,.slice a2 l2 c2]] w fun e w'=>e = .returned (.agg #[.int .i64 kind,.int .i64 st,.int .i64 co,.slice a1 l1 c1,.slice a2 l2 c2,.slice none 0 0]) ∧
   Below w.heap.size w w':=by
 have k1:(kind == 1)=false:=beq_eq_false_iff_ne.2 (by omega)
 have k2:(kind == 5)=false:=beq_eq_false_iff_ne.2 (by omega)
 go_enter Tryz.func113,Tryz.ntmps113
 go_wp2
 refine bodyPost_ret (v:=.agg #[.int .i64 kind,.int .i64 st,.int .i64 co,.slice a1 l1 c1,.slice a2 l2 c2,.slice none 0 0]) (by simp [results,Tryz.results113,go_sem]) rfl ⟨rfl,?_⟩
 exact (by repeat (first|exact Below.refl _ _|refine Below.drewN ?_ _|refine Below.drew ?_|refine Below.alloc ?_ (by first|(simp;done)|(simp;omega)) _|refine Below.next ?_ (by assumption) (by first|(simp;done)|(simp;omega))))
end
end Go.Proofs.YtefjhnhdagolhaaGreat
namespace Go.Proofs.YtefjhnhdagolhaaGreat
open Go.RowKit
section
variable {P:Program} (w:World)
theorem vH (t ty:TypeId) (base:Nat) (e:TypeId) (i:TypeInfo) (z:Value) (size bytes:Nat) (ht:P.underlying t=some (.slice e)) (hi:P.info? e=some i) (hz:i.zero=some z)
  (hsize:i.size=size) (hby:i.bytes=bytes) (hzs:z.cells.size=size) (hsz:0<size)
  (v:Value) (n:Nat) (xs:List Value) (hown:w.ownsRow base e size v n xs)
  (ad:Addr) (m c:Nat) (news:List Value) (hl:news.length=m*size) (hnews:∀ j u,news[j]?=some u→w.cell? (ad.add j)=some u) (h1:∀ u∈news,u.oneCell'=true)
  (hm:0<m) (h63:n+m≤maxLen) (hbytes:(n+m)*bytes≤140737488355328) (hbase:base≤w.heap.size) :
  ∃ g cap w',(Builtin.append_ #[t,t] ty #[v,.slice (some ad) m c]).run P w = .ok (.slice (some ⟨g,0,none⟩) (n+m) cap) w' ∧
   w'.ownsRow base e size (.slice (some ⟨g,0,none⟩) (n+m) cap) (n+m) (xs++news)∧w.grownBy w' v.ownBlock∧g<w'.heap.size ∧
   (v.ownBlock=some g∨(g=w.heap.size∧∀ k,k<w.heap.size→w'.heap[k]?=w.heap[k]?)):=by
 obtain ⟨g,cap,w',hr,h2,h3,h4,h5⟩:=run_append_lies (P:=P) w t ty base e i z size bytes ht hi hz hsize hby hzs hsz v n xs hown ad m c news hl hnews h1 hm h63 hbytes hbase w.heap.size rfl
 refine ⟨g,cap,w',hr,h2,h3,h5,?_⟩
 have h63':((n+m:Nat):Int)≤9223372036854775807:=by unfold maxLen at h63;omega
 have alloc_old:∀ (o:Obj) (k:Nat),k<w.heap.size→(w.drew.alloc o).heap[k]?=w.heap[k]?:=fun o k hk=>(aB w.drew o).block k hk
 rcases hown.2 with ⟨rfl,rfl⟩|⟨g0,aAt,cur,rfl,hb,hg,hnc,hcm,hcs,RV⟩
 ·have hq:=run_append_nil (P:=P) w t ty e i z ht hi hz ad m c news (by rw [hsize];exact hl) hnews hm (by omega) (by rw [hby];rw [Nat.zero_add] at hbytes;omega)
  rw [hr] at hq
  injection hq with q1 q2
  injection q1 with q3 q4
  injection q3 with q5
  injection q5 with q6
  subst q2
  exact .inr ⟨q6,alloc_old _⟩
 ·by_cases hroom:n+m≤aAt
  ·obtain ⟨w2,hq,-⟩:=run_append_own_spare (P:=P) w base t ty e i size ht hi hsize g0 n aAt xs hown ad m c news hl hnews h1 hroom
   rw [hr] at hq
   injection hq with q1 q2
   injection q1 with q3 q4
   injection q3 with q5
   injection q5 with q6
   exact .inl (by rw [q6];rfl)
  ·have hc:∀ j u,xs[j]?=some u→w.cell? ((⟨g0,0,none⟩:Addr).add j)=some u:=fun j u hj=>by
    have:=hown.cells (g:=g0) rfl j u hj
    simpa [Addr.add] using this
   have hq:=run_append_grow (P:=P) w t ty e i z ht hi hz ⟨g0,0,none⟩ n aAt xs (by rw [hsize];exact hown.1) hc ad m c news (by rw [hsize];exact hl) hnews (by omega) h63' (by rw [hby];exact growslice_fits (by omega) hbytes)
   rw [hr] at hq
   injection hq with q1 q2
   injection q1 with q3 q4
   injection q3 with q5
   injection q5 with q6
   subst q2
   exact .inr ⟨q6,alloc_old _⟩
theorem bH {ops:Array Oper} {rest:List Oper} {o:Oper} {a:Act} {Q:Exit→Act→World→Prop} (hgd:o.guard=none) (s x:Operand) (t:TypeId)
  (ho:o.op = .call {callee:=.builtin .append,args:=#[s,x],argTypes:=#[t,t]})
  (base:Nat) (e:TypeId) (i:TypeInfo) (z:Value) (size bytes:Nat) (ht:P.underlying t=some (.slice e)) (hi:P.info? e=some i) (hz:i.zero=some z)
  (hsize:i.size=size) (hby:i.bytes=bytes) (hzs:z.cells.size=size) (hsz:0<size)
  (v:Value) (n:Nat) (xs:List Value) (hs:a.eval s=v) (hown:w.ownsRow base e size v n xs)
  (ad:Addr) (m c:Nat) (news:List Value) (hx:a.eval x = .slice (some ad) m c) (hl:news.length=m*size) (hnews:∀ j u,news[j]?=some u→w.cell? (ad.add j)=some u) (h1:∀ u∈news,u.oneCell'=true)
  (hm:0<m) (h63:n+m≤maxLen) (hbytes:(n+m)*bytes≤140737488355328) (hbase:base≤w.heap.size)
  (h:∀ g cap w',w'.ownsRow base e size (.slice (some ⟨g,0,none⟩) (n+m) cap) (n+m) (xs++news)→w.grownBy w' v.ownBlock→g<w'.heap.size→(v.ownBlock=some g∨(g=w.heap.size∧∀ k,k<w.heap.size→w'.heap[k]?=w.heap[k]?))→wpList P ops Q rest (a.put o.dst (.slice (some ⟨g,0,none⟩) (n+m) cap)) w'):wpList P ops Q (o::rest) a w :=
 wpList_plain hgd fun _ hK=>by
  obtain ⟨g,cap,w',hr,h2,h3,h4,h5⟩:=vH (P:=P) w t o.type base e i z size bytes ht hi hz hsize hby hzs hsz v n xs hown ad m c news hl hnews h1 hm h63 hbytes hbase
  unfold Oper.wp execOp
  simp only [ho,resolve,invoke,builtin,Sem.run_bind,Sem.run_pure,Result.andThen_ok,List.map_toArray,List.map_cons,List.map_nil,hs,hx,hr]
  exact hK _ _ (h g cap w' h2 h3 h4 h5)
end
end Go.Proofs.YtefjhnhdagolhaaGreat
namespace Go.Proofs.YtefjhnhdagolhaaGreat
open Go.RowKit
def Reads (mk:Nat→Value) (sz i:Nat) (s:Value) (W:World):Prop :=
 s = .slice none 0 0∨∃ g j c,s = .slice (some ⟨g,0,none⟩) j c∧j≤i∧j≤c∧g<W.heap.size∧∀ p,p<j*sz→W.cell? ⟨g,p,none⟩=some (mk p)
theorem Reads.append {mk:Nat→Value} {sz i:Nat} {s:Value} {W W':World} (h:Reads mk sz i s W) {v:Value} {g cap base:Nat} {e:TypeId} {xs:List Value} (cG:W.grownBy W' v.ownBlock)
  (hown:W'.ownsRow base e sz (.slice (some ⟨g,0,none⟩) (i+1) cap) (i+1) xs) (hx:∀ p,p<(i+1)*sz→xs[p]?=some (mk p))
  (hk:v.ownBlock=some g∨∀ k,k<W.heap.size→W'.heap[k]?=W.heap[k]?):Reads mk sz (i+1) s W':=by
 rcases h with h|⟨gs,j,c,rfl,h1,h2,h3,h4⟩
 ·exact .inl h
 ·have hz:W.heap.size≤W'.heap.size:=cG.size
  refine .inr ⟨gs,j,c,rfl,by omega,h2,by omega,fun p hp=>?_⟩
  by_cases e1:v.ownBlock=some gs
  ·rcases hk with hk|hk
   ·have:gs=g:=by rw [e1] at hk;injection hk
    subst this
    have hlt:p<(i+1)*sz:=Nat.lt_of_lt_of_le hp (Nat.mul_le_mul_right sz (by omega))
    have:=hown.cells (g:=gs) rfl p _ (hx p hlt)
    rw [show (⟨gs,0,none⟩:Addr).add p=⟨gs,p,none⟩ by by_cases q:p=0<;>simp [Addr.add,q]] at this
    exact this
   ·rw [World.cell?_of_block (w:=W) (a:=⟨gs,p,none⟩) (hk gs h3)];exact h4 p hp
  ·exact cG.cell (h4 p hp) (fun q=>e1 q.symm)
theorem Reads.grown {mk:Nat→Value} {sz i:Nat} {s:Value} {W W':World} (h:Reads mk sz i s W) {row:Option Nat} (cG:W.grownBy W' row) (hne:∀ g j c,s = .slice (some ⟨g,0,none⟩) j c→row≠some g):Reads mk sz i s W':=by
 rcases h with h|⟨gs,j,c,rfl,h1,h2,h3,h4⟩
 ·exact .inl h
 ·have hz:W.heap.size≤W'.heap.size:=cG.size
  exact .inr ⟨gs,j,c,rfl,h1,h2,by omega,fun p hp=>cG.cell (h4 p hp) (fun q=>hne gs j c rfl q.symm)⟩
end Go.Proofs.YtefjhnhdagolhaaGreat
namespace Go.Proofs.YtefjhnhdagolhaaGreat
open Go.RowKit
theorem oK {w w':World} (h:Below w.heap.size w w'):w.grownBy w' none:=⟨h.os,h.tape,h.output,h.size,fun k hk _=>h.block k hk⟩
section
variable {w:World} {bL:Nat} {tW tO tL:TypeId} {sz:Nat} {u mk:Value} {cs:Value→List Value} {i k:Nat} {l:Value} {gm cm:Nat} {ss:List Value} {W W':World}
end
end Go.Proofs.YtefjhnhdagolhaaGreat
