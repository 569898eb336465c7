import Derived.Test.YtefjhnhdagolhaaGreatQ12
import Derived.Test.YtefjhnhdagolhaaGreatQ16
import Derived.Test.YtefjhnhdagolhaaGreatQ00
import Derived.Test.YtefjhnhdagolhaaGreatProg
import Derived.Test.YtefjhnhdagolhaaGreatQ04
import Derived.Laws.CopyOwn
import Derived.Test.YtefjhnhdagolhaaGreatQ01
import Derived.WalkKit
import Derived.ProofKit
import Derived.OpenShut
import Derived.JoinedCond
import Derived.Lib.SmallJoins
namespace Go.Proofs.YtefjhnhdagolhaaGreat
open Go.RowKit
attribute [local go_sem ↓] Go.wp_at_zero Go.wp_at_succ
theorem OM:(Tryz.prog.info? 99).map (fun i=>(i.zero,i.size,i.bytes))=some (some (.agg #[.slice none 0 0,.int .i64 0]),2,32):=by kernel_rfl
theorem OO:(Tryz.prog.info? 81).map (fun i=>(i.zero,i.size,i.bytes))=some (some (.agg #[.int .i64 0,.int .i64 0,.int .i64 0]),3,24):=by kernel_rfl
end Go.Proofs.YtefjhnhdagolhaaGreat
namespace Go.Proofs.YtefjhnhdagolhaaGreat
open Go.RowKit
attribute [local go_sem ↓] Go.wp_at_zero Go.wp_at_succ
theorem OP:(Tryz.prog.info? 102).map (fun i=>(i.zero,i.size,i.bytes))=some (some (.agg #[.slice none 0 0,.int .i64 0]),2,32):=by kernel_rfl
theorem vS:(Tryz.prog.info? 3).map (fun i=>(i.zero,i.size,i.bytes))=some (some (.int .i64 0),1,8):=by kernel_rfl
end Go.Proofs.YtefjhnhdagolhaaGreat
namespace Go.Proofs.YtefjhnhdagolhaaGreat
open Go.RowKit
attribute [local go_sem ↓] Go.wp_at_zero Go.wp_at_succ
set_option maxRecDepth 20000 in
set_option maxHeartbeats 1000000 in
theorem WV (xs:List Int) (v:Value) (x:Int) (w:World) (hs:Sl w v (ints xs)) (hl:xs.length≤1048576) :
  Calls Tryz.prog 243 #[v,.int .i64 x] w fun e w'=>∃ r:Int,e = .returned (.int .i64 r)∧(0≤r↔x∈xs)∧w'=w:=by
 obtain ⟨a,c,rfl,hca,hcm,hop⟩:=hs.open_ints
 have HS:=aA hop
 clear hs hop
 go_enter Tryz.func243,Tryz.ntmps243
 go_wp2
 go_loopw [8] (fun i w'=>∃ k:Nat,k≤xs.length∧i = .int .i64 (k:Int)∧(∀ j,j<k→xs[j]?≠some x)∧w=w') (fun i _=>xs.length-(intOf i).toNat)
 case atStart=>exact ⟨0,Nat.zero_le _,rfl,fun j hj=>absurd hj (Nat.not_lt_zero _),rfl⟩
 case round =>
  obtain ⟨k,hk,rfl,hno,rfl⟩:=hrel
  have HNO:=aA hno
  clear hno
  by_cases hlt:k<xs.length
  ·have hlt':(k:Int)<(xs.length:Int):=by omega
   obtain ⟨g,off,rfl,hcell⟩:=HS.out k hlt
   have hg:xs[k]?=some xs[k]:=List.getElem?_eq_getElem hlt
   generalize xs[k]=y at hcell hg
   have HG:=aA hg
   clear hg
   by_cases hxy:x=y
   ·subst hxy
    go_wp2
    go_ret
    exact ⟨(k:Int),rfl,⟨fun _=>List.mem_of_getElem? HG.out,fun _=>by omega⟩,rfl⟩
   ·have hne:(x == y)=false:=by simpa using hxy
    have HX:=aA hxy
    clear hxy
    go_wp2
    go_roundw
    case rel =>
     refine ⟨k+1,by omega,by go_num,fun j hj=>?_,by trivial⟩
     by_cases q:j=k
     ·rw [q,HG.out]
      intro e
      injection e with e
      exact HX.out e.symm
     ·exact HNO.out j (by omega)
    case measure=>simp [intOf];omega
  ·have hlt':¬(k:Int)<(xs.length:Int):=by omega
   go_wp2
   go_ret
   refine ⟨-1,rfl,⟨fun q=>absurd q (by decide),fun hm=>?_⟩,rfl⟩
   obtain ⟨j,hj,e⟩:=List.getElem_of_mem hm
   exact absurd (by rw [List.getElem?_eq_getElem hj,e]) (HNO.out j (by omega))
set_option maxHeartbeats 1000000 in
theorem xE (xs:List Int) (v:Value) (x:Int) (w:World) (hs:Sl w v (ints xs)) (hl:xs.length≤1048576) :
  Calls Tryz.prog 229 #[v,.int .i64 x] w fun e w'=>e = .returned (.bool (decide (x∈xs)))∧w'=w:=by
 have HS:=aA hs
 clear hs
 go_enter Tryz.func229,Tryz.ntmps229
 go_wp2_with fail
 refine (WV xs v x w HS.out hl).mono ?_
 rintro e w1 ⟨r,rfl,hr,rfl⟩
 have HR:=aA hr
 clear hr
 go_wp2_with fail
 go_ret
 refine ⟨dR ?_,rfl⟩
 by_cases q:0≤r
 ·simp [q,HR.out.1 q]
 ·have:¬x∈xs:=fun m=>q (HR.out.2 m)
  simp [q,this]
end Go.Proofs.YtefjhnhdagolhaaGreat
namespace Go.Proofs.YtefjhnhdagolhaaGreat
open Go.RowKit
attribute [local go_sem ↓] Go.wp_at_zero Go.wp_at_succ
def Entries (W:World) (v:Value) (es:List (Value×Nat)):Prop :=
 ∃ a c,v = .slice a es.length c∧(0<es.length→∃ g,a=some ⟨g,0,none⟩∧g<W.heap.size∧∀ (t:Nat) (s:Value) (k:Nat),es[t]?=some (s,k)→W.cell? ⟨g,t*2,none⟩=some s∧W.cell? ⟨g,t*2+1,none⟩=some (.int .i64 (k:Int)))
theorem Reads.open {mk:Nat→Value} {sz i:Nat} {s:Value} {W:World} (h:Reads mk sz i s W) :
  ∃ a j c,s = .slice a j c∧j≤i∧(0<j→∃ g,a=some ⟨g,0,none⟩∧g<W.heap.size∧∀ p,p<j*sz→W.cell? ⟨g,p,none⟩=some (mk p)):=by
 rcases h with rfl|⟨g,j,c,rfl,h1,-,h3,h4⟩
 ·exact ⟨none,0,0,rfl,Nat.zero_le _,fun h=>absurd h (by decide)⟩
 ·exact ⟨_,j,c,rfl,h1,fun _=>⟨g,rfl,h3,h4⟩⟩
def cW (k:Nat) (p:Nat):Value:=.int .i64 (if p % 3=0 then -1-(k:Int) else -1)
def iC (k:Nat) (_:Nat):Value:=.int .i64 (-1-(k:Int))
def VT (W:World) (b:Nat) (s:Value) (m:Nat) (w':World):Prop:=Below W.heap.size W w'∧w'.cell? ⟨b,0,none⟩=some s∧w'.cell? ⟨b,1,none⟩=some (.int .i64 (m:Int))∧b<w'.heap.size
theorem VT.next {W:World} {b:Nat} {s:Value} {m:Nat} {w1 w2:World} (h:VT W b s m w1) (hb:Below w1.heap.size w1 w2):VT W b s m w2 :=
 ⟨Below.next h.1 hb h.1.size,cell_later hb h.2.1,cell_later hb h.2.2.1,Nat.lt_of_lt_of_le h.2.2.2 hb.size⟩
theorem VT.drewN {W:World} {b:Nat} {s:Value} {m:Nat} {w1:World} (h:VT W b s m w1) (n:Nat):VT W b s m (w1.drewN n):=h.next (Below.drewN (Below.refl _ _) n)
set_option maxRecDepth 20000 in
set_option maxHeartbeats 4000000 in
theorem OQ (bL:Nat) (x y ms is:Value) (jO jP:List (Value×Nat)) (J:Nat) (hJ:J≤1099511627776) (W:World) (hR:Row W bL 90 [x,y,ms,is]) (h1:Entries W ms jO) (h2:Entries W is jP) (l1:jO.length≤1099511627776) (l2:jP.length≤1099511627776)
  (r1:∀ s k,(s,k)∈jO→k≤1099511627776∧Reads (cW k) 3 J s W) (r2:∀ s k,(s,k)∈jP→k≤1099511627776∧Reads (iC k) 1 J s W) :
  Calls Tryz.prog 19 #[.pointer (some ⟨bL,0,none⟩)] W fun e w'=>e = .returned (.bool true)∧Below W.heap.size W w':=by
 obtain ⟨am,cm,rfl,hm⟩:=h1
 obtain ⟨ai,ci,rfl,hi⟩:=h2
 have HM:=aA hm
 have HI:=aA hi
 have R1:=aA r1
 have R2:=aA r2
 have HR:=aA hR
 clear hm hi r1 r2 hR
 go_enter Tryz.func19,Tryz.ntmps19
 go_wp2
 go_loopw [3] (fun i w'=>∃ k:Nat,k≤jO.length∧i = .int .i64 (k:Int)∧Below W.heap.size W w') (fun i _=>jO.length-(intOf i).toNat)
 case atStart=>exact ⟨0,Nat.zero_le _,rfl,Below.refl _ _⟩
 case round =>
  obtain ⟨k,hk,rfl,hB⟩:=hrel
  have c2:wr.cell? ⟨bL,2,none⟩=some (.slice am jO.length cm):=(HR.out.old hB).cell_of rfl
  by_cases hlt:k<jO.length
  ·have hlt':(k:Int)<(jO.length:Int):=by omega
   have EW:(0:Int)≤(k:Int):=by omega
   obtain ⟨g,rfl,hg,hcs⟩:=HM.out (by omega)
   have he:jO[k]?=some (jO[k].1,jO[k].2):=List.getElem?_eq_getElem hlt
   obtain ⟨MQ,YO⟩:=hcs k _ _ he
   obtain ⟨hkm,hrd⟩:=R1.out _ _ (List.mem_of_getElem? he)
   generalize jO[k].2=m at he YO hkm hrd
   generalize jO[k].1=s at he MQ hrd
   obtain ⟨a,j,c,rfl,hj,ZX⟩:=hrd.open
   have d1:wr.cell? ⟨g,k*2,none⟩=some (.slice a j c):=cell_later hB MQ
   have d2:wr.cell? ⟨g,k*2+1,none⟩=some (.int .i64 (m:Int)):=cell_later hB YO
   have HB:=aA hB
   have HRS:=aA ZX
   have HO:=aA (fun (W':World) (hw:W'=wr.alloc (.cells #[.slice a j c,.int .i64 (m:Int)] 99))=>(show VT W wr.heap.size (.slice a j c) m W' by
    subst hw
    exact ⟨Below.next hB (aB _ _) hB.size,(Row.new wr [_,_] 99).cell_of rfl,(Row.new wr [_,_] 99).cell_of rfl,by simp⟩))
   clear hB ZX hrd MQ YO hcs he
   go_wp2
   go_loopw [5] (fun i w'=>∃ q:Nat,q≤j∧i = .int .i64 (q:Int)∧VT W wr.heap.size (.slice a j c) m w') (fun i _=>j-(intOf i).toNat)
   case atStart=>exact ⟨0,Nat.zero_le _,rfl,HO.out _ (by first|rfl|simp)⟩
   case round =>
    obtain ⟨q,hq,rfl,hO⟩:=hrel
    have o1:=hO.2.1
    have o2:=hO.2.2.1
    have o3:=hO.2.2.2
    by_cases JX:q<j
    ·obtain ⟨g2,rfl,hg2,hcell⟩:=HRS.out (by omega)
     have xF:(q:Int)<(j:Int):=by omega
     have hq0:(0:Int)≤(q:Int):=by omega
     have e0:wr.cell? ⟨g2,q*3,none⟩=some (.int .i64 (-1-(m:Int))):=by
      rw [cell_later hO.1 (hcell (q*3) (by omega)),cW,if_pos (by omega)]
     have e1:wr.cell? ⟨g2,q*3+1,none⟩=some (.int .i64 (-1)):=by
      rw [cell_later hO.1 (hcell (q*3+1) (by omega)),cW,if_neg (by omega)]
     have e2:wr.cell? ⟨g2,q*3+2,none⟩=some (.int .i64 (-1)):=by
      rw [cell_later hO.1 (hcell (q*3+2) (by omega)),cW,if_neg (by omega)]
     have hgw:g2<wr.heap.size:=Nat.lt_of_lt_of_le hg2 hO.1.size
     have JY:=aA hO
     clear hO hcell
     go_wp2
     go_region_with (first|(go_at_call 52;refine (rD (m:Int) _ (by omega) (by omega)).mono ?_;rintro e w' ⟨rfl,hb⟩;have e0':=cell_later hb e0;have IM:=cell_later hb e1;have e2':=cell_later hb e2;have o1':=cell_later hb o1;have o2':=cell_later hb o2;have HB':=aA hb;clear hb))
     all_goals go_wp2
     all_goals go_roundw
     all_goals first|exact ⟨q+1,by omega,by go_num,JY.out.next (by first|exact HB'.out|exact Below.drewN HB'.out _|(repeat (first|exact HB'.out|refine Below.drewN ?_ _|refine Below.drew ?_|refine Below.cJ ?_)))⟩|(simp [intOf];omega)
    ·have xF:¬(q:Int)<(j:Int):=by omega
     have JY:=aA hO
     clear hO
     go_wp2
     go_roundw
     case rel=>exact ⟨k+1,by omega,by go_num,JY.out.1⟩
     case measure=>simp [intOf];omega
  ·have hlt':¬(k:Int)<(jO.length:Int):=by omega
   have HB:=aA hB
   clear hB
   go_wp2
   go_loopw [6] (fun i w'=>∃ k:Nat,k≤jP.length∧i = .int .i64 (k:Int)∧Below W.heap.size W w') (fun i _=>jP.length-(intOf i).toNat)
   case atStart=>exact ⟨0,Nat.zero_le _,rfl,HB.out⟩
   case round =>
    obtain ⟨k,hk,rfl,hB⟩:=hrel
    have c3:wr.cell? ⟨bL,3,none⟩=some (.slice ai jP.length ci):=(HR.out.old hB).cell_of rfl
    by_cases hlt:k<jP.length
    ·have hlt':(k:Int)<(jP.length:Int):=by omega
     have EW:(0:Int)≤(k:Int):=by omega
     obtain ⟨g,rfl,hg,hcs⟩:=HI.out (by omega)
     have he:jP[k]?=some (jP[k].1,jP[k].2):=List.getElem?_eq_getElem hlt
     obtain ⟨MQ,YO⟩:=hcs k _ _ he
     obtain ⟨hkm,hrd⟩:=R2.out _ _ (List.mem_of_getElem? he)
     generalize jP[k].2=m at he YO hkm hrd
     generalize jP[k].1=s at he MQ hrd
     obtain ⟨a,j,c,rfl,hj,ZX⟩:=hrd.open
     have d1:wr.cell? ⟨g,k*2,none⟩=some (.slice a j c):=cell_later hB MQ
     have d2:wr.cell? ⟨g,k*2+1,none⟩=some (.int .i64 (m:Int)):=cell_later hB YO
     have HB:=aA hB
     have HRS:=aA ZX
     have HO:=aA (fun (W':World) (hw:W'=wr.alloc (.cells #[.slice a j c,.int .i64 (m:Int)] 102))=>(show VT W wr.heap.size (.slice a j c) m W' by
      subst hw
      exact ⟨Below.next hB (aB _ _) hB.size,(Row.new wr [_,_] 102).cell_of rfl,(Row.new wr [_,_] 102).cell_of rfl,by simp⟩))
     clear hB ZX hrd MQ YO hcs he
     go_wp2
     go_loopw [8] (fun i w'=>∃ q:Nat,q≤j∧i = .int .i64 (q:Int)∧VT W wr.heap.size (.slice a j c) m w') (fun i _=>j-(intOf i).toNat)
     case atStart=>exact ⟨0,Nat.zero_le _,rfl,HO.out _ (by first|rfl|simp)⟩
     case round =>
      obtain ⟨q,hq,rfl,hO⟩:=hrel
      have o1:=hO.2.1
      have o2:=hO.2.2.1
      have o3:=hO.2.2.2
      by_cases JX:q<j
      ·obtain ⟨g2,rfl,hg2,hcell⟩:=HRS.out (by omega)
       have xF:(q:Int)<(j:Int):=by omega
       have hq0:(0:Int)≤(q:Int):=by omega
       have e0:wr.cell? ⟨g2,q,none⟩=some (.int .i64 (-1-(m:Int))):=by
        rw [cell_later hO.1 (hcell q (by omega)),iC]
       have JY:=aA hO
       clear hO hcell
       go_wp2
       go_quiet (fail)
       go_wp2
       go_roundw
       case rel=>exact ⟨q+1,by omega,by go_num,JY.out.drewN _⟩
       case measure=>simp [intOf];omega
      ·have xF:¬(q:Int)<(j:Int):=by omega
       have JY:=aA hO
       clear hO
       go_wp2
       go_roundw
       case rel=>exact ⟨k+1,by omega,by go_num,JY.out.1⟩
       case measure=>simp [intOf];omega
    ·have hlt':¬(k:Int)<(jP.length:Int):=by omega
     have HB:=aA hB
     clear hB
     go_wp2
     go_ret
     exact ⟨rfl,HB.out⟩
end Go.Proofs.YtefjhnhdagolhaaGreat
namespace Go.Proofs.YtefjhnhdagolhaaGreat
open Go.RowKit
attribute [local go_sem ↓] Go.wp_at_zero Go.wp_at_succ
theorem nE {P:Program} {fn:Func} {tmps:Array Value} {a a':Tmp} {t t':TypeId} {w:World} {b o b' o':Nat} {cs cs':List Value} {d d':TypeDesc} (hr:fn.results=#[.cell a t,.cell a' t']) (ha:tmps.getD a undef = .pointer (some ⟨b,o,none⟩)) (ha':tmps.getD a' undef = .pointer (some ⟨b',o',none⟩))
  (hc:w.rangeAt b o cs) (FE:w.rangeAt b' o' cs') (hu:P.underlying t=some d) (hd:d.isRow=true) (hi:(P.info? t).map (·.size)=some cs.length) (hu':P.underlying t'=some d') (hd':d'.isRow=true) (hi':(P.info? t').map (·.size)=some cs'.length) :
  (results fn tmps).run P w = .ok (.tuple #[.agg cs.toArray,.agg cs'.toArray]) w:=by
 rw [Array.getD_eq_getD_getElem?] at ha ha'
 unfold results
 simp [hr,ha,ha',asAddr,run_loadVar_mid w b o t cs d hc hu hd hi,run_loadVar_mid w b' o' t' cs' d' FE hu' hd' hi']
end Go.Proofs.YtefjhnhdagolhaaGreat
namespace Go.Proofs.YtefjhnhdagolhaaGreat
open Go.RowKit
theorem qM {P:Program} {ops:Array Oper} {o:Oper} {a:Act} {w:World} {K:Act→World→Prop} {Q:Exit→Act→World→Prop} {E:Prop} (hgd:o.guard=none) (d s:Operand) (dT sT:TypeId)
  (ho:o.op = .call {callee:=.builtin .copy,args:=#[d,s],argTypes:=#[dT,sT]}) (elem:TypeId) (hu:P.underlying dT=some (.slice elem)) (hsz:(P.info? elem).map (·.size)=some 1)
  (b off dLen dCap:Nat) (ad:Addr) (sLen sCap:Nat) (hd:a.eval d = .slice (some ⟨b,off,none⟩) dLen dCap) (hs:a.eval s = .slice (some ad) sLen sCap)
  (cs:List Value) (hn:cs.length=Nat.min sLen dLen) (hsrc:∀ j v,cs[j]?=some v→w.cell? (ad.add j)=some v) (hc:∀ j,j<cs.length→(w.cell? ⟨b,off+j,none⟩).isSome=true) (hf:∀ j,j<cs.length→w.frozen? ⟨b,off+j,none⟩=false) (h1:∀ v∈cs,v.oneCell'=true)
  (h:K (a.put o.dst (goInt cs.length)) (w.setCells b off cs)):if Region.wanted o (yielded ops a.tmps)=true then Oper.wp P o a w K Q else E:=by
 have hw:Region.wanted o (yielded ops a.tmps)=true:=by simp [Region.wanted,hgd]
 rw [if_pos hw]
 have hrun:=run_copy_cells (P:=P) w dT sT o.type elem b off dLen dCap ad sLen sCap cs hu hsz hn hsrc hc hf h1
 unfold Oper.wp
 simp [execOp,ho,resolve,invoke,builtin,hd,hs,hrun,Result.andThen]
 exact h
theorem xG {l:List Value} (h:l.length=1):∃ a,l=[a]:=by
 match l,h with
 |[a],_=>exact ⟨a,rfl⟩
theorem xH {l:List Value} (h:l.length=2):∃ a b,l=[a,b]:=by
 match l,h with
 |[a,b],_=>exact ⟨a,b,rfl⟩
end Go.Proofs.YtefjhnhdagolhaaGreat
namespace Go.Proofs.YtefjhnhdagolhaaGreat
open Go.RowKit
attribute [local go_sem ↓] Go.wp_at_zero Go.wp_at_succ
set_option maxHeartbeats 1000000 in
theorem MX (w:World):Calls Tryz.prog 363 #[] w fun e w'=>e = .returned (.agg #[.int .i64 4,.int .i64 0])∧Below w.heap.size w w':=by
 go_enter Tryz.func363,Tryz.ntmps363
 go_wp2
 exact bodyPost_ret (v:=.agg #[.int .i64 4,.int .i64 0]) (by simp [results,Tryz.results363,go_sem]) rfl ⟨rfl,aB _ _⟩
set_option maxHeartbeats 1000000 in
theorem xI (x:Int) (w:World):Calls Tryz.prog 364 #[.int .i64 x] w fun e w'=>e = .returned (.agg #[.int .i64 1,.int .i64 x])∧Below w.heap.size w w':=by
 go_enter Tryz.func364,Tryz.ntmps364
 go_wp2
 exact bodyPost_ret (v:=.agg #[.int .i64 1,.int .i64 x]) (by simp [results,Tryz.results364,go_sem]) rfl ⟨rfl,aB _ _⟩
end Go.Proofs.YtefjhnhdagolhaaGreat
namespace Go.Proofs.YtefjhnhdagolhaaGreat
open Go.ChangeShapes Go.WideShapes Go.ChangeAt Go.RowKit Go.Joins Go.Deep
theorem aAN {α:Type} {cs:Array α} (h:cs.size=7):∃ c0 c1 c2 c3 c4 c5 c6,cs=#[c0,c1,c2,c3,c4,c5,c6]:=by
 obtain ⟨l⟩:=cs
 match l,h with
 |[c0,c1,c2,c3,c4,c5,c6],_=>exact ⟨c0,c1,c2,c3,c4,c5,c6,rfl⟩
theorem FN:Tryz.prog.cellsOf 26=7:=by kernel_rfl
theorem OT:Tryz.prog.cellsOf 24=4:=by kernel_rfl
theorem xJ:Tryz.prog.cellsOf 3=1:=by kernel_rfl
theorem WW:Tryz.prog.cellsOf 22=1:=by kernel_rfl
section
variable {H:Type} {enc:TypeId×Value→H} {W:World}
theorem MY {fuel:Nat} {c:Value} {y:DataW H×List MemPlace} (h:DataW.trod enc Tryz.prog W 0 (fun _=>true) true fuel 22 [c]=some y):∃ xs:List Int,Sl W c (ints xs)∧sliceLen y.1=xs.length∧∀ x∈xs,(Lit.int .i64 x).wf=true:=by
 rcases open_ints Tryz.underlying22 Tryz.underlying3 xJ h with ⟨hcs,hx⟩|⟨a,len,cap,zs,hcs,-,hl,hm,hz,hx,hcell,hwz⟩
 ·simp at hcs
  subst hcs
  subst hx
  exact ⟨[],Sl.nil W,rfl,by simp⟩
 ·simp at hcs
  subst hcs
  subst hx
  simp only [if_true] at hz
  have hlen:(ints (zs.take len)).length=len:=by simp [ints];omega
  refine ⟨zs.take len,⟨some a,cap,by rw [hlen],by rw [hlen];exact hl,hm,?_⟩,?_,fun x hx=>hwz x (List.mem_of_mem_take hx)⟩
  ·by_cases h0:len=0
   ·left;subst h0;simp [ints]
   ·right
    obtain ⟨b,off,spot⟩:=a
    have SS:spot=none:=by simpa [Addr.add] using World.cell?_spot (hcell 0 (by omega))
    subst SS
    refine ⟨b,off,rfl,fun j x hj=>?_⟩
    have hjl:j<len:=by
     have:=(List.getElem?_eq_some_iff.1 hj).1
     omega
    have h2:=hcell j (by omega)
    rw [fH,List.getElem?_take,if_pos hjl,List.getElem?_eq_getElem (by omega)] at hj
    simp at hj
    subst hj
    rw [List.getD_eq_getElem?_getD,List.getElem?_eq_getElem (by omega)] at h2
    by_cases hj0:j=0
    ·subst hj0
     simpa [Addr.add] using h2
    ·simpa [Addr.add,hj0] using h2
  ·show (lits .i64 (zs.take len)).length=_
   simp [lits]
set_option maxRecDepth 100000 in
theorem FO {base:Nat} {v:Value} {d:DataW H} {p:List MemPlace} (hv:Value.okWide Tryz.prog W .any base 26 v) (h:DataW.Trod enc Tryz.prog W 0 (fun _=>true) true 26 v d p) :
  ∃ (kind th cap st co:Int) (nx ou:List Int) (vn vo:Value) (dn dou:DataW H),v = .agg #[.int .i64 kind,.int .i64 th,.int .i64 cap,.int .i64 st,.int .i64 co,vn,vo]∧Sl W vn (ints nx)∧Sl W vo (ints ou) ∧
   d = .agg [.lit (.int .i64 kind),.lit (.int .i64 th),.lit (.int .i64 cap),.agg [.lit (.int .i64 st),.lit (.int .i64 co),dn,dou]]∧sliceLen dn=nx.length∧sliceLen dou=ou.length ∧
   (∀ x∈[kind,th,cap,st,co]++nx++ou,(Lit.int .i64 x).wf=true):=by
 obtain ⟨cs,rfl,hsz⟩:=okWide_struct Tryz.underlying26 hv
 obtain ⟨c0,c1,c2,c3,c4,c5,c6,rfl⟩:=aAN (hsz.trans FN)
 obtain ⟨fuel,hf⟩:=h
 obtain ⟨y0,y1,y2,y3,m,hx,-,h0,h1,h2,h3⟩:=trod_struct4 Tryz.underlying26 hf
 obtain ⟨z0,z1,z2,z3,m',hx3,-,k0,k1,k2,k3⟩:=trod_struct4 Tryz.underlying24 h3
 simp only [xJ,Value.cells,List.drop_succ_cons,List.drop_zero,List.take_succ_cons,List.take_zero] at h0 h1 h2
 simp only [xJ,WW,OT,Value.cells,List.drop_succ_cons,List.drop_zero,List.take_succ_cons,List.take_zero] at k0 k1 k2 k3
 obtain ⟨kind,e0,rfl,w0⟩:=DataW.trod_int Tryz.underlying3 h0
 obtain ⟨th,e1,rfl,w1⟩:=DataW.trod_int Tryz.underlying3 h1
 obtain ⟨cap,e2,rfl,w2⟩:=DataW.trod_int Tryz.underlying3 h2
 obtain ⟨st,e3,rfl,w3⟩:=DataW.trod_int Tryz.underlying3 k0
 obtain ⟨co,e4,rfl,w4⟩:=DataW.trod_int Tryz.underlying3 k1
 obtain ⟨nx,s1,l1,x1⟩:=MY k2
 obtain ⟨ou,s2,l2,x2⟩:=MY k3
 simp only [List.cons.injEq,and_true] at e0 e1 e2 e3 e4
 subst e0 e1 e2 e3 e4
 simp only [Prod.mk.injEq] at hx
 subst hx3
 refine ⟨kind,th,cap,st,co,nx,ou,c5,c6,z2.1,z3.1,rfl,s1,s2,hx.1,l1,l2,?_⟩
 intro x VU
 simp only [List.mem_append,List.mem_cons,List.not_mem_nil,or_false] at VU
 rcases VU with ((rfl|rfl|rfl|rfl|rfl)|h)|h
 ·exact w0
 ·exact w1
 ·exact w2
 ·exact w3
 ·exact w4
 ·exact x1 x h
 ·exact x2 x h
end
end Go.Proofs.YtefjhnhdagolhaaGreat
