import Derived.Test.YtefjhnhdagolhaaGreatQ38
import Derived.Test.YtefjhnhdagolhaaGreatQ10
import Derived.Test.YtefjhnhdagolhaaGreatQ02
import Derived.Test.YtefjhnhdagolhaaGreatQ11
import Derived.Deep.RegionHeld3
import Derived.Deep.Cut
import Derived.Deep.AppendLies
import Derived.Deep.LoopGhost
import Derived.Deep.OwnRows
set_option maxHeartbeats 8000000
set_option maxRecDepth 20000
namespace Go.Proofs.YtefjhnhdagolhaaGreat
open Go.RowKit
open M (aI aC aD aP bA Dd PI sH)
attribute [local go_sem ↓] Go.wp_at_zero Go.wp_at_succ
section
variable {σ:Type} {P:M.Plain σ} {tell:σ→List Int} {D:DL} {X:(Nat→Prop)→aP→World→Prop} {A:PL} {w0:QW} {w:World} {Y:aP} {ds:List Dd} {c:Nat} {K:Nat} {u:Nat→Option Nat}
theorem PS.aCa (h:PS P X D A w0 K Y ds u c w) {i:Nat} {d:Dd} (hd:ds[i]?=some d):∃ (gd cd:Nat),w.cell? ⟨A.bP,8,none⟩=some (.slice (some ⟨gd,0,none⟩) ds.length cd)∧∀ f v,(wI d)[f]?=some v→w.cell? ⟨gd,i*12+f,none⟩=some v:=by
 obtain ⟨S,vd,vu,vs,hm,hp,-,-⟩:=h
 obtain ⟨gd,cd,rfl,hcs⟩:=hm.deed hd
 exact ⟨gd,cd,hm.row.cell_of rfl,hcs⟩
theorem PS.aHW (h:PS P X D A w0 K Y ds u c w):∃ a cd,w.cell? ⟨A.bP,8,none⟩=some (.slice a ds.length cd):=by
 obtain ⟨S,vd,vu,vs,hm,hp,-,-⟩:=h
 obtain ⟨⟨a,cd,rfl⟩,-⟩:=fJ hm.od
 exact ⟨a,cd,hm.row.cell_of rfl⟩
end
end Go.Proofs.YtefjhnhdagolhaaGreat
namespace Go.Proofs.YtefjhnhdagolhaaGreat
open Go.RowKit
open M (aI aC aD aP bA Dd PI sH Sn)
attribute [local go_sem ↓] Go.wp_at_zero Go.wp_at_succ
theorem aBy:(Tryz.prog.info? 4).map (fun i=>(i.zero,i.size,i.bytes))=some (some (.bool false),1,1):=by kernel_rfl
def aAR (l:List Bool):List Value:=l.map .bool
theorem aBe {l:List Bool} {i:Nat} {x:Bool} (h:l[i]?=some x):(aAR l)[i]?=some (.bool x):=by rw [aAR,List.getElem?_map,h];rfl
theorem aCA (l:List Bool) (i:Nat) (x:Bool):aAR (l.set i x)=(aAR l).set i (.bool x):=by simp [aAR,List.map_set]
theorem aBz (n:Nat):zeros (.bool false) n=aAR (List.replicate n false):=by simp [zeros,aAR]
structure HOk {σ:Type} (P:M.Plain σ) (kd st co:Int) (vn vo:Value) (ok:σ→Prop) (Hp:Nat→Nat→σ→World→Prop):Prop where
 new:∀ b B w,Row w b 132 [.int .i64 kd,.int .i64 st,.int .i64 co,vn,vo,.int .i64 0,.slice none 0 0]→Hp b B P.first w
 stay:∀ b B s w w',Hp b B s w→(∀ k,k<w.heap.size→k=b∨B≤k→w'.heap[k]?=w.heap[k]?)→Hp b B s w'
 does:∀ b B s w (op:M.Op),Hp b B s w→b<B→B≤w.heap.size→ok s→Calls Tryz.prog 72 #[.pointer (some ⟨b,0,none⟩),.agg #[.int .i64 op.c,.int .i64 op.a,.int .i64 op.b]] w fun e w'=>e = .returned (.agg #[.int .i64 (P.apply s op).2.s,.int .i64 (P.apply s op).2.v])∧Hp b B (P.apply s op).1 w'∧Fr (fun k=>k=b∨B≤k) w w'
section
variable {D:DL} {X:(Nat→Prop)→aP→World→Prop} {A:PL} {w0:QW} {w W w' w2:World} {Y:aP} {ds:List Dd} {c:Nat} {nJ nK nL nM nN nO nP K:Nat} {u:Nat→Option Nat} {σ:Type} {P:M.Plain σ} {tell:σ→List Int} {kd st co:Int} {vn vo:Value} {ok:σ→Prop} {Hp:Nat→Nat→σ→World→Prop} {bH bS k pb:Nat} {sn:List Bool} {z z':σ}
structure WJg (P:M.Plain σ) (Hp:Nat→Nat→σ→World→Prop) (Y:aP) (ds:List Dd) (w W:World) (bH bS k pb:Nat) (sn:List Bool) (w':World):Prop where
 po:(k=0∧pb=0)∨∃ k' m,k=k'+1∧Y.order[k']?=some m∧m.b=pb
 pk:pb≤k
 ss:Sn Y ds k sn
 rh:Hp bH W.heap.size (VC P Y k).st w'
 rs:Row w' bS 4 (aAR sn)
 bl:Below w.heap.size w w'
 fr:Fr (fun x=>x=bH∨x=bS) W w'
theorem WJg.drewN (hh:HOk P kd st co vn vo ok Hp) (h:WJg P Hp Y ds w W bH bS k pb sn w') (n:Nat):WJg P Hp Y ds w W bH bS k pb sn (w'.drewN n):=⟨h.po,h.pk,h.ss,hh.stay _ _ _ _ _ h.rh (fun _ _ _=>rfl),h.rs,Below.drewN h.bl n,h.fr.drewN n⟩
structure WKg (Hp:Nat→Nat→σ→World→Prop) (w W:World) (bH bS:Nat) (z:σ) (sn:List Bool) (w':World):Prop where
 rh:Hp bH W.heap.size z w'
 rs:Row w' bS 4 (aAR sn)
 bl:Below w.heap.size w w'
 fr:Fr (fun x=>x=bH∨x=bS) W w'
theorem WKg.drewN (hh:HOk P kd st co vn vo ok Hp) (h:WKg Hp w W bH bS z sn w') (n:Nat):WKg Hp w W bH bS z sn (w'.drewN n):=⟨hh.stay _ _ _ _ _ h.rh (fun _ _ _=>rfl),h.rs,Below.drewN h.bl n,h.fr.drewN n⟩
theorem WKg.later (hh:HOk P kd st co vn vo ok Hp) (h:WKg Hp w W bH bS z sn w') (hb:Below w'.heap.size w' w2):WKg Hp w W bH bS z sn w2:=⟨hh.stay _ _ _ _ _ h.rh (fun k hk _=>hb.block k hk),h.rs.old hb,Below.next h.bl hb h.bl.size,h.fr.trans (Fr.eW hb)⟩
theorem WKg.put (hh:HOk P kd st co vn vo ok Hp) (h:WKg Hp w W bH bS z sn w') (hn:bH≠bS) (hS:w.heap.size≤bS) (hB:bS<W.heap.size) (i:Nat):WKg Hp w W bH bS z (sn.set i true) (w'.setCell ⟨bS,i,none⟩ (.bool true)) :=
 ⟨hh.stay _ _ _ _ _ h.rh (fun k _ hk=>Below.heap_setCell _ _ _ k (show k≠bS by rcases hk with q|q<;>omega)),by rw [aCA];exact h.rs.set i _,h.bl.setCell hS _,h.fr.here (.inr rfl) _ _⟩
theorem WKg.heap (h:WKg Hp w W bH bS z sn w') (hn:bH≠bS) (hH:w.heap.size≤bH) (hB:bS<W.heap.size) (hW:w.heap.size≤W.heap.size) (hr:Hp bH W.heap.size z' w2) (hf:Fr (fun k=>k=bH∨W.heap.size≤k) w' w2):WKg Hp w W bH bS z' sn w2 where
 rh:=hr
 rs:=h.rs.of_block (hf.block _ h.rs.lt (fun q=>by rcases q with q|q<;>omega))
 bl:=⟨hf.os.trans h.bl.os,hf.tape.trans h.bl.tape,hf.output.trans h.bl.output,Nat.le_trans h.bl.size hf.size,fun k hk=>(hf.block k (Nat.lt_of_lt_of_le hk h.bl.size) (fun q=>by rcases q with q|q<;>omega)).trans (h.bl.block k hk)⟩
 fr:=⟨hf.os.trans h.fr.os,hf.tape.trans h.fr.tape,hf.output.trans h.fr.output,Nat.le_trans h.fr.size hf.size,fun k hk hn=>(hf.block k (Nat.lt_of_lt_of_le hk h.fr.size) (fun q=>by rcases q with q|q;exact hn (.inl q);omega)).trans (h.fr.block k hk hn)⟩
theorem aBf (hh:HOk P kd st co vn vo ok Hp) (xo:wH P tell D A.tE A.bN X nJ nK nL nM nN nO nP) (h:PS P X D A w0 K Y ds u c w) (hK:K≤1000000000) (lG:D.n≤64) (hkd:A.kd=kd) (hst:A.st=st) (hco:A.co=co) (hvn:A.vn=vn) (hvo:A.vo=vo) (fn:∃ a l c,vn = .slice a l c) (fo:∃ a l c,vo = .slice a l c) (hok:∀ k,k≤Y.order.length→ok (VC P Y k).st) :
  Calls Tryz.prog 35 #[.pointer (some ⟨A.bP,0,none⟩)] w fun e w'=>e = .returned (.bool true)∧Below w.heap.size w w':=by
 have YN:=aA h
 have HT:=aA hh
 have aKj:=aA hok
 obtain ⟨S,vd,vu,vs,hpm,YQ,aAo,-⟩:=h
 obtain ⟨a1,l1,k1,e1⟩:=fn
 obtain ⟨a2,l2,k2,e2⟩:=fo
 subst e1 e2
 have c0:w.cell? ⟨A.bP,0,none⟩=some (.pointer (some ⟨A.bX,0,none⟩)):=hpm.row.cell_of rfl
 have c1:w.cell? ⟨A.bP,1,none⟩=some (.int .i64 kd):=by rw [←hkd];exact hpm.row.cell_of rfl
 have c4:w.cell? ⟨A.bP,4,none⟩=some (.int .i64 st):=by rw [←hst];exact hpm.row.cell_of rfl
 have c5:w.cell? ⟨A.bP,5,none⟩=some (.int .i64 co):=by rw [←hco];exact hpm.row.cell_of rfl
 have c6:w.cell? ⟨A.bP,6,none⟩=some (.slice a1 l1 k1):=by rw [←hvn];exact hpm.row.cell_of rfl
 have c7:w.cell? ⟨A.bP,7,none⟩=some (.slice a2 l2 k2):=by rw [←hvo];exact hpm.row.cell_of rfl
 have cx:w.cell? ⟨A.bX,0,none⟩=some (.iface A.tE (.pointer (some ⟨A.bN,0,none⟩))):=hpm.obj.cell_of rfl
 have hm:=xo.mOr
 have hc:=xo.cOr
 have HO:=aA (xo.or _ _ _ hpm.x (aAo.mono hK))
 have hdl:ds.length≤64000000000:=Nat.le_trans (YQ.count_le lG (fun t ht=>Nat.le_trans (aAo.1 t ht) hK)) (by omega)
 have HPI:=aA YQ
 have HX:=aA xo
 have HC:=aA (And.intro c1 (And.intro c4 (And.intro c5 (And.intro c6 c7))))
 clear hpm YQ aAo xo hh hok hkd hst hco hvn hvo c1 c4 c5 c6 c7 hK lG
 go_enter Tryz.func35,Tryz.ntmps35
 go_wp2_with fail
 refine HO.out.mono ?_
 rintro e w1 ⟨va,rfl,ho,kS⟩
 obtain ⟨⟨a,cp,rfl⟩,hmx⟩:=fJ ho
 have hml:Y.order.length≤9223372036854775807:=hmx
 have c1:=cell_later kS HC.out.1
 have c4:=cell_later kS HC.out.2.1
 have c5:=cell_later kS HC.out.2.2.1
 have c6:=cell_later kS HC.out.2.2.2.1
 have c7:=cell_later kS HC.out.2.2.2.2
 have MF:=aA kS
 have HOW:=aA ho
 clear ho kS c0 cx hm hc hmx HO HC
 go_upto_region 2 with fail
 go_cut [4] (fun p w'=>p = .pointer (some ⟨w1.heap.size,0,none⟩)∧Below w1.heap.size w1 w'∧Row w' w1.heap.size 132 [.int .i64 kd,.int .i64 st,.int .i64 co,.slice a1 l1 k1,.slice a2 l2 k2,.int .i64 0,.slice none 0 0])
 case first =>
  go_region
  all_goals
   go_wp2
   go_meet
   case rel=>exact ⟨rfl,(Below.drew (Below.refl _ _)).alloc (Nat.le_refl _) _,Row.new' rfl⟩
 case rest =>
  obtain ⟨rfl,aZ,rH⟩:=hcut
  obtain ⟨ad,cd0,e8⟩:=(YN.out.below HX.out (Below.next MF.out aZ MF.out.size)).aHW
  have hmk:=fun w=>oU (P:=Tryz.prog) 133 4 (.bool false) 1 Tryz.underlying133 aBy rfl (ds.length:Int) ds.length rfl (by omega) (by omega) w
  have HR:=aA (And.intro aZ rH)
  clear aZ rH
  go_upto_region 4 with fail
  obtain ⟨aZ,rH⟩:=HR.out
  generalize hW:World.alloc wc _=W
  have hbW:Below wc.heap.size wc W:=by rw [←hW];exact aB wc _
  have rS:Row W wc.heap.size 4 (aAR (List.replicate ds.length false)):=by rw [←hW,←aBz];exact Row.new wc _ _
  have rH1:=rH.old hbW
  have hO:=gI (gI HOW.out aZ) hbW
  have hBW:=Below.next (Below.next MF.out aZ MF.out.size) hbW (Below.next MF.out aZ MF.out.size).size
  have hz1:=MF.out.size
  have EB:=aZ.size
  have hHS:w1.heap.size≠wc.heap.size:=by have:=rH.lt;omega
  have hH0:w.heap.size≤w1.heap.size:=hz1
  have hSB:wc.heap.size<W.heap.size:=rS.lt
  have hHB:w1.heap.size<W.heap.size:=rH1.lt
  have hwW:w.heap.size≤W.heap.size:=hBW.size
  have hS0:w.heap.size≤wc.heap.size:=by omega
  generalize w1.heap.size=bH at *
  generalize wc.heap.size=bS at *
  have HJ0:=aA (show WJg P Hp Y ds w W bH bS 0 0 (List.replicate ds.length false) W from ⟨.inl ⟨rfl,rfl⟩,Nat.le_refl _,Sn.new Y ds,HT.out.new _ _ _ rH1,rS,hBW,Fr.refl _ _⟩)
  have HO2:=aA hO
  have HOA:=aA (show ∀ q,(Value.slice a Y.order.length cp).ownBlock=some q→¬(q=bH∨q=bS) from fun q e hq=>by
   rcases hq with rfl|rfl
   ·exact iV hO rH1 (by decide) e
   ·exact iV hO rS (by decide) e)
  clear HR HOW MF hW hbW rS rH1 rH hO hBW aZ e8 hmk hz1 EB c1 c4 c5 c6 c7
  go_wp2
  go_loopw [6,7] (fun p i w'=>∃ (k pb:Nat) (sn:List Bool),k≤Y.order.length∧i = .int .i64 (k:Int)∧p = .int .i64 (pb:Int)∧WJg P Hp Y ds w W bH bS k pb sn w') (fun _ i _=>Y.order.length-(intOf i).toNat)
  case atStart=>exact ⟨0,0,_,Nat.zero_le _,rfl,rfl,HJ0.out⟩
  case round =>
   clear HJ0
   obtain ⟨k,pb,sn,hk,rfl,rfl,hJ⟩:=hrel
   by_cases hlt:k<Y.order.length
   ·have hlt':(k:Int)<(Y.order.length:Int):=by omega
    have hk0:(0:Int)≤(k:Int):=by omega
    have hmk:Y.order[k]?=some Y.order[k]:=List.getElem?_eq_getElem hlt
    generalize Y.order[k]=m at hmk
    have hOr:wr.ownsRow w.heap.size 81 3 (.slice a Y.order.length cp) Y.order.length (dL Y.order):=bZ HO2.out fun q e=>hJ.fr.block q (HO2.out.lt q e).2 (HOA.out q e)
    obtain ⟨og,oc,q1,m0,m1,m2⟩:=DN hOr hmk
    injection q1 with q1 _ q2
    subst q1 q2
    obtain ⟨i,d,gd,cd,hd,hpl,e8,hcs,-,hcl⟩:=(YN.out.below HX.out hJ.bl).deed hmk
    have hil:i<ds.length:=(List.getElem?_eq_some_iff.mp hd).1
    have aHl:(i:Int)<(ds.length:Int):=by omega
    have hi0:(0:Int)≤(i:Int):=by omega
    have hin:decide ((i:Int)<0)=false:=decide_eq_false (by omega)
    have SJ:=aA hcl
    have HE8:=aA e8
    have HCS:=aA hcs
    have HOR:=aA hOr
    have HJ:=aA hJ
    clear hcl hcs hJ hOr e8
    go_wp2_with fail
    refine SJ.out.mono ?_
    rintro e w2 ⟨rfl,aZ⟩
    have s0:w2.cell? ⟨bS,i,none⟩=some (.bool false):=cell_later aZ (HJ.out.rs.cell_of (aBe (HJ.out.ss.not hd hpl)))
    have f0:=(HJ.out.rs.old aZ).frozen i
    have QX:=aA aZ
    clear aZ SJ m0 m1 m2
    go_upto_region 12 with fail
    have hK5:=((WKg.mk HJ.out.rh HJ.out.rs HJ.out.bl HJ.out.fr).later HT.out QX.out).put HT.out hHS hS0 hSB i
    generalize World.setCell w2 _ _=W5 at *
    have HK5:=aA hK5
    have JY:=aA (show m.b=pb+1∨(m.b=pb∧∃ (k':Nat) (m':M.Mark),k=k'+1∧Y.order[k']?=some m'∧m'.t<m.t) by
     rcases HJ.out.po with ⟨q1,q2⟩|⟨k',m',q1,q2,q3⟩
     ·subst q1
      exact .inl (by rw [M.aA8 HPI.out.bo hmk,q2])
     ·subst q1
      rcases M.aBx HPI.out.bo q2 hmk with q|q
      ·exact .inl (by omega)
      ·exact .inr ⟨by omega,k',m',rfl,q2,q.2⟩)
    have hO5:W5.ownsRow w.heap.size 81 3 (.slice (some ⟨og,0,none⟩) Y.order.length cp) Y.order.length (dL Y.order):=bZ HO2.out fun q e=>hK5.fr.block q (HO2.out.lt q e).2 (HOA.out q e)
    obtain ⟨og',oc',q1,m0,m1,-⟩:=DN hO5 hmk
    injection q1 with q1 _ q9
    injection q1 with q1
    injection q1 with q1 _ _
    subst q1 q9
    have hpk:=HJ.out.pk
    have HPK:=aA hpk
    have hw1:IntKind.i64.wrap ((pb:Int)+1)=(pb:Int)+1:=dP _ (by omega) (by omega)
    have HO5:=aA hO5
    clear hK5 hO5 s0 f0 HE8 HCS HOR hpk
    rcases JY.out with hA|⟨hA,k',m',hkk,hm',htt⟩
    case' inl =>
     have HA:=aA hA
     rw [hA] at m0
     replace m0:W5.cell? ⟨og,k*3,none⟩=some (.int .i64 ((pb:Int)+1)):=m0
     have hA2:((pb:Int)+1 == (pb:Int))=false:=by simp;omega
     clear hA
     go_upto_region 13 with fail
     go_quiet (fail)
     go_upto_region 17 with fail
    case' inr =>
     obtain ⟨og',oc',q1,-,m1',-⟩:=DN HO5.out hm'
     injection q1 with q1 _ q9
     injection q1 with q1
     injection q1 with q1 _ _
     subst q1 q9
     have HA:=aA hA
     rw [hA] at m0
     have hB1:((pb:Int) == (pb:Int)+1)=false:=by simp;omega
     have UM:(0:Int)<(k:Int):=by omega
     have hk2:(0<k)=True:=eq_true (by omega)
     have hwk:IntKind.i64.wrap ((k:Int)-1)=(k':Int):=by rw [dP _ (by omega) (by omega)];omega
     have aOV:(0:Int)≤(k':Int):=by omega
     have aOW:(k':Int)<(Y.order.length:Int):=by omega
     have aOX:(m'.t:Int)<(m.t:Int):=by omega
     have aOY:(m'.t<m.t)=True:=eq_true htt
     have HKK:=aA hkk
     clear hA hkk htt
     go_upto_region 13 with fail
     go_quiet (fail)
     go_upto_region 17 with fail
    all_goals
     generalize QM:World.drewN W5 _=W6
     have hK6:WKg Hp w W bH bS (VC P Y k).st (sn.set i true) W6:=by rw [←QM];exact HK5.out.drewN HT.out _
     obtain ⟨ge,ce,e8,hcs⟩:=(YN.out.below HX.out hK6.bl).aCa hd
     have o0:W6.cell? ⟨ge,i*12,none⟩=some (.int .i64 d.op.c):=hcs 0 _ rfl
     have o1:W6.cell? ⟨ge,i*12+1,none⟩=some (.int .i64 d.op.a):=hcs 1 _ rfl
     have o2:W6.cell? ⟨ge,i*12+2,none⟩=some (.int .i64 d.op.b):=hcs 2 _ rfl
     have HH:=aA (HT.out.does _ _ _ _ d.op hK6.rh hHB hK6.fr.size (aKj.out k (by omega)))
     have HK6:=aA hK6
     clear hK6 hcs QM HK5 HO5 JY m0 m1 QX
     try clear m1'
     go_wp2_with fail
     refine HH.out.mono ?_
     rintro e w7 ⟨rfl,rh7,fr7⟩
     have HK7:=aA (HK6.out.heap hHS hH0 hSB hwW rh7 fr7)
     clear rh7 fr7 HK6 HH e8 o0 o1 o2
     go_upto_region 18 with fail
     generalize hA8:World.alloc w7 _=W8
     have b8:Below w7.heap.size w7 W8:=by rw [←hA8];exact aB _ _
     have r8:Row W8 w7.heap.size 94 [.int .i64 (P.apply (VC P Y k).st d.op).2.s,.int .i64 (P.apply (VC P Y k).st d.op).2.v]:=by rw [←hA8];exact Row.new' rfl
     have hK8:=HK7.out.later HT.out b8
     obtain ⟨gf,cf,e8,hcs⟩:=(YN.out.below HX.out hK8.bl).aCa hd
     have j7:=hcs 7 _ rfl
     have j10:=hcs 10 _ rfl
     have j11:=hcs 11 _ rfl
     have x0:=r8.cell_of (i:=0) rfl
     have x1:=r8.cell_of (i:=1) rfl
     obtain ⟨QG,FH⟩:=aBT HPI.out hd hpl
     have HF:=aA (show WJg P Hp Y ds w W bH bS (k+1) m.b (sn.set i true) W8 from ⟨.inr ⟨k,m,rfl,hmk,rfl⟩,by have:=HA.out;have:=HPK.out;omega,HJ.out.ss.put HPI.out hd hpl,by rw [QG];exact hK8.rh,hK8.rs,hK8.bl,hK8.fr⟩)
     have HPB:=aA HA.out
     clear hA8 b8 r8 hK8 HK7 hcs QG HJ
     generalize (P.apply (VC P Y k).st d.op).2=an at *
     by_cases JW:0<d.en
     ·have IY:(0:Int)<(d.en:Int):=by omega
      have aE7:(0<d.en)=True:=eq_true JW
      rw [FH JW] at j10 j11
      clear FH
      go_quiet (fail)
      go_wp2
      go_roundw
      case rel=>exact ⟨k+1,m.b,_,by omega,by go_num,by have:=HPB.out;congr 1;omega,HF.out.drewN HT.out _⟩
      case measure=>simp [intOf];omega
     ·have aE7:(0<d.en)=False:=eq_false JW
      have IY:decide ((0:Int)<(d.en:Int))=false:=decide_eq_false (by omega)
      clear FH
      go_quiet (fail)
      go_wp2
      go_roundw
      case rel=>exact ⟨k+1,m.b,_,by omega,by go_num,by have:=HPB.out;congr 1;omega,HF.out.drewN HT.out _⟩
      case measure=>simp [intOf];omega
   ·have hlt':¬(k:Int)<(Y.order.length:Int):=by omega
    obtain rfl:k=Y.order.length:=by omega
    have HJ:=aA hJ
    clear hJ
    go_wp2
    go_loopw [12] (fun i w'=>∃ q:Nat,q≤ds.length∧i = .int .i64 (q:Int)∧Below wr.heap.size wr w') (fun i _=>ds.length-(intOf i).toNat)
    case atStart=>exact ⟨0,Nat.zero_le _,rfl,Below.refl _ _⟩
    case round =>
     rename_i w9
     obtain ⟨q,hq,rfl,hbq⟩:=hrel
     have hB:=Below.next HJ.out.bl hbq HJ.out.bl.size
     by_cases hqt:q<ds.length
     ·have aE8:(q:Int)<(ds.length:Int):=by omega
      have hq0:(0:Int)≤(q:Int):=by omega
      have hd:ds[q]?=some ds[q]:=List.getElem?_eq_getElem hqt
      generalize ds[q]=d at hd
      obtain ⟨gf,cf,e8,hcs⟩:=(YN.out.below HX.out hB).aCa hd
      have j7:=hcs 7 _ rfl
      have HBQ:=aA hbq
      by_cases JW:0<d.en
      ·have IY:(0:Int)<(d.en:Int):=by omega
       have aE7:(0<d.en)=True:=eq_true JW
       have s0:=cell_later hbq (HJ.out.rs.cell_of (aBe (HJ.out.ss.all HPI.out hd JW)))
       clear hB hbq hcs hd
       go_wp2
       go_roundw
       case rel=>exact ⟨q+1,by omega,by go_num,HBQ.out⟩
       case measure=>simp [intOf];omega
      ·have aE7:(0<d.en)=False:=eq_false JW
       have IY:decide ((0:Int)<(d.en:Int))=false:=decide_eq_false (by omega)
       clear hB hbq hcs hd
       go_wp2
       go_roundw
       case rel=>exact ⟨q+1,by omega,by go_num,HBQ.out⟩
       case measure=>simp [intOf];omega
     ·have aE8:¬(q:Int)<(ds.length:Int):=by omega
      obtain ⟨ah,ch,e8⟩:=(YN.out.below HX.out hB).aHW
      have HB:=aA hB
      clear hB hbq
      go_wp2
      go_ret
      exact ⟨rfl,HB.out⟩
end
end Go.Proofs.YtefjhnhdagolhaaGreat
namespace Go.Proofs.YtefjhnhdagolhaaGreat
open Go.RowKit
attribute [local go_sem ↓] Go.wp_at_zero Go.wp_at_succ
section
variable {st co s a b2:Int} {s1 s2 vl:Value} {b:Nat} {w:World}
theorem aBV (hR:Row w b 132 [.int .i64 1,.int .i64 st,.int .i64 co,s1,s2,.int .i64 s,vl]) :
  Calls Tryz.prog 72 #[.pointer (some ⟨b,0,none⟩),.agg #[.int .i64 1,.int .i64 a,.int .i64 b2]] w fun e w'=>e = .returned (.agg #[.int .i64 1,.int .i64 (wrap64 (s+a))])∧Row w' b 132 [.int .i64 1,.int .i64 st,.int .i64 co,s1,s2,.int .i64 (wrap64 (s+a)),vl]∧Fr (fun k=>k=b) w w':=by
 have c0:=hR.cell_of (i:=0) rfl
 have c5:=hR.cell_of (i:=5) rfl
 go_enter Tryz.func72,Tryz.ntmps72
 go_upto_region 1 with fail
 generalize hW:World.alloc (World.alloc w _) _=W
 have hb:Below w.heap.size w W:=by rw [←hW];exact ((Below.refl _ _).alloc (Nat.le_refl _) _).alloc (by simp) _
 have r0:Row W w.heap.size 36 [.int .i64 1,.int .i64 a,.int .i64 b2]:=by rw [←hW];exact (Row.new' rfl).alloc _
 have r1:Row W (w.heap.size+1) 94 [.int .i64 0,.int .i64 0]:=by rw [←hW];exact Row.new' (by simp)
 have hzW:w.heap.size+1<W.heap.size:=r1.lt
 have d0:=cell_later hb c0
 have d5:=cell_later hb c5
 have df:=(hR.old hb).frozen 5
 have x0:=r0.cell_of (i:=0) rfl
 have x1:=r0.cell_of (i:=1) rfl
 have HR0:=aA r0
 have CG:=aA r1
 have HB:=aA hb
 have TP:b<w.heap.size:=hR.lt
 have HRb:=aA (hR.old hb)
 clear hW hR c0 c5 r0 r1 hb
 go_upto_region 5 with fail
 go_region
 have HS:=aA (show Fr (fun k=>k=b) w (W.setCell ⟨b,5,none⟩ (.int .i64 (wrap64 (s+a)))).drew from ((Fr.eW (own:=fun k=>k=b) HB.out).here (b:=b) rfl 5 _).drew)
 have hrb:Row (W.setCell ⟨b,5,none⟩ (.int .i64 (wrap64 (s+a)))).drew b 132 [.int .i64 1,.int .i64 st,.int .i64 co,s1,s2,.int .i64 (wrap64 (s+a)),vl]:=HRb.out.set 5 _
 have QF:Row (W.setCell ⟨b,5,none⟩ (.int .i64 (wrap64 (s+a)))).drew w.heap.size 36 [.int .i64 1,.int .i64 a,.int .i64 b2]:=HR0.out.setOther (show w.heap.size≠b by omega) _
 have FH:Row (W.setCell ⟨b,5,none⟩ (.int .i64 (wrap64 (s+a)))).drew (w.heap.size+1) 94 [.int .i64 0,.int .i64 0]:=CG.out.setOther (show w.heap.size+1≠b by omega) _
 generalize (W.setCell ⟨b,5,none⟩ (.int .i64 (wrap64 (s+a)))).drew=W2 at *
 have e5:=hrb.cell_of (i:=5) rfl
 have o0:=QF.cell_of (i:=0) rfl
 have HRB:=aA hrb
 have y0:=FH.cell_of (i:=0) rfl
 have y1:=FH.cell_of (i:=1) rfl
 have z0:=FH.frozen 0
 have z1:=FH.frozen 1
 have IC:=aA (FH.set 0 (.int .i64 1) |>.set 1 (.int .i64 (wrap64 (s+a))))
 clear hrb QF FH CG HR0 d0 d5 df x0 x1 HRb
 go_wp2_with fail
 have q1:=IC.out.cell_of (i:=0) rfl
 have q2:=IC.out.cell_of (i:=1) rfl
 refine bodyPost_ret (v:=.agg #[.int .i64 1,.int .i64 (wrap64 (s+a))]) (by simp [results,Tryz.results72,go_sem,q1,q2]) rfl ⟨rfl,?_,?_⟩
 ·exact (HRB.out.setOther (show b≠w.heap.size+1 by omega) _).setOther (show b≠w.heap.size+1 by omega) _
 ·refine HS.out.grow (own':=fun k=>k=w.heap.size+1) (((Fr.refl (fun k=>k=w.heap.size+1) _).here (b:=w.heap.size+1) rfl _ _).here (b:=w.heap.size+1) rfl _ _) (fun k hk=>.inr (by omega))
theorem aBW (hR:Row w b 132 [.int .i64 1,.int .i64 st,.int .i64 co,s1,s2,.int .i64 s,vl]) :
  Calls Tryz.prog 72 #[.pointer (some ⟨b,0,none⟩),.agg #[.int .i64 2,.int .i64 a,.int .i64 b2]] w fun e w'=>e = .returned (.agg #[.int .i64 1,.int .i64 s])∧Below w.heap.size w w':=by
 have c0:=hR.cell_of (i:=0) rfl
 have c5:=hR.cell_of (i:=5) rfl
 go_enter Tryz.func72,Tryz.ntmps72
 go_upto_region 1 with fail
 generalize hW:World.alloc (World.alloc w _) _=W
 have hb:Below w.heap.size w W:=by rw [←hW];exact ((Below.refl _ _).alloc (Nat.le_refl _) _).alloc (by simp) _
 have r0:Row W w.heap.size 36 [.int .i64 2,.int .i64 a,.int .i64 b2]:=by rw [←hW];exact (Row.new' rfl).alloc _
 have r1:Row W (w.heap.size+1) 94 [.int .i64 0,.int .i64 0]:=by rw [←hW];exact Row.new' (by simp)
 have d0:=cell_later hb c0
 have d5:=cell_later hb c5
 have x0:=r0.cell_of (i:=0) rfl
 have y0:=r1.cell_of (i:=0) rfl
 have y1:=r1.cell_of (i:=1) rfl
 have z0:=r1.frozen 0
 have z1:=r1.frozen 1
 have IC:=aA (r1.set 0 (.int .i64 1) |>.set 1 (.int .i64 s))
 have HB:=aA hb
 clear hW hR c0 c5 r0 r1 hb
 go_wp2_with fail
 have q1:=IC.out.cell_of (i:=0) rfl
 have q2:=IC.out.cell_of (i:=1) rfl
 exact bodyPost_ret (v:=.agg #[.int .i64 1,.int .i64 s]) (by simp [results,Tryz.results72,go_sem,q1,q2]) rfl ⟨rfl,(HB.out.setCell (by simp) _).setCell (by simp) _⟩
theorem aB7 (k:Int) (h1:k≠1) (h2:k≠2) (hR:Row w b 132 [.int .i64 1,.int .i64 st,.int .i64 co,s1,s2,.int .i64 s,vl]) :
  Calls Tryz.prog 72 #[.pointer (some ⟨b,0,none⟩),.agg #[.int .i64 k,.int .i64 a,.int .i64 b2]] w fun e w'=>e = .returned (.agg #[.int .i64 4,.int .i64 0])∧Below w.heap.size w w':=by
 have c0:=hR.cell_of (i:=0) rfl
 have g1:(k == 1)=false:=by simpa using h1
 have g2:(k == 2)=false:=by simpa using h2
 go_enter Tryz.func72,Tryz.ntmps72
 go_upto_region 1 with fail
 generalize hW:World.alloc (World.alloc w _) _=W
 have hb:Below w.heap.size w W:=by rw [←hW];exact ((Below.refl _ _).alloc (Nat.le_refl _) _).alloc (by simp) _
 have r0:Row W w.heap.size 36 [.int .i64 k,.int .i64 a,.int .i64 b2]:=by rw [←hW];exact (Row.new' rfl).alloc _
 have r1:Row W (w.heap.size+1) 94 [.int .i64 0,.int .i64 0]:=by rw [←hW];exact Row.new' (by simp)
 have d0:=cell_later hb c0
 have x0:=r0.cell_of (i:=0) rfl
 have y0:=r1.cell_of (i:=0) rfl
 have y1:=r1.cell_of (i:=1) rfl
 have z0:=r1.frozen 0
 have z1:=r1.frozen 1
 have IC:=aA (r1.set 0 (.int .i64 4) |>.set 1 (.int .i64 0))
 have HB:=aA hb
 clear hW hR c0 r0 r1 hb
 go_wp2_with fail
 have q1:=IC.out.cell_of (i:=0) rfl
 have q2:=IC.out.cell_of (i:=1) rfl
 exact bodyPost_ret (v:=.agg #[.int .i64 4,.int .i64 0]) (by simp [results,Tryz.results72,go_sem,q1,q2]) rfl ⟨rfl,(HB.out.setCell (by simp) _).setCell (by simp) _⟩
end
def HpC (st co:Int) (vn vo:Value) (b _B:Nat) (s:Int) (w:World):Prop:=Row w b 132 [.int .i64 1,.int .i64 st,.int .i64 co,vn,vo,.int .i64 s,.slice none 0 0]
theorem aCC (st co:Int) (vn vo:Value):HOk wX 1 st co vn vo (fun _=>True) (HpC st co vn vo) where
 new _ _ _ h:=h
 stay b B s w w' h hk:=Row.of_block h (hk b (Row.lt h) (.inl rfl))
 does b B s w op h hB _ _:=by
  have e:wX.apply s op=if op.c=1 then (wrap64 (s+op.a),⟨1,wrap64 (s+op.a)⟩) else if op.c=2 then (s,⟨1,s⟩) else (s,⟨4,0⟩):=rfl
  have hfr:∀ {w':World},Fr (fun k=>k=b) w w'→Fr (fun k=>k=b∨B≤k) w w':=fun h=>⟨h.os,h.tape,h.output,h.size,fun k hk hn=>h.block k hk (fun q=>hn (.inl q))⟩
  by_cases h1:op.c=1
  ·rw [e,if_pos h1,h1]
   exact (aBV h).mono fun _ _ ⟨q1,q2,q3⟩=>⟨q1,q2,hfr q3⟩
  ·by_cases h2:op.c=2
   ·rw [e,if_neg h1,if_pos h2,h2]
    exact (aBW h).mono fun _ _ ⟨q1,q2⟩=>⟨q1,Row.old h q2,Fr.eW q2⟩
   ·rw [e,if_neg h1,if_neg h2]
    exact (aB7 op.c h1 h2 h).mono fun _ _ ⟨q1,q2⟩=>⟨q1,Row.old h q2,Fr.eW q2⟩
def iY (I:Nat→Prop) (w:World):List Int→Option Addr→Prop
 |[],p=>p=none
 |x::s,p=>∃ b p',p=some ⟨b,0,none⟩∧I b∧Row w b 370 [.int .i64 x,.pointer p',.int .i64 ((s.length+1:Nat):Int)]∧iY I w s p'
theorem iY.stay {I I':Nat→Prop} {w w':World} (hk:∀ k,I k→k<w.heap.size→I' k∧w'.heap[k]?=w.heap[k]?):∀ {s:List Int} {p:Option Addr},iY I w s p→iY I' w' s p
 |[],_,q=>q
 |x::s,_,q=>by
  obtain ⟨b,p',h1,h2,h3,h4⟩:=q
  have:=hk b h2 h3.lt
  exact ⟨b,p',h1,this.1,h3.of_block this.2,h4.stay hk⟩
def KB (I:Nat→Prop) (B:Nat) (w:World):Nat→Prop:=fun k=>I k∨(B≤k∧k<w.heap.size)
theorem KB.later {I:Nat→Prop} {B:Nat} {w w':World} (hb:Below w.heap.size w w') (k:Nat) (hk:KB I B w k) (hl:k<w.heap.size):KB I B w' k∧w'.heap[k]?=w.heap[k]? :=
 ⟨by
  rcases hk with hk|hk
  ·exact .inl hk
  ·exact .inr ⟨hk.1,Nat.lt_of_lt_of_le hk.2 hb.size⟩,hb.block k hl⟩
section
variable {I:Nat→Prop} {B:Nat} {w:World} {p:Option Addr} {s:List Int} {x:Int}
theorem iY.later {w':World} (q:iY (KB I B w) w s p) (hb:Below w.heap.size w w'):iY (KB I B w') w' s p:=q.stay (KB.later hb)
theorem DT (q:iY I w s p):Calls Tryz.prog 182 #[.pointer p] w fun e w'=>e = .returned (.int .i64 (s.length:Int))∧w'=w:=by
 cases s with
 |nil =>
  have q:p=none:=q
  subst q
  go_enter Tryz.func182,Tryz.ntmps182
  go_wp2
  go_ret
  exact ⟨rfl,rfl⟩
 |cons y s =>
  obtain ⟨b,p',rfl,-,hR,-⟩:=q
  have HL:=aA (show (List.length (y::s):Int)=((s.length+1:Nat):Int) by simp)
  rw [HL.out]
  generalize s.length+1=n at *
  have c2:=hR.cell_of (i:=2) rfl
  clear hR
  go_enter Tryz.func182,Tryz.ntmps182
  go_wp2
  go_ret
  exact ⟨rfl,rfl⟩
theorem OT (q:iY (KB I B w) w s p) (hB:B≤w.heap.size) (hz:s.length≤2000000000000) :
  Calls Tryz.prog 367 #[.pointer p,.int .i64 x] w fun e w'=>∃ b,e = .returned (.pointer (some ⟨b,0,none⟩))∧iY (KB I B w') w' (x::s) (some ⟨b,0,none⟩)∧Below w.heap.size w w':=by
 have hw:IntKind.i64.wrap ((s.length:Int)+1)=(s.length:Int)+1:=dP _ (by omega) (by omega)
 have HQ:=aA q
 clear q
 go_enter Tryz.func367,Tryz.ntmps367
 go_wp2_with fail
 refine (DT HQ.out).mono ?_
 rintro e w2 ⟨rfl,rfl⟩
 go_wp2_with fail
 go_ret
 refine ⟨_,rfl,⟨_,p,rfl,.inr ⟨hB,by simp⟩,Row.new' (by simp),HQ.out.later (aB _ _)⟩,aB _ _⟩
theorem DU (q:iY (KB I B w) w s p) (hB:B≤w.heap.size) (hz:s.length≤1000000000000) :
  Calls Tryz.prog 372 #[.pointer p] w fun e w'=>∃ p',e = .returned (.pointer p')∧iY (KB I B w') w' s.reverse p'∧Below w.heap.size w w':=by
 have HQ:=aA q
 clear q
 go_enter Tryz.func372,Tryz.ntmps372
 go_wp2
 go_loopg [0,3] s.length (fun g v t w'=>∃ a c p1 p2,s=a++c∧c.length=g∧v = .pointer p1∧t = .pointer p2∧iY (KB I B w') w' c p1∧iY (KB I B w') w' a.reverse p2∧Below w.heap.size w w')
 case atStart=>exact ⟨[],s,p,none,rfl,rfl,rfl,rfl,HQ.out,rfl,Below.refl _ _⟩
 case round =>
  obtain ⟨a,c,p1,p2,hs,hg,rfl,rfl,h1,h2,hb⟩:=hrel
  have HS:=aA hs
  have HB:=aA hb
  have hzw:=hb.size
  have H2:=aA h2
  have hal:a.length+c.length≤1000000000000:=by rw [hs,List.length_append] at hz;exact hz
  clear hb hs h2
  cases c with
  |nil =>
   have h1:p1=none:=h1
   subst h1
   clear hg
   go_wp2
   go_ret
   exact ⟨p2,rfl,by rw [HS.out,List.append_nil];exact H2.out,HB.out⟩
  |cons y c =>
   obtain ⟨b1,p1',rfl,-,hR,h3⟩:=h1
   have c0:=hR.cell_of (i:=0) rfl
   have H3:=aA h3
   have HR:=aA hR
   simp only [List.length_cons] at hal
   clear hR h3
   go_wp2_with fail
   refine (OT (x:=y) H2.out (by omega) (by rw [List.length_reverse];omega)).mono ?_
   rintro e w2 ⟨b2,rfl,t2,aZ⟩
   have c1:=(HR.out.old aZ).cell_of (i:=1) rfl
   have HT:=aA t2
   have QX:=aA aZ
   clear t2 aZ c0
   go_wp2
   go_roundg (gk-1)
   case measure=>simp at hg;omega
   case rel=>exact ⟨a++[y],c,p1',_,by rw [HS.out];simp,by simp at hg;omega,rfl,rfl,H3.out.later QX.out,by rw [List.reverse_append];exact HT.out,Below.next HB.out QX.out HB.out.size⟩
end
theorem EV {P:Program} (t e:TypeId) (z:Value) (bytes:Nat) (ht:P.underlying t=some (.slice e)) (hinfo:(P.info? e).map (fun i=>(i.zero,i.size,i.bytes))=some (some z,1,bytes)) (hz1:z.cells=#[z])
  (n:Nat) (hbytes:bytes*n≤281474976710656) (h63:n≤9223372036854775807) (w:World) :
  (Instr.makeSlice t (.int .i64 0) (.int .i64 (n:Int))).run P w = .ok (.slice (some ⟨w.heap.size,0,none⟩) 0 n) (w.alloc (.cells (zeros z n).toArray e)):=by
 obtain ⟨i,hi,hzz⟩:=Option.map_eq_some_iff.1 hinfo
 simp only [Prod.mk.injEq] at hzz
 obtain ⟨hz,hs,hb⟩:=hzz
 have hb':(i.bytes:Int)*(n:Int)≤281474976710656:=by
  have h:((i.bytes*n:Nat):Int)≤281474976710656:=by rw [hb];omega
  rwa [Int.natCast_mul] at h
 have hr:=run_make (P:=P) w t e i z ht hi hz .i64 .i64 0 n (by omega) (by omega) hb' (by omega)
 simp only [Int.toNat_natCast,hs,Nat.mul_one,hz1,Int.toNat_zero] at hr
 rw [hr,sZ]
section
variable {I:Nat→Prop} {w:World} {p:Option Addr} {s:List Int}
theorem DV (q:iY I w s p) (hz:s.length≤1000000000000) :
  Calls Tryz.prog 369 #[.pointer p] w fun e w'=>∃ v,e = .returned v∧w'.ownsRow w.heap.size 3 1 v s.length (ints s)∧Below w.heap.size w w':=by
 obtain ⟨ti,EC,zX⟩:=Option.map_eq_some_iff.1 kF
 simp only [Prod.mk.injEq] at zX
 obtain ⟨tM,tN,tP⟩:=zX
 have zY:=aA EC
 have XE:=aA tM
 have yG:=aA tN
 have tD:=aA tP
 clear EC tM tN tP
 have hmk:=EV (P:=Tryz.prog) 22 3 (.int .i64 0) 8 Tryz.underlying22 kF rfl s.length (by omega) (by omega)
 have HQ:=aA q
 clear q
 go_enter Tryz.func369,Tryz.ntmps369
 go_wp2_with fail
 refine (DT HQ.out).mono ?_
 rintro e w2 ⟨rfl,rfl⟩
 go_wp2
 generalize hW:World.alloc w2 _=W
 have hb0:Below w2.heap.size w2 W:=by rw [←hW];exact aB _ _
 have HO:=aA (show W.ownsRow w2.heap.size 3 1 (.slice (some ⟨w2.heap.size,0,none⟩) 0 s.length) 0 (ints []) by
  rw [←hW]
  refine ⟨rfl,.inr ⟨w2.heap.size,s.length,(zeros (.int .i64 0) s.length).toArray,rfl,Nat.le_refl _,?_,Nat.zero_le _,?_,?_,?_⟩⟩
  ·exact Row.new' rfl
  ·unfold maxLen;omega
  ·simp [zeros]
  ·simp [ints])
 have HQ2:=aA (show iY (fun k=>k<w2.heap.size∧I k) W s p from HQ.out.stay fun k hk hl=>⟨⟨hl,hk⟩,hb0.block k hl⟩)
 have HB:=aA hb0
 clear hW hb0 hmk HQ
 go_loopg [0,3] s.length (fun g v o w'=>∃ a c p1,s=a++c∧c.length=g∧v = .pointer p1∧iY (fun k=>k<w2.heap.size∧I k) w' c p1∧w'.ownsRow w2.heap.size 3 1 o a.length (ints a)∧Below w2.heap.size w2 w')
 case atStart=>exact ⟨[],s,p,rfl,rfl,rfl,HQ2.out,HO.out,HB.out⟩
 case round =>
  obtain ⟨a,c,p1,hs,hg,rfl,h1,ho,hb⟩:=hrel
  have HS:=aA hs
  have IX:=aA hb
  have hzw:=hb.size
  have HOR:=aA ho
  have hal:a.length+c.length≤1000000000000:=by rw [hs,List.length_append] at hz;exact hz
  clear hb hs ho
  cases c with
  |nil =>
   have h1:p1=none:=h1
   subst h1
   clear hg
   go_wp2
   go_ret
   exact ⟨_,rfl,by rw [HS.out,List.append_nil];exact HOR.out,IX.out⟩
  |cons y c =>
   obtain ⟨b1,p1',rfl,XI,hR,h3⟩:=h1
   have c0:=hR.cell_of (i:=0) rfl
   have c1:=hR.cell_of (i:=1) rfl
   have H3:=aA h3
   have kS:=XI.1
   simp only [List.length_cons] at hal
   clear hR h3 XI
   go_wp2_with (at_builtin;refine wpList_append_lies _ rfl (.tmp 13) (.tmp 18) 22 rfl w2.heap.size 3 ti (.int .i64 0) 1 8 Tryz.underlying22 zY.out XE.out yG.out tD.out rfl (by decide) u3 a.length (ints a) rfl (HOR.out.alloc _) ⟨wr.heap.size,0,none⟩ 1 1 [.int .i64 y] rfl rfl ?_ (by simp [Value.oneCell']) (by decide) (by unfold maxLen;omega) (by omega) ?_ (wr.heap.size+1) (by simp) ?_)
   ·exact World.news_of_block (Row.new wr _ _)
   ·simp;omega
   ·intro g4 SP w4 hown mR hat tF
    have hvn:∀ q,q<w2.heap.size→some q≠u3.ownBlock:=fun q hq e=>by have:=(HOR.out.lt q e.symm).1;omega
    have c4:w4.cell? ⟨b1,1,none⟩=some (.pointer p1'):=mR.cell (cell_later (aB _ _) c1) (hvn _ kS)
    have XJ:=aA (show Below w2.heap.size w2 w4 from (Below.next IX.out (aB wr _) hzw).grown mR (by simp;omega) (fun q hq=>(HOR.out.lt q hq).1))
    have QS:=aA (show w4.ownsRow w2.heap.size 3 1 (.slice (some ⟨g4,0,none⟩) (a.length+1) SP) (a++[y]).length (ints (a++[y])) by
     rw [List.length_append]
     have e3:ints (a++[y])=ints a++[.int .i64 y]:=by simp [ints]
     rw [e3]
     exact hown)
    have H4:=aA (show iY (fun k=>k<w2.heap.size∧I k) w4 c p1' from H3.out.stay fun k hk hl=>⟨hk,(mR.block k (by simp;omega) (hvn k hk.1)).trans ((aB wr _).block k hl)⟩)
    clear hown mR hat tF c0 c1
    go_wp2
    go_roundg (gk-1)
    case measure=>simp at hg;omega
    case rel=>exact ⟨a++[y],c,p1',by rw [HS.out];simp,by simp at hg;omega,rfl,H4.out,QS.out,XJ.out⟩
end
end Go.Proofs.YtefjhnhdagolhaaGreat
