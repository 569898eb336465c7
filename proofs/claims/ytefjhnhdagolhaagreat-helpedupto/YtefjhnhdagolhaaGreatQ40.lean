import Derived.Test.YtefjhnhdagolhaaGreatQ38
import Derived.Test.YtefjhnhdagolhaaGreatQ39
import Derived.Test.YtefjhnhdagolhaaGreatQ34
import Derived.Test.YtefjhnhdagolhaaGreatQ14
import Derived.Test.YtefjhnhdagolhaaGreatQ28
import Derived.Test.YtefjhnhdagolhaaGreatQ10
import Derived.Test.YtefjhnhdagolhaaGreatQ02
import Derived.Test.YtefjhnhdagolhaaGreatQ11
import Derived.Deep.RegionHeld3
import Derived.Deep.Cut
import Derived.Deep.AppendLies
import Derived.Deep.LoopGhost
import Derived.Deep.OwnRows
set_option maxHeartbeats 8000000
set_option maxRecDepth 20000
namespace Go.Proofs.YtefjhnhdagolhaaGreat
open Go.RowKit
open M (aI aC aD aP bA Dd PI sH)
attribute [local go_sem ↓] Go.wp_at_zero Go.wp_at_succ
section
variable {σ:Type} {P:M.Plain σ} {tell:σ→List Int} {w:World} {Y:aP} {ds:List Dd} {c n cap:Nat} {u:Nat→Option Nat}
theorem aCe {x:Nat×Nat} (h:x∈Y.all):x.1≤Y.bs.length:=by
 unfold aP.all M.tagged M.num at h
 obtain ⟨y,h1,h2⟩:=List.mem_flatMap.mp h
 obtain ⟨t,-,rfl⟩:=List.mem_map.mp h2
 obtain ⟨i,hi⟩:=List.getElem?_of_mem h1
 rw [List.getElem?_mapIdx] at hi
 obtain ⟨p,hp,rfl⟩:=Option.map_eq_some_iff.mp hi
 have:=(List.getElem?_eq_some_iff.mp hp).1
 show i+1≤_
 omega
theorem SQ (h:PI P n cap Y ds u c) {d:Dd} (hd:d∈ds) (hf:d.fl≠0) {x:Int} (hw:aEE Y d x) :
  d.nb≤Y.bs.length∧((x = -1∧Y.bs.length<d.nb+2)∨∃ (j:Nat) (m:M.Mark),Y.order[j]?=some m∧x=(j:Int)∧d.nb<m.b∧m.b≤d.nb+2):=by
 obtain ⟨nf,hy,hh⟩:=h.he
 rcases hw with ⟨j,m,h1,h2,h3,h4⟩|⟨h1,h2⟩
 ·obtain ⟨a,b⟩:=M.FQ h1
  rw [h2,h3] at a
  rw [h2] at b
  have hp:=hh.pl d hd hf j m.b a b
  have:=aCe (List.mem_of_getElem? b)
  exact ⟨by omega,.inr ⟨j,m,h1,h4,hp⟩⟩
 ·have hsn:=h.soon hy hh hd hf ?_
  ·exact ⟨hsn.1,.inl ⟨h1,hsn.2⟩⟩
  by_cases q:d.s<M.cnt Y.bs d.t
  ·obtain ⟨j,hj⟩:=sH.ex (l:=Y.bs.flatten) q
   obtain ⟨m,hm⟩:=M.XC hj.lt
   obtain ⟨a,-⟩:=M.FQ hm
   have e1:m.t=d.t:=by
    have:=a.1
    rw [hj.1] at this
    injection this with this
    exact this.symm
   have e2:m.s=d.s:=by rw [←a.2,←hj.2,e1]
   exact absurd ⟨e1,e2⟩ (h2 j m hm)
  ·omega
theorem aAn {w:World} {b:Nat} {t:TypeId} {x0 x1 x2 x3 x4 x5 x6:Value} (h:Row w b t [x0,x1,x2,x3,x4,x5,x6]):w.cell? ⟨b,0,none⟩=some x0∧w.cell? ⟨b,1,none⟩=some x1∧w.cell? ⟨b,2,none⟩=some x2∧w.cell? ⟨b,3,none⟩=some x3∧w.cell? ⟨b,4,none⟩=some x4∧w.cell? ⟨b,5,none⟩=some x5∧w.cell? ⟨b,6,none⟩=some x6:=⟨h.cell_of rfl,h.cell_of rfl,h.cell_of rfl,h.cell_of rfl,h.cell_of rfl,h.cell_of rfl,h.cell_of rfl⟩
theorem LM (kd kind th cap st co:Int) (a1 a2:Option Addr) (l1 c1 l2 c2 N C:Nat) (hN:(N:Int)=2+pk th 19) (hC:(C:Int)=pk cap 65) (hkd:YR false kind=kd) (l:List wZ) (hl:l.length≤200000) (hi:∀ x∈l,tU x.t∧tU x.n) (s:Value) (w:World) (hs:Scr w s l) (ik:tU kind) (it:tU th) (ic:tU cap)
  (LJ:∀ W,Below w.heap.size w W→Calls Tryz.prog 42 #[.agg #[.int .i64 kd,.int .i64 (N:Int),.int .i64 (C:Int),.int .i64 st,.int .i64 co,.slice a1 l1 c1,.slice a2 l2 c2]] W fun e w'=>∃ b,e = .returned (.tuple #[.pointer (some ⟨b,0,none⟩),.int .i64 0])∧zU P tell N C W b w') :
  Calls Tryz.prog 14 #[.agg #[.int .i64 kind,.int .i64 th,.int .i64 cap,.int .i64 st,.int .i64 co,.slice a1 l1 c1,.slice a2 l2 c2],s] w fun e w'=>e = .returned (.bool true)∧Below w.heap.size w w':=by
 obtain ⟨p0,p1⟩:=gR th 19 (by decide)
 obtain ⟨q0,q1⟩:=gR cap 65 (by decide)
 have hN2:2≤N:=by omega
 have aEI:N≤64:=by omega
 have aH5:C≤64:=by omega
 have HNC:=aA (And.intro hN (And.intro hC hkd))
 have HCF:=aA (fun W:World=>XG false kind th cap st co a1 a2 l1 c1 l2 c2 ik it ic W)
 have HS:=aA hs
 have HN:=aA LJ
 clear hs p0 p1 q0 q1 hN hC hkd LJ
 go_enter Tryz.func14,Tryz.ntmps14
 go_upto_region 1 with fail
 generalize hW:World.alloc w _=W
 have hb0:Below w.heap.size w W:=by rw [←hW];exact aB w _
 have rB:Row W w.heap.size 26 [.int .i64 kind,.int .i64 th,.int .i64 cap,.int .i64 st,.int .i64 co,.slice a1 l1 c1,.slice a2 l2 c2]:=by rw [←hW];exact Row.new' rfl
 obtain ⟨x0,x1,x2,x3,x4,x5,x6⟩:=aAn rB
 have HB:=aA hb0
 clear rB hb0 hW
 go_wp2_with fail
 refine (HCF.out _).mono ?_
 rintro e w1 ⟨rfl,kS⟩
 rw [←HNC.out.1,←HNC.out.2.1,HNC.out.2.2]
 have hB1:=Below.next HB.out kS HB.out.size
 have HPL:=aA (XF (P:=P) (tell:=tell) kd st co N C a1 a2 l1 c1 l2 c2 hN2 aEI aH5 l hl hi s w1 (Scr.below HS.out hB1) (fun W' hW'=>HN.out W' (Below.next hB1 hW' hB1.size)))
 have MF:=aA hB1
 clear kS hB1 HB HCF HN HS x0 x1 x2 x3 x4 x5 x6
 go_wp2_with fail
 refine HPL.out.mono ?_
 rintro e w5 ⟨D,A,X,nJ,nK,nL,nM,nN,nO,nP,rfl,-,-,-,-,-,d6,d7,xo,hpg⟩
 have yF:=hpg.bel
 obtain ⟨Y,ds,u,c,hps⟩:=hpg
 have YN:=aA hps
 obtain ⟨S,vd,vu,vs,hpm,YQ,aAo,-⟩:=hps
 have c0:w5.cell? ⟨A.bP,0,none⟩=some (.pointer (some ⟨A.bX,0,none⟩)):=hpm.row.cell_of rfl
 have cx:w5.cell? ⟨A.bX,0,none⟩=some (.iface A.tE (.pointer (some ⟨A.bN,0,none⟩))):=hpm.obj.cell_of rfl
 have OO:D.n≤64:=by rw [d6];exact aEI
 have hall:Y.order.length≤1000000000000:=by
  rw [yH]
  have:=YQ.yi.all OO (B:=900000000) (fun k hk=>Nat.le_trans (aAo.1 k hk) (by omega))
  omega
 have hdl:ds.length≤64000000000:=Nat.le_trans (YQ.count_le OO (fun t ht=>Nat.le_trans (aAo.1 t ht) (show 4000+4000*l.length≤1000000000 by omega))) (by omega)
 have hlm:wG D 1000000000 Y:=aAo.mono (by omega)
 have hm:=xo.mOr
 have hc:=xo.cOr
 have HO:=aA (xo.or _ _ _ hpm.x hlm)
 have HBA:=aA (fun (W:World) (hW:Below w5.heap.size w5 W)=>FJ xo (cell_later hW c0) (cell_later hW cx) (hpm.below xo hW).x hlm YQ.bo hall)
 have HPI:=aA YQ
 have HX:=aA xo
 have TT:=aA (Below.next MF.out yF MF.out.size)
 clear hpm YQ aAo xo yF HPL MF hlm d6 d7
 go_wp2_with fail
 refine HO.out.mono ?_
 rintro e w6 ⟨va,rfl,ho,LA⟩
 obtain ⟨⟨a,cp,rfl⟩,hmx⟩:=fJ ho
 have HOW:=aA ho
 have aEM:=aA (HBA.out w6 LA)
 have HB6:=aA LA
 clear ho LA c0 cx hm hc HO HBA
 go_wp2_with fail
 refine aEM.out.mono ?_
 rintro e w7 ⟨rfl,CQ⟩
 have aH7:=aA (gI HOW.out CQ)
 have HB7:=aA (Below.next HB6.out CQ HB6.out.size)
 have aEN:=aA (YN.out.below HX.out HB7.out)
 have TP:Y.bs.length≤1000000000:=by
  obtain ⟨_,_,_,_,_,_,q,-⟩:=YN.out
  exact Nat.le_trans q.2 (by omega)
 clear CQ aEM HOW HB6
 go_wp2
 go_loopw [8] (fun i w'=>∃ k:Nat,k≤ds.length∧i = .int .i64 (k:Int)∧Below w7.heap.size w7 w') (fun i _=>ds.length-(intOf i).toNat)
 case atStart=>exact ⟨0,Nat.zero_le _,rfl,Below.refl _ _⟩
 case round =>
  obtain ⟨k,hk,rfl,vG⟩:=hrel
  by_cases hlt:k<ds.length
  ·have hlt':(k:Int)<(ds.length:Int):=by omega
   have hk0:(0:Int)≤(k:Int):=by omega
   have hdk:ds[k]?=some ds[k]:=List.getElem?_eq_getElem hlt
   generalize ds[k]=d at hdk
   obtain ⟨gd,cd,e8,hcs⟩:=(aEN.out.below HX.out vG).aCa hdk
   have z0:=hcs 0 _ rfl
   rw [Nat.add_zero] at z0
   have z1:=hcs 1 _ rfl
   have z2:=hcs 2 _ rfl
   have z3:=hcs 3 _ rfl
   have z4:=hcs 4 _ rfl
   have z5:=hcs 5 _ rfl
   have z6:=hcs 6 _ rfl
   have z7:=hcs 7 _ rfl
   have z8:=hcs 8 _ rfl
   have z9:=hcs 9 _ rfl
   have z10:=hcs 10 _ rfl
   have NU:=hcs 11 _ rfl
   have IX:=aA vG
   have HDK:=aA hdk
   have aEO:=aA (gI aH7.out vG)
   clear vG hcs hdk
   go_upto_region 10 with fail
   generalize hW8:World.alloc wr _=W8
   have hb8:Below wr.heap.size wr W8:=by rw [←hW8];exact aB wr _
   have rD:Row W8 wr.heap.size 77 (wI d):=by rw [←hW8];exact Row.new' rfl
   have y0:=rD.cell_of (i:=0) rfl
   have y1:=rD.cell_of (i:=1) rfl
   have y2:=rD.cell_of (i:=2) rfl
   have y3:=rD.cell_of (i:=3) rfl
   have y4:=rD.cell_of (i:=4) rfl
   have y5:=rD.cell_of (i:=5) rfl
   have y6:=rD.cell_of (i:=6) rfl
   have y7:=rD.cell_of (i:=7) rfl
   have y8:=rD.cell_of (i:=8) rfl
   have y9:=rD.cell_of (i:=9) rfl
   have y10:=rD.cell_of (i:=10) rfl
   have y11:=rD.cell_of (i:=11) rfl
   have HB8:=aA (Below.next IX.out hb8 IX.out.size)
   have HRD:=aA rD
   have aCg:=aA (gI aEO.out hb8)
   clear z0 z1 z2 z3 z4 z5 z6 z7 z8 z9 z10 NU e8 hb8 rD hW8 aEO IX
   by_cases hf:d.fl=0
   ·have hf':(d.fl:Int)=0:=by omega
    rw [hf'] at y6
    go_wp2
    go_roundw
    case rel=>exact ⟨k+1,by omega,by go_num,HB8.out⟩
    case measure=>simp [intOf];omega
   ·have hf':¬(d.fl:Int)=0:=by omega
    have HWH:=aA (aAk d aCg.out)
    go_wp2_with fail
    refine HWH.out.mono ?_
    rintro e w9 ⟨x,rfl,hwh,hb9⟩
    obtain ⟨hnb,hcs⟩:=SQ HPI.out (List.mem_of_getElem? HDK.out) hf hwh
    have r9:=HRD.out.old hb9
    have v8:=r9.cell_of (i:=8) rfl
    have HB9:=aA (Below.next HB8.out hb9 HB8.out.size)
    have aEP:=aA (gI aCg.out hb9)
    have hw2:IntKind.i64.wrap ((d.nb:Int)+2)=(d.nb:Int)+2:=dP _ (by omega) (by omega)
    clear y0 y1 y2 y3 y4 y5 y6 y7 y8 y9 y10 y11 hwh hb9 r9 HWH aCg HRD HB8
    rcases hcs with ⟨rfl,aMq⟩|⟨j,m,hjm,rfl,hj1,hj2⟩
    ·have g1:decide ((-1:Int)<0)=true:=by decide
     have g2:decide ((0:Int)≤-1)=false:=by decide
     have g3:¬(d.nb:Int)+2≤(Y.bs.length:Int):=by omega
     go_wp2
     go_quiet (fail)
     go_wp2
     go_roundw
     case rel=>exact ⟨k+1,by omega,by go_num,Below.drewN HB9.out _⟩
     case measure=>simp [intOf];omega
    ·obtain ⟨og,oc,e1,m0,m1,m2⟩:=DN aEP.out hjm
     injection e1 with e1 _ e2
     subst e1 e2
     have hjl:j<Y.order.length:=(List.getElem?_eq_some_iff.mp hjm).1
     have aMr:(j:Int)<(Y.order.length:Int):=by omega
     have hj0:(0:Int)≤(j:Int):=by omega
     have g1:decide ((j:Int)<0)=false:=decide_eq_false (by omega)
     have g2:decide ((0:Int)≤(j:Int))=true:=decide_eq_true hj0
     have g3:decide ((m.b:Int)≤(d.nb:Int))=false:=decide_eq_false (by omega)
     have g4:decide ((d.nb:Int)+2<(m.b:Int))=false:=decide_eq_false (by omega)
     go_wp2
     go_quiet (fail)
     go_wp2
     go_roundw
     case rel=>exact ⟨k+1,by omega,by go_num,Below.drewN HB9.out _⟩
     case measure=>simp [intOf];omega
  ·have hlt':¬(k:Int)<(ds.length:Int):=by omega
   obtain ⟨gd,cd,e8⟩:=(aEN.out.below HX.out vG).aHW
   have IX:=aA vG
   clear vG
   go_wp2
   go_ret
   exact ⟨rfl,Below.next TT.out (Below.next HB7.out IX.out HB7.out.size) TT.out.size⟩
end
end Go.Proofs.YtefjhnhdagolhaaGreat
namespace Go.Proofs.YtefjhnhdagolhaaGreat
open Go.RowKit
attribute [local go_sem ↓] Go.wp_at_zero Go.wp_at_succ
theorem SS (L:int.Lt) (ho:L.oT=140) (hv:L.ov = .agg #[]):int.sY xO L (fun s=>[s]) 362 (.agg #[]) where
 m W:=by rw [ho,hv];kernel_rfl
 c s W:=EN s W
 f I W s x hr _ _:=by
  have e:x=s:=by simpa [xO] using hr
  subst e
  exact KK x W
def iY (I:Nat→Prop) (w:World):List Int→Option Addr→Prop
 |[],p=>p=none
 |x::s,p=>∃ b p',p=some ⟨b,0,none⟩∧I b∧Row w b 370 [.int .i64 x,.pointer p',.int .i64 ((s.length+1:Nat):Int)]∧iY I w s p'
theorem iY.stay {I I':Nat→Prop} {w w':World} (hk:∀ k,I k→k<w.heap.size→I' k∧w'.heap[k]?=w.heap[k]?):∀ {s:List Int} {p:Option Addr},iY I w s p→iY I' w' s p
 |[],_,q=>q
 |x::s,_,q=>by
  obtain ⟨b,p',h1,h2,h3,h4⟩:=q
  have:=hk b h2 h3.lt
  exact ⟨b,p',h1,this.1,h3.of_block this.2,h4.stay hk⟩
def KB (I:Nat→Prop) (B:Nat) (w:World):Nat→Prop:=fun k=>I k∨(B≤k∧k<w.heap.size)
theorem KB.later {I:Nat→Prop} {B:Nat} {w w':World} (hb:Below w.heap.size w w') (k:Nat) (hk:KB I B w k) (hl:k<w.heap.size):KB I B w' k∧w'.heap[k]?=w.heap[k]? :=
 ⟨by
  rcases hk with hk|hk
  ·exact .inl hk
  ·exact .inr ⟨hk.1,Nat.lt_of_lt_of_le hk.2 hb.size⟩,hb.block k hl⟩
section
variable {I:Nat→Prop} {B:Nat} {w:World} {p:Option Addr} {s:List Int} {x:Int}
theorem iY.later {w':World} (q:iY (KB I B w) w s p) (hb:Below w.heap.size w w'):iY (KB I B w') w' s p:=q.stay (KB.later hb)
theorem DT (q:iY I w s p):Calls Tryz.prog 182 #[.pointer p] w fun e w'=>e = .returned (.int .i64 (s.length:Int))∧w'=w:=by
 cases s with
 |nil =>
  have q:p=none:=q
  subst q
  go_enter Tryz.func182,Tryz.ntmps182
  go_wp2
  go_ret
  exact ⟨rfl,rfl⟩
 |cons y s =>
  obtain ⟨b,p',rfl,-,hR,-⟩:=q
  have HL:=aA (show (List.length (y::s):Int)=((s.length+1:Nat):Int) by simp)
  rw [HL.out]
  generalize s.length+1=n at *
  have c2:=hR.cell_of (i:=2) rfl
  clear hR
  go_enter Tryz.func182,Tryz.ntmps182
  go_wp2
  go_ret
  exact ⟨rfl,rfl⟩
theorem OT (q:iY (KB I B w) w s p) (hB:B≤w.heap.size) (hz:s.length≤2000000000000) :
  Calls Tryz.prog 367 #[.pointer p,.int .i64 x] w fun e w'=>∃ b,e = .returned (.pointer (some ⟨b,0,none⟩))∧iY (KB I B w') w' (x::s) (some ⟨b,0,none⟩)∧Below w.heap.size w w':=by
 have hw:IntKind.i64.wrap ((s.length:Int)+1)=(s.length:Int)+1:=dP _ (by omega) (by omega)
 have HQ:=aA q
 clear q
 go_enter Tryz.func367,Tryz.ntmps367
 go_wp2_with fail
 refine (DT HQ.out).mono ?_
 rintro e w2 ⟨rfl,rfl⟩
 go_wp2_with fail
 go_ret
 refine ⟨_,rfl,⟨_,p,rfl,.inr ⟨hB,by simp⟩,Row.new' (by simp),HQ.out.later (aB _ _)⟩,aB _ _⟩
theorem DU (q:iY (KB I B w) w s p) (hB:B≤w.heap.size) (hz:s.length≤1000000000000) :
  Calls Tryz.prog 372 #[.pointer p] w fun e w'=>∃ p',e = .returned (.pointer p')∧iY (KB I B w') w' s.reverse p'∧Below w.heap.size w w':=by
 have HQ:=aA q
 clear q
 go_enter Tryz.func372,Tryz.ntmps372
 go_wp2
 go_loopg [0,3] s.length (fun g v t w'=>∃ a c p1 p2,s=a++c∧c.length=g∧v = .pointer p1∧t = .pointer p2∧iY (KB I B w') w' c p1∧iY (KB I B w') w' a.reverse p2∧Below w.heap.size w w')
 case atStart=>exact ⟨[],s,p,none,rfl,rfl,rfl,rfl,HQ.out,rfl,Below.refl _ _⟩
 case round =>
  obtain ⟨a,c,p1,p2,hs,hg,rfl,rfl,h1,h2,hb⟩:=hrel
  have HS:=aA hs
  have HB:=aA hb
  have hzw:=hb.size
  have H2:=aA h2
  have hal:a.length+c.length≤1000000000000:=by rw [hs,List.length_append] at hz;exact hz
  clear hb hs h2
  cases c with
  |nil =>
   have h1:p1=none:=h1
   subst h1
   clear hg
   go_wp2
   go_ret
   exact ⟨p2,rfl,by rw [HS.out,List.append_nil];exact H2.out,HB.out⟩
  |cons y c =>
   obtain ⟨b1,p1',rfl,-,hR,h3⟩:=h1
   have c0:=hR.cell_of (i:=0) rfl
   have H3:=aA h3
   have HR:=aA hR
   simp only [List.length_cons] at hal
   clear hR h3
   go_wp2_with fail
   refine (OT (x:=y) H2.out (by omega) (by rw [List.length_reverse];omega)).mono ?_
   rintro e w2 ⟨b2,rfl,t2,aZ⟩
   have c1:=(HR.out.old aZ).cell_of (i:=1) rfl
   have HT:=aA t2
   have QX:=aA aZ
   clear t2 aZ c0
   go_wp2
   go_roundg (gk-1)
   case measure=>simp at hg;omega
   case rel=>exact ⟨a++[y],c,p1',_,by rw [HS.out];simp,by simp at hg;omega,rfl,rfl,H3.out.later QX.out,by rw [List.reverse_append];exact HT.out,Below.next HB.out QX.out HB.out.size⟩
end
theorem EV {P:Program} (t e:TypeId) (z:Value) (bytes:Nat) (ht:P.underlying t=some (.slice e)) (hinfo:(P.info? e).map (fun i=>(i.zero,i.size,i.bytes))=some (some z,1,bytes)) (hz1:z.cells=#[z])
  (n:Nat) (hbytes:bytes*n≤281474976710656) (h63:n≤9223372036854775807) (w:World) :
  (Instr.makeSlice t (.int .i64 0) (.int .i64 (n:Int))).run P w = .ok (.slice (some ⟨w.heap.size,0,none⟩) 0 n) (w.alloc (.cells (zeros z n).toArray e)):=by
 obtain ⟨i,hi,hzz⟩:=Option.map_eq_some_iff.1 hinfo
 simp only [Prod.mk.injEq] at hzz
 obtain ⟨hz,hs,hb⟩:=hzz
 have hb':(i.bytes:Int)*(n:Int)≤281474976710656:=by
  have h:((i.bytes*n:Nat):Int)≤281474976710656:=by rw [hb];omega
  rwa [Int.natCast_mul] at h
 have hr:=run_make (P:=P) w t e i z ht hi hz .i64 .i64 0 n (by omega) (by omega) hb' (by omega)
 simp only [Int.toNat_natCast,hs,Nat.mul_one,hz1,Int.toNat_zero] at hr
 rw [hr,sZ]
section
variable {I:Nat→Prop} {w:World} {p:Option Addr} {s:List Int}
theorem DV (q:iY I w s p) (hz:s.length≤1000000000000) :
  Calls Tryz.prog 369 #[.pointer p] w fun e w'=>∃ v,e = .returned v∧w'.ownsRow w.heap.size 3 1 v s.length (ints s)∧Below w.heap.size w w':=by
 obtain ⟨ti,EC,zX⟩:=Option.map_eq_some_iff.1 kF
 simp only [Prod.mk.injEq] at zX
 obtain ⟨tM,tN,tP⟩:=zX
 have zY:=aA EC
 have XE:=aA tM
 have yG:=aA tN
 have tD:=aA tP
 clear EC tM tN tP
 have hmk:=EV (P:=Tryz.prog) 22 3 (.int .i64 0) 8 Tryz.underlying22 kF rfl s.length (by omega) (by omega)
 have HQ:=aA q
 clear q
 go_enter Tryz.func369,Tryz.ntmps369
 go_wp2_with fail
 refine (DT HQ.out).mono ?_
 rintro e w2 ⟨rfl,rfl⟩
 go_wp2
 generalize hW:World.alloc w2 _=W
 have hb0:Below w2.heap.size w2 W:=by rw [←hW];exact aB _ _
 have HO:=aA (show W.ownsRow w2.heap.size 3 1 (.slice (some ⟨w2.heap.size,0,none⟩) 0 s.length) 0 (ints []) by
  rw [←hW]
  refine ⟨rfl,.inr ⟨w2.heap.size,s.length,(zeros (.int .i64 0) s.length).toArray,rfl,Nat.le_refl _,?_,Nat.zero_le _,?_,?_,?_⟩⟩
  ·exact Row.new' rfl
  ·unfold maxLen;omega
  ·simp [zeros]
  ·simp [ints])
 have HQ2:=aA (show iY (fun k=>k<w2.heap.size∧I k) W s p from HQ.out.stay fun k hk hl=>⟨⟨hl,hk⟩,hb0.block k hl⟩)
 have HB:=aA hb0
 clear hW hb0 hmk HQ
 go_loopg [0,3] s.length (fun g v o w'=>∃ a c p1,s=a++c∧c.length=g∧v = .pointer p1∧iY (fun k=>k<w2.heap.size∧I k) w' c p1∧w'.ownsRow w2.heap.size 3 1 o a.length (ints a)∧Below w2.heap.size w2 w')
 case atStart=>exact ⟨[],s,p,rfl,rfl,rfl,HQ2.out,HO.out,HB.out⟩
 case round =>
  obtain ⟨a,c,p1,hs,hg,rfl,h1,ho,hb⟩:=hrel
  have HS:=aA hs
  have IX:=aA hb
  have hzw:=hb.size
  have HOR:=aA ho
  have hal:a.length+c.length≤1000000000000:=by rw [hs,List.length_append] at hz;exact hz
  clear hb hs ho
  cases c with
  |nil =>
   have h1:p1=none:=h1
   subst h1
   clear hg
   go_wp2
   go_ret
   exact ⟨_,rfl,by rw [HS.out,List.append_nil];exact HOR.out,IX.out⟩
  |cons y c =>
   obtain ⟨b1,p1',rfl,XI,hR,h3⟩:=h1
   have c0:=hR.cell_of (i:=0) rfl
   have c1:=hR.cell_of (i:=1) rfl
   have H3:=aA h3
   have kS:=XI.1
   simp only [List.length_cons] at hal
   clear hR h3 XI
   go_wp2_with (at_builtin;refine wpList_append_lies _ rfl (.tmp 13) (.tmp 18) 22 rfl w2.heap.size 3 ti (.int .i64 0) 1 8 Tryz.underlying22 zY.out XE.out yG.out tD.out rfl (by decide) u3 a.length (ints a) rfl (HOR.out.alloc _) ⟨wr.heap.size,0,none⟩ 1 1 [.int .i64 y] rfl rfl ?_ (by simp [Value.oneCell']) (by decide) (by unfold maxLen;omega) (by omega) ?_ (wr.heap.size+1) (by simp) ?_)
   ·exact World.news_of_block (Row.new wr _ _)
   ·simp;omega
   ·intro g4 SP w4 hown mR hat tF
    have hvn:∀ q,q<w2.heap.size→some q≠u3.ownBlock:=fun q hq e=>by have:=(HOR.out.lt q e.symm).1;omega
    have c4:w4.cell? ⟨b1,1,none⟩=some (.pointer p1'):=mR.cell (cell_later (aB _ _) c1) (hvn _ kS)
    have XJ:=aA (show Below w2.heap.size w2 w4 from (Below.next IX.out (aB wr _) hzw).grown mR (by simp;omega) (fun q hq=>(HOR.out.lt q hq).1))
    have QS:=aA (show w4.ownsRow w2.heap.size 3 1 (.slice (some ⟨g4,0,none⟩) (a.length+1) SP) (a++[y]).length (ints (a++[y])) by
     rw [List.length_append]
     have e3:ints (a++[y])=ints a++[.int .i64 y]:=by simp [ints]
     rw [e3]
     exact hown)
    have H4:=aA (show iY (fun k=>k<w2.heap.size∧I k) w4 c p1' from H3.out.stay fun k hk hl=>⟨hk,(mR.block k (by simp;omega) (hvn k hk.1)).trans ((aB wr _).block k hl)⟩)
    clear hown mR hat tF c0 c1
    go_wp2
    go_roundg (gk-1)
    case measure=>simp at hg;omega
    case rel=>exact ⟨a++[y],c,p1',by rw [HS.out];simp,by simp at hg;omega,rfl,H4.out,QS.out,XJ.out⟩
end
theorem QY (w:World):Calls Tryz.prog 368 #[] w fun e w'=>e = .returned (.agg #[.int .i64 2,.int .i64 0])∧Below w.heap.size w w':=by
 go_enter Tryz.func368,Tryz.ntmps368
 go_wp2
 exact bodyPost_ret (v:=.agg #[.int .i64 2,.int .i64 0]) (by simp [results,Tryz.results368,go_sem]) rfl ⟨rfl,aB _ _⟩
def nT:M.Plain (List Int) where
 first:=[]
 apply s o:=if o.c=1 then (o.a::s,⟨1,((s.length+1:Nat):Int)⟩) else if o.c=2 then (s.tail,if s=[] then ⟨2,0⟩ else ⟨1,s.headD 0⟩) else (s,⟨4,0⟩)
theorem lW {b:Nat}:∀ (vs:List Value) (o:Nat) (W:World) (k:Nat),k≠b→(W.setCells b o vs).heap[k]?=W.heap[k]?
 |[],_,_,_,_=>rfl
 |v::vs,o,W,k,hk=>by
  show ((W.setCell ⟨b,o,none⟩ v).setCells b (o+1) vs).heap[k]?=_
  rw [lW vs (o+1) _ k hk,Below.heap_setCell _ _ _ k hk]
theorem aEQ {W w':World} {b b1:Nat} {vs:List Value} {v0 v1:Value} (h:w'.there b 0 2∧(∀ k,k<W.heap.size→k≠b→w'.heap[k]?=W.heap[k]?)∧w'.cell? ⟨b1,0,none⟩=some v0∧w'.cell? ⟨b1,1,none⟩=some v1) (hne:b1≠b) :
  (w'.setCells b 0 vs).there b 0 2∧(∀ k,k<W.heap.size→k≠b→(w'.setCells b 0 vs).heap[k]?=W.heap[k]?)∧(w'.setCells b 0 vs).cell? ⟨b1,0,none⟩=some v0∧(w'.setCells b 0 vs).cell? ⟨b1,1,none⟩=some v1:=by
 have e:∀ k,k≠b→(w'.setCells b 0 vs).heap[k]?=w'.heap[k]?:=fun k hk=>lW vs 0 w' k hk
 exact ⟨World.there_setCells h.1 _ _ _,fun k hk hn=>(e k hn).trans (h.2.1 k hk hn),oP h.2.2.1 (e b1 hne),oP h.2.2.2 (e b1 hne)⟩
section
variable {I:Nat→Prop} {w:World} {p:Option Addr} {s:List Int} {c a b:Int}
def SU (I:Nat→Prop) (w:World) (s:List Int) (x y:Int) (e:Ending) (w':World):Prop:=∃ p,e = .returned (.tuple #[.pointer p,.agg #[.int .i64 x,.int .i64 y]])∧iY (KB I w.heap.size w') w' s p∧Below w.heap.size w w'
theorem xZ {W w3 w4:World} {b7:Nat} {p3:Option Addr} {s3:List Int} {v0 v1:Value} (hI:∀ k,I k→k<w.heap.size) (h7:w.heap.size≤b7) (hlt:b7<W.heap.size) (hB0:Below w.heap.size w W) (hR:Row W b7 94 [v0,v1]) (t3:iY (KB I W.heap.size w3) w3 s3 p3) (cE:Below W.heap.size W w3) (cT:Below w3.heap.size w3 w4) (x y:Int) :
  Row ((w4.setCell ⟨b7,0,none⟩ (.int .i64 x)).setCell ⟨b7,1,none⟩ (.int .i64 y)) b7 94 [.int .i64 x,.int .i64 y]∧iY (KB I w.heap.size ((w4.setCell ⟨b7,0,none⟩ (.int .i64 x)).setCell ⟨b7,1,none⟩ (.int .i64 y))) ((w4.setCell ⟨b7,0,none⟩ (.int .i64 x)).setCell ⟨b7,1,none⟩ (.int .i64 y)) s3 p3 ∧
   Below w.heap.size w ((w4.setCell ⟨b7,0,none⟩ (.int .i64 x)).setCell ⟨b7,1,none⟩ (.int .i64 y)):=by
 have z0:=hB0.size
 have z3:=cE.size
 have z4:=cT.size
 refine ⟨((hR.old (Below.next cE cT z3)).set 0 _).set 1 _,t3.stay fun k hk JX=>⟨?_,?_⟩,(((Below.next (Below.next hB0 cE z0) cT (by omega)).setCell (by simpa using h7) _).setCell (by simpa using h7) _)⟩
 ·rcases hk with hk|hk
  ·exact .inl hk
  ·refine .inr ⟨by omega,?_⟩
   simp [World.setCell]
   omega
 ·have hne:k≠b7:=by
   rcases hk with hk|hk
   ·have:=hI k hk;omega
   ·omega
  rw [Below.heap_setCell _ _ _ k hne,Below.heap_setCell _ _ _ k hne]
  exact cT.block k JX
theorem JD (q:iY I w s p) (hI:∀ k,I k→k<w.heap.size) (hz:s.length≤1000000000000) :
  Calls Tryz.prog 365 #[.agg #[],.pointer p,.agg #[.int .i64 c,.int .i64 a,.int .i64 b]] w (SU I w (nT.apply s ⟨c,a,b⟩).1 (nT.apply s ⟨c,a,b⟩).2.s (nT.apply s ⟨c,a,b⟩).2.v):=by
 obtain ⟨r,hr⟩:∃ r,r=nT.apply s ⟨c,a,b⟩:=⟨_,rfl⟩
 rw [←hr]
 have lX:=aA hr
 clear hr
 go_enter Tryz.func365,Tryz.ntmps365
 go_upto_region 1 with fail
 generalize hW:World.alloc (World.alloc (World.alloc w _) _) _=W
 have hb0:Below w.heap.size w W:=by rw [←hW];exact ((aB w _).alloc (by simp) _).alloc (by simp;omega) _
 have r5:Row W (w.heap.size+1) 36 [.int .i64 c,.int .i64 a,.int .i64 b]:=by rw [←hW];exact (Row.new' (by simp)).alloc _
 have r7:Row W (w.heap.size+1+1) 94 [.int .i64 0,.int .i64 0]:=by rw [←hW];exact Row.new' (by simp)
 have o0:=r5.cell_of (i:=0) rfl
 have o1:=r5.cell_of (i:=1) rfl
 have hlt:=r7.lt
 have jD:=aA hb0
 have yC:=aA r7
 have HQ:=aA (show iY (KB I W.heap.size W) W s p from q.stay fun k hk hl=>⟨.inl hk,hb0.block k hl⟩)
 clear hW hb0 r5 r7 q
 by_cases c1:c=1
 ·subst c1
  have e:r=(a::s,⟨1,((s.length+1:Nat):Int)⟩):=by rw [lX.out];simp [nT]
  subst e
  clear lX
  obtain ⟨n1,zF⟩:∃ n:Nat,n=s.length+1:=⟨_,rfl⟩
  rw [←zF]
  go_wp2_with fail
  refine (OT (I:=I) (B:=W.heap.size) (x:=a) HQ.out (Nat.le_refl _) (by omega)).mono ?_
  rintro e w3 ⟨p3,rfl,t3,cE⟩
  have tD:=aA t3
  have tH:=aA cE
  have HSZ:=aA (DT t3)
  rw [show (a::s).length=n1 from zF.symm] at HSZ
  have HN1:=aA zF
  clear t3 cE zF
  go_wp2_with fail
  refine HSZ.out.mono ?_
  rintro e w5 ⟨rfl,rfl⟩
  go_wp2_with fail
  refine (rA _ _).mono ?_
  rintro e w4 ⟨rfl,cT⟩
  have HE:=aA (xZ hI (by omega) hlt jD.out yC.out tD.out tH.out cT 1 (n1:Int))
  have bY:=yC.out.old (Below.next tH.out cT tH.out.size)
  have a0:w4.cell? ⟨w.heap.size+1+1,0,none⟩=some (.int .i64 0):=bY.cell_of rfl
  have a1:w4.cell? ⟨w.heap.size+1+1,1,none⟩=some (.int .i64 0):=bY.cell_of rfl
  have f0:=bY.frozen 0
  have f1:=bY.frozen 1
  clear bY cT
  go_wp2_with fail
  have q1:=HE.out.1.cell_of (i:=0) rfl
  have q2:=HE.out.1.cell_of (i:=1) rfl
  exact bodyPost_ret (v:=.tuple #[.pointer (some ⟨p3,0,none⟩),.agg #[.int .i64 1,.int .i64 (n1:Int)]]) (by simp [results,Tryz.results365,go_sem,q1,q2]) rfl ⟨_,by rw [HN1.out],HE.out.2.1,HE.out.2.2⟩
 ·by_cases c2:c=2
  ·subst c2
   cases s with
   |nil =>
    have e:r=([],⟨2,0⟩):=by rw [lX.out];simp [nT]
    subst e
    clear lX
    have hp:p=none:=HQ.out
    subst hp
    go_wp2_with fail
    refine (QY _).mono ?_
    rintro e w4 ⟨rfl,cT⟩
    have HE:=aA (xZ hI (by omega) hlt jD.out yC.out HQ.out (Below.refl W.heap.size W) cT 2 0)
    have bY:=yC.out.old (Below.next (Below.refl W.heap.size W) cT (Below.refl W.heap.size W).size)
    have a0:w4.cell? ⟨w.heap.size+1+1,0,none⟩=some (.int .i64 0):=bY.cell_of rfl
    have a1:w4.cell? ⟨w.heap.size+1+1,1,none⟩=some (.int .i64 0):=bY.cell_of rfl
    have f0:=bY.frozen 0
    have f1:=bY.frozen 1
    clear bY cT
    go_wp2_with fail
    have q1:=HE.out.1.cell_of (i:=0) rfl
    have q2:=HE.out.1.cell_of (i:=1) rfl
    exact bodyPost_ret (v:=.tuple #[.pointer none,.agg #[.int .i64 2,.int .i64 0]]) (by simp [results,Tryz.results365,go_sem,q1,q2]) rfl ⟨_,rfl,HE.out.2.1,HE.out.2.2⟩
   |cons x s =>
    have e:r=(s,⟨1,x⟩):=by rw [lX.out];simp [nT]
    subst e
    clear lX
    obtain ⟨b1,p',rfl,XI,pV,q1⟩:=HQ.out
    have d0:=pV.cell_of (i:=0) rfl
    have d1:=pV.cell_of (i:=1) rfl
    have HQ1:=aA q1
    have PV:W.there (w.heap.size+1+1) 0 2:=yC.out.there (by simp)
    have kS:=pV.lt
    have hne:b1≠w.heap.size+1+1:=by
     rcases XI with h|h
     ·have:=hI b1 h;omega
     ·omega
    clear pV q1 XI
    go_upto_region 8 with fail
    refine fR (S:=(fun w'=>w'.there (w.heap.size+1+1) 0 2∧(∀ k,k<W.heap.size→k≠w.heap.size+1+1→w'.heap[k]?=W.heap[k]?)∧w'.cell? ⟨b1,0,none⟩=some (.int .i64 x)∧w'.cell? ⟨b1,1,none⟩=some (.pointer p'))) 11 rfl (by kernel_rfl) ?_ (fun hHeld=>?_)
    ·exact ⟨PV,fun _ _ _=>rfl,d0,d1⟩
    iterate 8 (refine tk 10 (by rfl) (by kernel_rfl) (by exact fun _ _ _ h=>h) (.inl ⟨by rfl,fun w hS=>by (try dsimp only at hS);go_simp;(try with_reducible rfl)⟩) (by assumption) ?_;try go_frame)
    refine bQ 8 (by rfl) (by kernel_rfl) (fun K hK=>?_)
    go_simp
    refine (rA _ _).mono ?_
    rintro e w2 ⟨rfl,aZ⟩
    have QX:=aA (Below.bR aZ)
    go_wp2_with fail
    refine hK.out _ _ ?_ (fun hHeld=>?_)
    ·exact ⟨aT aZ hHeld.1,fun k hk hn=>(aZ.block k hk).trans (hHeld.2.1 k hk hn),cell_later aZ hHeld.2.2.1,cell_later aZ hHeld.2.2.2⟩
    clear hK K
    (try go_frame)
    iterate 1 (refine tk 10 (by rfl) (by kernel_rfl) (by exact fun _ _ _ h=>h) (.inl ⟨by rfl,fun w hS=>by (try dsimp only at hS);go_simp;(try with_reducible rfl)⟩) (by assumption) ?_;try go_frame)
    refine bQ 10 (by rfl) (by kernel_rfl) (fun K hK=>?_)
    rw [if_pos (by rfl)]
    refine wp_store_mid _ _ _ rfl _ 0 #[.int .i64 1,.int .i64 x] rfl rfl hHeld.1 (by kernel_rfl) (by simp [Value.oneCell']) ?_
    refine hK.out _ _ ?_ (fun hHeld=>?_)
    ·exact aEQ hHeld hne
    clear hK K
    (try go_frame)
    refine wpAnyH_done (by kernel_rfl) ?_ _
    have HE:=aA (xZ hI (by omega) hlt jD.out yC.out HQ1.out (Below.refl W.heap.size W) QX.out 1 x)
    clear hHeld
    go_wp2_with fail
    have q1:=HE.out.1.cell_of (i:=0) rfl
    have q2:=HE.out.1.cell_of (i:=1) rfl
    exact bodyPost_ret (v:=.tuple #[.pointer p',.agg #[.int .i64 1,.int .i64 x]]) (by simp [results,Tryz.results365,go_sem,World.setCells,q1,q2]) rfl ⟨_,rfl,HE.out.2.1,HE.out.2.2⟩
  ·have e:r=(s,⟨4,0⟩):=by rw [lX.out];simp [nT,c1,c2]
   subst e
   clear lX
   go_wp2_with fail
   refine (wW _).mono ?_
   rintro e w4 ⟨rfl,cT⟩
   have HE:=aA (xZ hI (by omega) hlt jD.out yC.out HQ.out (Below.refl W.heap.size W) cT 4 0)
   have bY:=yC.out.old (Below.next (Below.refl W.heap.size W) cT (Below.refl W.heap.size W).size)
   have a0:w4.cell? ⟨w.heap.size+1+1,0,none⟩=some (.int .i64 0):=bY.cell_of rfl
   have a1:w4.cell? ⟨w.heap.size+1+1,1,none⟩=some (.int .i64 0):=bY.cell_of rfl
   have f0:=bY.frozen 0
   have f1:=bY.frozen 1
   clear bY cT
   go_wp2_with fail
   have q1:=HE.out.1.cell_of (i:=0) rfl
   have q2:=HE.out.1.cell_of (i:=1) rfl
   exact bodyPost_ret (v:=.tuple #[.pointer p,.agg #[.int .i64 4,.int .i64 0]]) (by simp [results,Tryz.results365,go_sem,q1,q2]) rfl ⟨_,rfl,HE.out.2.1,HE.out.2.2⟩
end
end Go.Proofs.YtefjhnhdagolhaaGreat
