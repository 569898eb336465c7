import Derived.Test.YtefjhnhdagolhaaGreatQ39
import Derived.Test.YtefjhnhdagolhaaGreatQ44
import Derived.Test.YtefjhnhdagolhaaGreatQ46
import Derived.Test.YtefjhnhdagolhaaGreatQ49
set_option maxHeartbeats 20000000
set_option maxRecDepth 100000
namespace Go.Proofs.YtefjhnhdagolhaaGreat
open Go.RowKit
attribute [local go_sem ↓] Go.wp_at_zero Go.wp_at_succ
theorem aAT:aAf wX (fun _=>True):=⟨fun _=>0,⟨by decide,fun _ _=>Nat.zero_le _⟩,fun _ _=>trivial⟩
theorem aBl:aAf nT (fun s=>s.length≤1000000000000):=⟨_,LS,fun s h=>by omega⟩
theorem aBo:aAf pT (fun s=>s.length≤1000000000000):=⟨_,LU,fun s h=>by omega⟩
theorem aCf:aAf uD (fun s=>s.length≤500000000000):=⟨_,TA,fun s h=>by omega⟩
theorem aBB (kind st co:Int) (nx ou:List Int) (vn vo:Value) (N C:Nat) (h1:1≤N) (lG:N≤64) (hC:C≤64) (w:World) (hn:Sl w vn (ints nx)) (ho:Sl w vo (ints ou)) (Q:Prop)
  (hQ:∀ (σ:Type) (P:M.Plain σ) (tell:σ→List Int) (ok:σ→Prop) (Hp:Nat→Nat→σ→World→Prop),HOk P (YR false kind) st co vn vo ok Hp→aAf P ok→(∀ W,Below w.heap.size w W→Calls Tryz.prog 42 #[.agg #[.int .i64 (YR false kind),.int .i64 (N:Int),.int .i64 (C:Int),.int .i64 st,.int .i64 co,vn,vo]] W fun e w'=>∃ b,e = .returned (.tuple #[.pointer (some ⟨b,0,none⟩),.int .i64 0])∧zU P tell N C W b w')→Q):Q:=by
 obtain ⟨r0,r1⟩:=gR kind 4 (by decide)
 have hk:YR false kind=1+pk kind 4:=rfl
 rcases (by omega:YR false kind=1∨YR false kind=2∨YR false kind=3∨YR false kind=4) with e|e|e|e
 ·exact hQ _ wX _ _ _ (by rw [e];exact aCC st co vn vo) aAT (fun W hW=>by rw [e];exact (ZE N _ st co nx ou vn vo W (hn.below hW) (ho.below hW) h1 lG (by omega) (by omega)).mono fun e w' ⟨b,q1,q2⟩=>⟨b,q1,JR h1 lG hC q2⟩)
 ·exact hQ _ nT _ _ _ (by rw [e];exact aFd st co vn vo) aBl (fun W hW=>by rw [e];exact (ZF N _ st co nx ou vn vo W (hn.below hW) (ho.below hW) h1 lG (by omega) (by omega)).mono fun e w' ⟨b,q1,q2⟩=>⟨b,q1,PJ h1 lG hC q2⟩)
 ·exact hQ _ pT _ _ _ (by rw [e];exact aFe st co vn vo) aBo (fun W hW=>by rw [e];exact (RO N _ st co nx ou vn vo W (hn.below hW) (ho.below hW) h1 lG (by omega) (by omega)).mono fun e w' ⟨b,q1,q2⟩=>⟨b,q1,PK h1 lG hC q2⟩)
 ·exact hQ _ uD _ _ _ (by rw [e];exact aKF st co vn vo) aCf (fun W hW=>by rw [e];exact (UX N _ st co nx ou vn vo W (hn.below hW) (ho.below hW) h1 lG (by omega) (by omega)).mono fun e w' ⟨b,q1,q2⟩=>⟨b,q1,XR h1 lG hC q2⟩)
open M (aI aC aD aP bA Dd PI sH)
theorem M.PI.aDq {σ:Type} {P:M.Plain σ} {n cap:Nat} {Y:aP} {D:List Dd} {u:Nat→Option Nat} {c t:Nat} (h:PI P n cap Y D u c) (ht:t<n) (hp:(Y.th t).part≠0):(Y.th t).kC n cap≤M.bound n cap:=by
 cases hu:u t with
 |none=>exact absurd ((h.un t ht).1 hu) hp
 |some i =>
  obtain ⟨d,h1,h2,h3⟩:=h.ui t i ht hu
  have hd:d∈D:=List.mem_of_getElem? h1
  have he:d.en=0:=(h.en d hd).2 ⟨by rw [h2];exact hp,by rw [h2];exact h3⟩
  have:=(h.sw d hd he).2.2.2
  rw [h2] at this
  omega
section
variable {σ:Type} {P:M.Plain σ} {tell:σ→List Int} {ok:σ→Prop} {Hp:Nat→Nat→σ→World→Prop}
theorem aA1 (kd kind th cap st co:Int) (a1 a2:Option Addr) (l1 c1 l2 c2 N C:Nat) (hN:(N:Int)=2+pk th 19) (hC:(C:Int)=pk cap 65) (hkd:YR false kind=kd) (l:List wZ) (hl:l.length≤200000) (hi:∀ x∈l,tU x.t∧tU x.n) (s:Value) (w:World) (hs:Scr w s l) (ik:tU kind) (it:tU th) (ic:tU cap)
  (hh:HOk P kd st co (.slice a1 l1 c1) (.slice a2 l2 c2) ok Hp) (hf:aAf P ok)
  (LJ:∀ W,Below w.heap.size w W→Calls Tryz.prog 42 #[.agg #[.int .i64 kd,.int .i64 (N:Int),.int .i64 (C:Int),.int .i64 st,.int .i64 co,.slice a1 l1 c1,.slice a2 l2 c2]] W fun e w'=>∃ b,e = .returned (.tuple #[.pointer (some ⟨b,0,none⟩),.int .i64 0])∧zU P tell N C W b w') :
  Calls Tryz.prog 13 #[.agg #[.int .i64 kind,.int .i64 th,.int .i64 cap,.int .i64 st,.int .i64 co,.slice a1 l1 c1,.slice a2 l2 c2],s] w fun e w'=>e = .returned (.bool true)∧Below w.heap.size w w':=by
 obtain ⟨p0,p1⟩:=gR th 19 (by decide)
 obtain ⟨q0,q1⟩:=gR cap 65 (by decide)
 have hN2:2≤N:=by omega
 have aKR:N≤20:=by omega
 have aEI:N≤64:=by omega
 have aH5:C≤64:=by omega
 have HNC:=aA (And.intro hN (And.intro hC hkd))
 have HCF:=aA (fun W:World=>XG false kind th cap st co a1 a2 l1 c1 l2 c2 ik it ic W)
 have HS:=aA hs
 have HN:=aA LJ
 have HH:=aA (And.intro hh hf)
 clear hs p0 p1 q0 q1 hN hC hkd LJ hh hf
 go_enter Tryz.func13,Tryz.ntmps13
 go_upto_region 1 with fail
 generalize hW:World.alloc w _=W
 have hb0:Below w.heap.size w W:=by rw [←hW];exact aB w _
 have rB:Row W w.heap.size 26 [.int .i64 kind,.int .i64 th,.int .i64 cap,.int .i64 st,.int .i64 co,.slice a1 l1 c1,.slice a2 l2 c2]:=by rw [←hW];exact Row.new' rfl
 obtain ⟨x0,x1,x2,x3,x4,x5,x6⟩:=aAn rB
 have HB:=aA hb0
 clear rB hb0 hW
 go_wp2_with fail
 refine (HCF.out _).mono ?_
 rintro e w1 ⟨rfl,kS⟩
 rw [←HNC.out.1,←HNC.out.2.1,HNC.out.2.2]
 have hB1:=Below.next HB.out kS HB.out.size
 have HPL:=aA (XF (P:=P) (tell:=tell) kd st co N C a1 a2 l1 c1 l2 c2 hN2 aEI aH5 l hl hi s w1 (Scr.below HS.out hB1) (fun W' hW'=>HN.out W' (Below.next hB1 hW' hB1.size)))
 have MF:=aA hB1
 clear kS hB1 HB HCF HN HS x0 x1 x2 x3 x4 x5 x6
 go_wp2_with fail
 refine HPL.out.mono ?_
 rintro e w5 ⟨D,A,X,nJ,nK,nL,nM,nN,nO,nP,rfl,d1,d2,d3,d4,d5,d6,d7,xo,hpg⟩
 have OO:D.n≤64:=by rw [d6];exact aEI
 have aPA:D.n≤20:=by rw [d6];exact aKR
 have FT:D.cap≤64:=by rw [d7];exact aH5
 have TP:=M.BW OO FT
 have hbe:(M.bound D.n D.cap:Int)≤4+2*((D.cap:Int)+3+7*(D.n:Int)+6+2)+3:=by
  unfold M.bound M.vR M.aQ M.tw
  omega
 have HD:=aA (And.intro d1 (And.intro d2 (And.intro d3 (And.intro d4 d5))))
 have aKV:=hpg
 obtain ⟨Y,ds,u,c,S,vd,vu,vs,hpm,-⟩:=aKV
 have c0:w5.cell? ⟨A.bP,0,none⟩=some (.pointer (some ⟨A.bX,0,none⟩)):=hpm.row.cell_of rfl
 have cx:w5.cell? ⟨A.bX,0,none⟩=some (.iface A.tE (.pointer (some ⟨A.bN,0,none⟩))):=hpm.obj.cell_of rfl
 have hm:=xo.mBo
 have hc:=xo.cBo
 have HBO:=aA (xo.bo _ _ _ hpm.x)
 rw [aB9] at HBO
 have HX:=aA xo
 have HPG:=aA hpg
 clear hpm hpg xo HPL d1 d2 d3 d4 d5 d6 d7
 obtain ⟨B,hB⟩:∃ B,B=M.bound D.n D.cap:=⟨_,rfl⟩
 rw [←hB] at HBO TP hbe
 have HBB:=aA hB
 clear hB
 go_wp2_with fail
 refine HBO.out.mono ?_
 rintro e w6 ⟨rfl,LA⟩
 have aKW:=aA (show PG P X D A ⟨w1,fun k=>k<w1.heap.size⟩ (4000+4000*l.length) w6 by
  obtain ⟨Y,ds,u,c,hps⟩:=HPG.out
  exact ⟨Y,ds,u,c,hps.below HX.out LA⟩)
 clear LA c0 cx hm hc HBO HPG
 go_wp2
 go_loopw [7] (fun i w'=>∃ t:Nat,t≤D.n∧i = .int .i64 (t:Int)∧PG P X D A ⟨w1,fun k=>k<w1.heap.size⟩ (4000+4000*l.length+t*2000) w') (fun i _=>D.n-(intOf i).toNat)
 case atStart=>exact ⟨0,Nat.zero_le _,rfl,by rw [Nat.zero_mul,Nat.add_zero];exact aKW.out⟩
 case round =>
  obtain ⟨t,ht,rfl,hpg⟩:=hrel
  obtain ⟨Y,ds,u,c,hps⟩:=hpg
  have aKX:=hps
  obtain ⟨S,vd,vu,vs,hpm,YQ,-⟩:=aKX
  have c2:wr.cell? ⟨A.bP,2,none⟩=some (.int .i64 (D.n:Int)):=hpm.row.cell_of rfl
  by_cases hlt:t<D.n
  ·have hlt':(t:Int)<(D.n:Int):=by omega
   have hmx:t*2000≤19*2000:=Nat.mul_le_mul_right _ (by omega)
   have JY:=aA (LI HX.out hps OO FT hlt B (by omega))
   have HRK:=aA (show (Y.th t).part≠0→(Y.th t).kC D.n D.cap≤B from fun q=>by rw [HBB.out];exact YQ.aDq hlt q)
   have HR0:=aA (show (Y.th t).part=0→(Y.th t).kC D.n D.cap=0 from fun q=>by unfold bA.kC;rw [if_pos q])
   clear hps hpm YQ
   go_wp2_with fail
   refine JY.out.mono ?_
   rintro e w4 ⟨rfl,Y4,ds4,u4,c4,hp4,hr4⟩
   have tG:(Y4.th t).part=0:=by
    rcases hr4 with q|q
    ·exact q
    ·by_cases q0:(Y4.th t).part=0
     ·exact q0
     ·obtain ⟨_,_,_,_,_,aKY,-⟩:=hp4
      have h1:=M.wV (aKY.yi.ok.th t hlt) q0
      by_cases q1:(Y.th t).part=0
      ·have:=HR0.out q1
       omega
      ·have:=HRK.out q1
       omega
   obtain ⟨gu,cu,x,e9,cut,x0,-⟩:=hp4.under hlt
   have hx:x = -1:=x0 tG
   subst hx
   have hk0:(0:Int)≤(t:Int):=by omega
   have HP4:=aA (show PG P X D A ⟨w1,fun k=>k<w1.heap.size⟩ (4000+4000*l.length+(t+1)*2000) w4 from ⟨_,_,_,_,hp4.mono (by omega)⟩)
   clear hr4 hp4 tG x0 JY HRK HR0 c2
   go_wp2
   go_roundw
   case rel=>exact ⟨t+1,by omega,by go_num,HP4.out⟩
   case measure=>simp [intOf];omega
  ·have hlt':¬(t:Int)<(D.n:Int):=by omega
   have hte:t=D.n:=by omega
   subst hte
   have hmx:D.n*2000≤20*2000:=Nat.mul_le_mul_right _ (by omega)
   have c3:wr.cell? ⟨A.bP,3,none⟩=some (.int .i64 (D.cap:Int)):=hpm.row.cell_of rfl
   have hall:Y.order.length≤90000000000:=by
    obtain ⟨_,_,_,_,_,YQ,aAo,-⟩:=hps
    rw [yH]
    have:=YQ.yi.all OO (B:=900000000) (fun k hk=>Nat.le_trans (aAo.1 k hk) (by omega))
    omega
   have hdl:ds.length≤64000000000:=by
    obtain ⟨_,_,_,_,_,YQ,aAo,-⟩:=hps
    exact Nat.le_trans (YQ.count_le OO (K:=1000000000) (fun t ht=>Nat.le_trans (aAo.1 t ht) (by omega))) (by omega)
   obtain ⟨z1,z2,z3,z4,z5⟩:=HD.out
   have HWI:=aA (fun (W:World) (hW:Below wr.heap.size wr W)=>aBf HH.out.1 HX.out (hps.below HX.out hW) (by omega) OO z1 z2 z3 z4 z5 ⟨_,_,_,rfl⟩ ⟨_,_,_,rfl⟩ (fun k hk=>HH.out.2.fits (by omega)))
   have YN:=aA hps
   have HPI:=aA YQ
   have HBW:=aA (Below.next MF.out (PS.bel hps) MF.out.size)
   have HC:=aA (And.intro c2 c3)
   clear hps hpm YQ c3 z1 z2 z3 z4 z5 hlt
   go_wp2
   clear c2
   go_loopw [9] (fun i w'=>∃ q:Nat,q≤ds.length∧i = .int .i64 (q:Int)∧Below wr.heap.size wr w') (fun i _=>ds.length-(intOf i).toNat)
   case atStart=>exact ⟨0,Nat.zero_le _,rfl,Below.refl _ _⟩
   case round =>
    rename_i w9
    obtain ⟨q,hq,rfl,hbq⟩:=hrel
    by_cases hqt:q<ds.length
    ·have aE8:(q:Int)<(ds.length:Int):=by omega
     have hq0:(0:Int)≤(q:Int):=by omega
     have hd:ds[q]?=some ds[q]:=List.getElem?_eq_getElem hqt
     generalize ds[q]=d at hd
     obtain ⟨gf,cf,e8,hcs⟩:=(YN.out.below HX.out hbq).aCa hd
     have k9:=hcs 9 _ rfl
     have hse:¬(B:Int)<(d.st:Int):=by
      have:=HPI.out.se d (List.mem_of_getElem? hd)
      have:=HBB.out
      omega
     have HBQ:=aA hbq
     clear hbq hcs hd
     go_wp2
     go_roundw
     case rel=>exact ⟨q+1,by omega,by go_num,HBQ.out⟩
     case measure=>simp [intOf];omega
    ·have aE8:¬(q:Int)<(ds.length:Int):=by omega
     obtain ⟨ah,ch,e8⟩:=(YN.out.below HX.out hbq).aHW
     have HW9:=aA (HWI.out _ hbq)
     have HBQ:=aA hbq
     clear hbq HWI
     go_wp2_with fail
     refine HW9.out.mono ?_
     rintro e wA ⟨rfl,hbA⟩
     have hBA:=Below.next HBQ.out hbA HBQ.out.size
     have c2:=cell_later hBA HC.out.1
     have c3:=cell_later hBA HC.out.2
     have HBA:=aA (Below.next HBW.out hBA HBW.out.size)
     clear hbA hBA e8 HBQ HW9
     generalize XX:(D.cap:Int)=cc at *
     generalize hnn:(D.n:Int)=nn at *
     have u1:IntKind.i64.wrap (cc+3)=cc+3:=dP _ (by omega) (by omega)
     have u2:IntKind.i64.wrap (7*nn)=7*nn:=dP _ (by omega) (by omega)
     have u3:IntKind.i64.wrap (cc+3+7*nn)=cc+3+7*nn:=dP _ (by omega) (by omega)
     have u4:IntKind.i64.wrap (cc+3+7*nn+6)=cc+3+7*nn+6:=dP _ (by omega) (by omega)
     have u5:IntKind.i64.wrap (cc+3+7*nn+6+2)=cc+3+7*nn+6+2:=dP _ (by omega) (by omega)
     have u6:IntKind.i64.wrap (2*(cc+3+7*nn+6+2))=2*(cc+3+7*nn+6+2):=dP _ (by omega) (by omega)
     have u7:IntKind.i64.wrap (4+2*(cc+3+7*nn+6+2))=4+2*(cc+3+7*nn+6+2):=dP _ (by omega) (by omega)
     have u8:IntKind.i64.wrap (4+2*(cc+3+7*nn+6+2)+3)=4+2*(cc+3+7*nn+6+2)+3:=dP _ (by omega) (by omega)
     go_wp2
     go_quiet (fail)
     go_wp2
     go_ret
     exact ⟨rfl,Below.drewN HBA.out _⟩
end
end Go.Proofs.YtefjhnhdagolhaaGreat
namespace Go.Proofs.YtefjhnhdagolhaaGreat
open Go.RowKit
theorem aBp (kind th cap st co:Int) (nx ou:List Int) (vn vo:Value) (l:List wZ) (hl:l.length≤200000) (hi:∀ x∈l,tU x.t∧tU x.n) (s:Value) (w:World) (hs:Scr w s l) (hn:Sl w vn (ints nx)) (ho:Sl w vo (ints ou)) (ik:tU kind) (it:tU th) (ic:tU cap) :
  Calls Tryz.prog 13 #[.agg #[.int .i64 kind,.int .i64 th,.int .i64 cap,.int .i64 st,.int .i64 co,vn,vo],s] w fun e w'=>e = .returned (.bool true)∧Below w.heap.size w w':=by
 obtain ⟨a1,c1,rfl,f1⟩:=hn.open_ints
 obtain ⟨a2,c2,rfl,f2⟩:=ho.open_ints
 obtain ⟨p0,p1⟩:=gR th 19 (by decide)
 obtain ⟨q0,q1⟩:=gR cap 65 (by decide)
 obtain ⟨N,hN⟩:∃ N:Nat,(N:Int)=2+pk th 19:=⟨(2+pk th 19).toNat,by omega⟩
 obtain ⟨C,hC⟩:∃ C:Nat,(C:Int)=pk cap 65:=⟨(pk cap 65).toNat,by omega⟩
 exact aBB kind st co nx ou _ _ N C (by omega) (by omega) (by omega) w hn ho _ fun σ P tell ok Hp h1 h2 h=>aA1 _ kind th cap st co a1 a2 nx.length c1 ou.length c2 N C hN hC rfl l hl hi s w hs ik it ic h1 h2 h
end Go.Proofs.YtefjhnhdagolhaaGreat
namespace Go.Proofs.YtefjhnhdagolhaaGreat
open Go.ChangeShapes Go.WideShapes Go.ChangeAt Go.RowKit Go.Joins Go.Deep
theorem FW:laidOutB Tryz.prog=true:=by kernel_rfl
theorem TD:ownKnob Tryz.prog.godebug=none:=by kernel_rfl
theorem DZ {H:Type} (d:DataW H):sliceLen d≤Rows.uptoBulk d:=by
 have one:∀ x:DataW H,1≤Rows.uptoBulk x:=by
  intro x
  cases x with
  |lit l=>cases l<;>simp [Rows.uptoBulk]
  |nil=>simp [Rows.uptoBulk]
  |ptr d=>simp [Rows.uptoBulk]
  |slice elems spare=>simp [Rows.uptoBulk]
  |agg parts=>simp [Rows.uptoBulk]
  |iface t d=>simp [Rows.uptoBulk]
  |map entries=>simp [Rows.uptoBulk]
  |held h=>simp [Rows.uptoBulk]
 cases d with
 |slice el sp =>
  have:=FV 1 el fun d _=>one d
  simp only [sliceLen,Rows.uptoBulk]
  omega
 |lit l=>exact Nat.zero_le _
 |nil=>exact Nat.zero_le _
 |ptr d=>exact Nat.zero_le _
 |agg parts=>exact Nat.zero_le _
 |iface t d=>exact Nat.zero_le _
 |map entries=>exact Nat.zero_le _
 |held h=>exact Nat.zero_le _
theorem TE {H:Type} {k t c s o:Int} {dn dou d1:DataW H} (h:Rows.uptoBulkAll [.agg [.lit (.int .i64 k),.lit (.int .i64 t),.lit (.int .i64 c),.agg [.lit (.int .i64 s),.lit (.int .i64 o),dn,dou]],d1]≤1048576):sliceLen dn≤1048576∧sliceLen dou≤1048576∧Rows.uptoBulk d1≤1048576:=by
 have h1:=DZ dn
 have h2:=DZ dou
 simp only [Rows.uptoBulk,Rows.uptoBulkAll] at h
 omega
theorem aAa (H:Type) (enc:TypeId×Value→H) (W:World) (base:Nat) (args:Array Value) (ds gs:List (DataW H)) (before:List MemPlace)
  (hval:∀ (j:Nat) t v,Tryz.f13.params[j]?=some t→args[j]?=some v→Value.okWide Tryz.prog W .any base t v)
  (hW:DataW.Whole enc Tryz.prog Tryz.f13.params.toList Rows.boundedSpec.vars false W args.toList ds gs before) (hk:Rows.uptoSmall H (ds++gs)=true) :
  Calls Tryz.prog 13 args W fun e W'=>∃ v,e = .returned v∧Rows.boundedSpec.post enc Tryz.prog Tryz.f13 false true false false W args v W':=by
 have hW':=hW
 obtain ⟨p,q,hA0,hV,rfl,hfz,hnd⟩:=hW
 have hA:DataW.TrodAll enc Tryz.prog W 0 (fun _=>true) true Tryz.f13.params.toList args.toList ds p:=hA0
 rw [Tryz.params13] at hA hval
 obtain ⟨v0,vs0,d0,ds0,p0,q0,hargs,rfl,rfl,h0,r0⟩:=trodAll_cons hA
 obtain ⟨v1,vs1,d1,ds1,p1,q1,rfl,rfl,rfl,h1,r1⟩:=trodAll_cons r0
 obtain ⟨rfl,rfl,rfl⟩:=trodAll_nil r1
 obtain rfl:args=#[v0,v1]:=by cases args;simp_all
 obtain ⟨rfl,rfl⟩:=trodVars_none hV
 have h0k:=h0
 have h1k:=h1
 obtain ⟨kind,th,cap,st,co,nx,ou,vn,vo,dn,dou,rfl,s1,s2,rfl,l1,l2,hwf⟩:=LP (hval 0 26 v0 rfl rfl) h0
 obtain ⟨l,hs,hi,hlb⟩:=LY (hval 1 29 v1 rfl rfl) h1
 clear hA0
 simp only [List.append_nil] at hW' hk
 have hlt:∀ x∈p0++p1,x.block<W.heap.size:=fun x hx=>by simpa using hW'.lt x (by simpa using hx)
 obtain ⟨b1,b2,b3⟩:=TE (of_decide_eq_true hk)
 have hw:∀ x∈[kind,th,cap,st,co]++nx++ou,tU x:=fun x hx=>wf_i64 (hwf x hx)
 refine (aBp kind th cap st co nx ou vn vo l (by omega) hi v1 W hs s1 s2 (hw kind (by simp)) (hw th (by simp)) (hw cap (by simp))).mono fun e W' ⟨he,hb⟩=>?_
 subst he
 have aIl:DataW.Trod enc Tryz.prog W' 0 (fun b=>decide (b<W.heap.size)) true 26 _ _ p0:=Below.trod FW (by kernel_rfl) (of_decide_eq_true (by kernel_rfl)) h0k hb (fun x hx=>hlt x (by simp [hx]))
 have aIm:DataW.Trod enc Tryz.prog W' 0 (fun b=>decide (b<W.heap.size)) true 29 _ _ p1:=Below.trod FW (by kernel_rfl) (of_decide_eq_true (by kernel_rfl)) h1k hb (fun x hx=>hlt x (by simp [hx]))
 exact ⟨_,rfl,⟨_,_,_,[],p0++p1,[],hW',trodAll_cons_mk (shut_bool Tryz.underlying4 _) trodAll_mk0,trodAll_cons_mk aIl (trodAll_mk1 aIm),rfl,hb.frame _,fun h=>by cases h⟩⟩
theorem aAM (os:Os) (started:os.Started) (H:Type) (enc:TypeId×Value→H) (F:Stop.Interp) :
  ReturnsInHanded {} Tryz.checked os 13 .any ((Rows.OpenSpec.upto Rows.boundedSpec).pre6 enc Tryz.prog Tryz.f13 Rows.boundedUptoRow.domain false) (((Rows.OpenSpec.upto Rows.boundedSpec).at F).post enc Tryz.prog Tryz.f13 false true false false):=by
 refine returnsInHanded_of_cond (C:=Tryz.checked) (s:=Rows.OpenSpec.upto Rows.boundedSpec) (k:=Rows.uptoSmall) rfl TD started (by kernel_rfl) Tryz.func13
  (OpenSpec.witness (enc:=enc) (C:=Tryz.checked) (s:=Rows.OpenSpec.upto Rows.boundedSpec) (k:=Rows.uptoSmall) rfl false ⟨#[],#[.agg #[.int .i64 0,.int .i64 0,.int .i64 0,.int .i64 0,.int .i64 0,.slice none 0 0,.slice none 0 0],.slice none 0 0],[]⟩ 8 (by kernel_rfl) (by kernel_rfl) (by kernel_rfl)
   (x:=([.agg [.lit (.int .i64 0),.lit (.int .i64 0),.lit (.int .i64 0),.agg [.lit (.int .i64 0),.lit (.int .i64 0),.nil,.nil]],.nil],[],[])) (by kernel_rfl) rfl (by kernel_rfl)) ?_
 intro W base args ds gs before hval hW _ hk _
 exact aAa H enc W base args ds gs before hval hW hk
theorem aCp {a b:Bool} (h:a=true) (h':b=true):(a && b)=true:=by rw [h,h'];rfl
theorem aAU:Tryz.pinned.checked.prog.funcNamed Rows.boundedUptoRow.func=some 13:=by kernel_rfl
theorem aAW:joinedFacts Tryz.pinned.checked.prog 13 Tryz.f13 (Rows.OpenSpec.upto Rows.boundedSpec).bare Rows.boundedUptoRow=true:=by
 unfold joinedFacts
 repeat' with_reducible refine aCp ?_ ?_
 all_goals as_aux_lemma=>kernel_rfl
theorem aA2:Tryz.f13.isInstance Tryz.pinned.checked.prog Rows.boundedUptoRow.origin Rows.boundedUptoRow.targs:=of_decide_eq_true (by kernel_rfl)
theorem aA4:Tryz.f13.isWrapper Tryz.pinned.checked.prog Rows.boundedUptoRow.wrapper Rows.boundedUptoRow.mainSum:=by
 unfold Func.isWrapper
 first
  |(rw [if_pos (by decide +kernel)];kernel_rfl)
  |(rw [if_neg (by decide +kernel)];exact ⟨rfl,rfl⟩)
theorem bounded_upto:Rows.BoundedUptoSaid :=
 OpenClaim.holds_of_cond 13 Tryz.f13 rfl rfl rfl rfl rfl rfl rfl ⟨rfl,rfl,rfl,rfl,rfl⟩ rfl rfl rfl rfl rfl aAU Tryz.func13 aAW aA2 aA4
  (fun os started H enc _ F=>aAM os started H enc F)
end Go.Proofs.YtefjhnhdagolhaaGreat
