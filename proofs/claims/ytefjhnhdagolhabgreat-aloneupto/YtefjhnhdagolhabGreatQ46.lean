import Derived.Test.YtefjhnhdagolhabGreatQ10
import Derived.Test.YtefjhnhdagolhabGreatQ45
import Derived.Deep.DeepCutAuto
import Derived.Test.YtefjhnhdagolhabGreatQ35
import Derived.Test.YtefjhnhdagolhabGreatRows
set_option maxHeartbeats 20000000
set_option maxRecDepth 100000
namespace Go.Proofs.YtefjhnhdagolhabGreat
open Go.RowKit
open M (aT)
attribute [local go_sem ↓] Go.wp_at_zero Go.wp_at_succ
theorem yB {w1 w2:World} {b1 b2 o1 o2 o3 o4:Nat} {v1 v2 v3 v4:Value} (h:w1.cell? ⟨b1,o1,none⟩=some v1∧w1.cell? ⟨b2,o2,none⟩=some v2∧w1.cell? ⟨b2,o3,none⟩=some v3∧w1.cell? ⟨b2,o4,none⟩=some v4) (h1:w2.heap[b1]?=w1.heap[b1]?) (h2:w2.heap[b2]?=w1.heap[b2]?) :
  w2.cell? ⟨b1,o1,none⟩=some v1∧w2.cell? ⟨b2,o2,none⟩=some v2∧w2.cell? ⟨b2,o3,none⟩=some v3∧w2.cell? ⟨b2,o4,none⟩=some v4:=⟨fW h.1 h1,fW h.2.1 h2,fW h.2.2.1 h2,fW h.2.2.2 h2⟩
theorem uW.DN {w:World} {l:List Int} {a:Option Addr} {c:Nat} (h:uW w (.slice a l.length c) l):rW w a l:=fun _ _ hy=>h.get hy
section
variable {σ:Type} {P:M.Plain σ} {tell:σ→List Int} {ok:σ→Prop} {Ho:Nat→Value→σ→World→Prop}
theorem OG (kd kind th cap st co:Int) (a1 a2:Option Addr) (l1 c1 l2 c2 N C:Nat) (hN:(N:Int)=2+pk th 19) (hC:(C:Int)=pk cap 65) (hkd:SQ false kind=kd) (os:List M.Op) (hl:os.length≤600000) (ts:List Int) (hi:∀ x∈ts,MZ x) (va vt:Option Addr) (ca ct:Nat) (w:World) (hs:aBv w va os) (hts:rW w vt ts) (ik:MZ kind) (it:MZ th) (ic:MZ cap)
  (ho:JF P kd ok Ho) (hte:yA kd tell Ho) (hf:yZ P ok)
  (aDJ:∀ W,Below w.heap.size w W→Calls Tryz.prog 6 #[.agg #[.int .i64 kd,.int .i64 (N:Int),.int .i64 (C:Int),.int .i64 st,.int .i64 co,.slice a1 l1 c1,.slice a2 l2 c2]] W fun e w'=>∃ b,e = .returned (.tuple #[.pointer (some ⟨b,0,none⟩),.int .i64 0])∧vD P tell N C W b w') :
  Calls Tryz.prog 3 #[.agg #[.int .i64 kind,.int .i64 th,.int .i64 cap,.int .i64 st,.int .i64 co,.slice a1 l1 c1,.slice a2 l2 c2],.slice va os.length ca,.slice vt ts.length ct] w fun e w'=>e = .returned (.bool true)∧Below w.heap.size w w':=by
 obtain ⟨p0,p1⟩:=jB th 19 (by decide)
 obtain ⟨q0,q1⟩:=jB cap 65 (by decide)
 have hN2:2≤N:=by omega
 have aGH:N≤64:=by omega
 have aGI:C≤64:=by omega
 have HNC:=aA (And.intro hN (And.intro hC hkd))
 have HCF:=aA (fun W:World=>VR false kind th cap st co a1 a2 l1 c1 l2 c2 ik it ic W)
 have HS:=aA hs
 have HTS:=aA hts
 have HI:=aA hi
 have HN:=aA aDJ
 have HO:=aA ho
 have HTE:=aA hte
 have HF:=aA hf
 clear hs hts hi p0 p1 q0 q1 hN hC hkd aDJ ho hte hf
 go_enter Tryz.func3,Tryz.ntmps3
 go_upto_region 1 with fail
 generalize hW:World.alloc w _=W
 have hb0:Below w.heap.size w W:=by rw [←hW];exact aB w _
 have rB:Row W w.heap.size 26 [.int .i64 kind,.int .i64 th,.int .i64 cap,.int .i64 st,.int .i64 co,.slice a1 l1 c1,.slice a2 l2 c2]:=by rw [←hW];exact Row.new' rfl
 obtain ⟨x0,x1,x2,x3,x4,x5,x6⟩:=IU rB
 have HB:=aA hb0
 have HRB:=aA rB
 clear rB hb0 hW
 go_wp2_with fail
 refine (HCF.out _).mono ?_
 rintro e w1 ⟨rfl,lW⟩
 rw [←HNC.out.1,←HNC.out.2.1,HNC.out.2.2]
 have rB1:=HRB.out.old lW
 have WT:=aA (Below.next HB.out lW HB.out.size)
 clear x0 x1 x2 x3 x4 x5 x6 HB lW HCF
 obtain ⟨x0,x1,x2,x3,x4,x5,x6⟩:=IU rB1
 obtain ⟨y0,y1,y2,y3,y4,y5,y6⟩:=WJ rB1
 have uX:=aA rB1
 clear rB1 HRB
 go_upto_region 2 with fail
 have r2:=SA (y0:=.int .i64 kd) (y1:=.int .i64 (N:Int)) (y2:=.int .i64 (C:Int)) (y3:=.int .i64 st) (y4:=.int .i64 co) (y5:=.slice a1 l1 c1) (y6:=.slice a2 l2 c2) uX.out
 have b2:=LM (y0:=.int .i64 kd) (y1:=.int .i64 (N:Int)) (y2:=.int .i64 (C:Int)) (y3:=.int .i64 st) (y4:=.int .i64 co) (y5:=.slice a1 l1 c1) (y6:=.slice a2 l2 c2) WT.out (Nat.le_refl w.heap.size)
 generalize World.setCell _ _ _=W2 at *
 clear x0 x1 x2 x3 x4 x5 x6 y0 y1 y2 y3 y4 y5 y6
 obtain ⟨x0,x1,x2,x3,x4,x5,x6⟩:=IU r2
 have HR2:=aA r2
 have DT:=aA b2
 clear r2 b2 uX WT
 go_wp2_with fail
 refine (HN.out W2 DT.out).mono ?_
 rintro e w3 ⟨bX,rfl,tE,bN,S0,X,FX,FY,FZ,hxo,hx,hrx,hS,hbx,cH⟩
 obtain ⟨D,xB,xC⟩:∃ D:DL,D.n=N∧D.cap=C:=⟨{b:=0,n:=N,cap:=C,g:=0,gc:=0,bT:=fun _=>0,bF:=fun _=>0,kind:=0,st:=0,co:=0,vn:=.slice none 0 0,vo:=.slice none 0 0,nx:=[],ou:=[]},rfl,rfl⟩
 have xo:=hxo D xB xC
 have hmD:=xo.mDo
 have hcD:=xo.cDo
 have hmO:=xo.mOr
 have hcO:=xo.cOr
 have hmT:=xo.mTe
 have hcT:=xo.cTe
 have HX:=aA xo
 have HDN:=aA (And.intro xB xC)
 have r3:=HR2.out.old cH
 have hzw:=HR2.out.lt
 clear x0 x1 x2 x3 x4 x5 x6
 have x0:=r3.cell_of (i:=0) rfl
 have HW3:=aA (And.intro hx (And.intro hrx (And.intro hS (And.intro hbx (And.intro cH r3)))))
 have aKU:=cH.size
 have aKV:=DT.out.size
 clear xo hxo hx hrx hS hbx cH r3 HN xB xC HR2
 go_upto_region 6 with fail
 generalize hA4:World.alloc w3 _=W4
 have cR:Below w3.heap.size w3 W4:=by rw [←hA4];exact aB w3 _
 have rH:Row W4 w3.heap.size 35 (hdA kd 0++[.slice none 0 0]):=by rw [←hA4];exact Row.new' rfl
 have HA0:=aA (show AW X Ho tE bN bX w.heap.size w3.heap.size [.int .i64 kd,.int .i64 (N:Int),.int .i64 (C:Int),.int .i64 st,.int .i64 co,.slice a1 l1 c1,.slice a2 l2 c2] w S0 M.Y0 (.slice none 0 0) (tF P M.Y0 M.Y0.order.length).st W4 from by
  obtain ⟨hx,hrx,hS,hbx,cH,r3⟩:=HW3.out
  have lx:=hrx.lt
  have lc:=r3.lt
  refine ⟨HX.out.stay _ _ _ _ _ hx (fun k hk=>cR.block k (HX.out.lt _ _ _ hx k hk)) (fun _ q=>q) (fun k hk=>Nat.lt_of_lt_of_le (HX.out.lt _ _ _ hx k hk) cR.size),HO.out.new _ _ rH,hrx.old cR,r3.old cR,fun k hk=>?_,fun k c=>(by cases c),⟨by omega,by omega,by omega,Nat.le_refl _,by omega⟩,Below.next (Below.next DT.out cH DT.out.size) cR (Below.next DT.out cH DT.out.size).size⟩
  obtain ⟨s1,s2,s3⟩:=hS k hk
  exact ⟨s3,by omega,by omega,fun c=>(by cases c),by omega⟩)
 clear hA4 cR rH x0 HW3 DT
 generalize w3.heap.size=bH at *
 go_wp2
 go_loopw [10] (fun i w'=>∃ (k:Nat) (S:Nat→Prop) (Y:aT) (vh:Value),k≤os.length∧i = .int .i64 (k:Int)∧AY P D k Y∧AW X Ho tE bN bX w.heap.size bH [.int .i64 kd,.int .i64 (N:Int),.int .i64 (C:Int),.int .i64 st,.int .i64 co,.slice a1 l1 c1,.slice a2 l2 c2] w S Y vh (tF P Y Y.order.length).st w') (fun i _=>os.length-(intOf i).toNat)
 case atStart=>exact ⟨0,S0,M.Y0,_,Nat.zero_le _,rfl,AY.new P D,HA0.out⟩
 case round =>
  clear HA0
  obtain ⟨k,S,Y,vh,hk,rfl,hy,ha⟩:=hrel
  have HA:=aA ha
  have HY:=aA hy
  have hYl:=hy.ol
  have hok:=HF.out.fits (Y:=Y) (k:=Y.order.length) (by omega)
  have HOK:=aA hok
  have cx:=ha.rx.cell_of (i:=0) rfl
  clear hok
  by_cases hlt:k<os.length
  ·have hlt':(k:Int)<(os.length:Int):=by omega
   have hk0:(0:Int)≤(k:Int):=by omega
   have hge:=List.getElem?_eq_getElem hlt
   generalize os[k]=o at hge
   obtain ⟨g,off,rfl,o0,o1,o2⟩:=HS.out k o hge
   have GI:g<w.heap.size:=World.block_lt_of_cell? w _ o0
   have PR:=aA (And.intro o0 (And.intro o1 o2))
   have HLN:=aA hYl
   clear o0 o1 o2 hge ha hy cx hYl
   go_upto_if 45 with fail
   go_cut [11] (fun v w'=>∃ t:Nat,t<N∧v = .int .i64 (t:Int)∧∃ q,w'=wr.drewN q)
   case first =>
    by_cases hts:k<ts.length
    ·have aGO:(k:Int)<(ts.length:Int):=by omega
     obtain ⟨gt,ot,rfl,t0⟩:=HTS.out k _ (List.getElem?_eq_getElem hts)
     have ZZ:=HI.out _ (List.getElem_mem hts)
     generalize ts[k]=x at t0 ZZ
     replace t0:=cell_later HA.out.bl t0
     have c1:=HA.out.rc.cell_of (i:=1) rfl
     obtain ⟨u0,u1⟩:=jB x (N:Int) (by omega)
     have HPK:=aA (fun n=>Calls.quiet_of_same (n:=n) (wD x (N:Int) (wr.drewN n) (by omega) (by omega) ZZ.1 ZZ.2))
     obtain ⟨t,ht⟩:∃ t:Nat,pk x (N:Int)=(t:Int):=⟨(pk x (N:Int)).toNat,by omega⟩
     rw [ht] at HPK u1
     have HT:=aA (show t<N by omega)
     clear ht u0 u1 ZZ
     go_upto_region 11 with fail
     go_quiet ((go_at_call 7;with_reducible exact HPK.out _))
     go_wp2
     go_meet
     case rel=>exact ⟨t,HT.out,rfl,nq,rfl⟩
    ·have aGO:¬(k:Int)<(ts.length:Int):=by omega
     go_wp2
     go_meet
     case rel=>exact ⟨0,by omega,rfl,0,rfl⟩
   case rest =>
    obtain ⟨t,htn,rfl,q,rfl⟩:=hcut
    generalize hWd:wr.drewN q=Wd
    have ha:=HA.out.later HX.out HO.out (show Below wr.heap.size wr Wd by rw [←hWd];exact Below.drewN (Below.refl _ _) q)
    have htD:t<D.n:=by rw [HDN.out.1];exact htn
    obtain ⟨o0,o1,o2⟩:=PR.out
    replace o0:=cell_later ha.bl o0
    replace o1:=cell_later ha.bl o1
    replace o2:=cell_later ha.bl o2
    have cx:=ha.rx.cell_of (i:=0) rfl
    have HBX:=aA (fun (Wa:World) (hB:Below Wd.heap.size Wd Wa)=>HX.out.dd S Y Wa (t:Int) o k (HX.out.stay _ _ _ _ _ ha.x (fun j hj=>hB.block j (HX.out.lt _ _ _ ha.x j hj)) (fun _ q=>q) (fun j hj=>Nat.lt_of_lt_of_le (HX.out.lt _ _ _ ha.x j hj) hB.size)) HY.out.lim (by omega))
    obtain ⟨e1,e2⟩:=HY.out.YC htD o
    rw [e1,e2] at HBX
    obtain ⟨n1,n2,n3,m,n4,n5,n6⟩:=HY.out.next (by omega) (by rw [HDN.out.1];exact aGH) (by rw [HDN.out.2];exact aGI) htD o
    generalize M.fin D.n D.cap t (M.aY Y t o)=Y' at *
    rw [n3] at HBX
    unfold tri at HBX
    have HN1:=aA (And.intro n1 (And.intro n2 (And.intro n4 (And.intro n5 n6))))
    have HA1:=aA ha
    have hgW:g<Wd.heap.size:=Nat.lt_of_lt_of_le GI ha.bl.size
    have hxW:bX<Wd.heap.size:=ha.rx.lt
    have hnX:¬S bX:=fun c=>(ha.ds _ c).1 rfl
    have hnG:¬S g:=fun c=>by have:=(ha.ds _ c).2.2.2.2;omega
    have hXl:=HX.out.lt _ _ _ ha.x
    have hnW:¬S Wd.heap.size:=fun c=>by have:=hXl _ c;omega
    have HXL:=aA hXl
    have HD:=aA (fun (W':World) (h:Ho bH vh (tF P Y Y.order.length).st W')=>HO.out.does bH vh _ W' o h HOK.out)
    clear e1 e2 n1 n2 n3 n4 n5 n6 ha htD hWd HA hXl
    generalize (P.apply (tF P Y Y.order.length).st o).2.s=rs at *
    generalize (P.apply (tF P Y Y.order.length).st o).2.v=rv at *
    go_upto_region 12 with fail
    go_cut [12,13] (fun p7 e8 w'=>∃ b7:Nat,p7 = .pointer (some ⟨b7,0,none⟩)∧e8 = .int .i64 0∧Row w' b7 38 [.int .i64 rs,.int .i64 rv]∧Wd.heap.size≤b7∧zH X S Wd Y' w')
    case first =>
     have RNA:=aA (show ∀ w5,Fr S (Wd.alloc (.cells #[.int .i64 0,.int .i64 0] 38)).drew w5→Row w5 Wd.heap.size 38 [.int .i64 0,.int .i64 0] from fun w5 hf=>(show Row (Wd.alloc (.cells #[.int .i64 0,.int .i64 0] 38)).drew Wd.heap.size 38 [.int .i64 0,.int .i64 0] from Row.new Wd [.int .i64 0,.int .i64 0] _).of_block (hf.block _ (by simp) hnW))
     refine fQ (S:=(fun w'=>w'.cell? ⟨bX,0,none⟩=some (.iface tE (.pointer (some ⟨bN,0,none⟩)))∧w'.cell? ⟨g,off+k*3,none⟩=some (.int .i64 o.c)∧w'.cell? ⟨g,off+k*3+1,none⟩=some (.int .i64 o.a)∧w'.cell? ⟨g,off+k*3+2,none⟩=some (.int .i64 o.b))) 18 rfl (by kernel_rfl) ?_ (fun hHeld=>?_)
     ·exact ⟨cx,o0,o1,o2⟩
     iterate 11 (refine tk 17 (by rfl) (by kernel_rfl) (by exact fun _ _ _ h=>h) (.inl ⟨by rfl,fun w hS=>by (try dsimp only at hS);go_simp;(try with_reducible rfl)⟩) (by assumption) ?_;try go_frame)
     refine wpAnyH_ready (rs:=[11,15]) (by kernel_rfl) (by simp) (rc (by rfl) (fun K hK=>?_) (rc (by rfl) (fun K hK=>?_) AllReadyH.nil))
     ·go_simp
      refine (HBX.out _ (by repeat (first|exact Below.refl _ _|refine Below.drew ?_|refine Below.alloc ?_ (by first|(simp;done)|(simp;omega)) _))).mono ?_
      rintro e w5 ⟨rfl,hg5⟩
      have vC:=hg5.fr
      have RS:=aA hg5
      clear hg5
      go_wp2_with fail
      refine hK.out _ _ ?_ (fun hHeld=>?_)
      ·exact yB hHeld (vC.block _ (by first|exact hxW|(simp;omega)) hnX) (vC.block _ (by first|exact hgW|(simp;omega)) hnG)
      clear hK K
      (try go_frame)
      iterate 3 (refine tk 17 (by rfl) (by kernel_rfl) (by exact fun _ _ _ h=>h) (.inl ⟨by rfl,fun w hS=>by (try dsimp only at hS);go_simp;(try with_reducible rfl)⟩) (by assumption) ?_;try go_frame)
      refine bK 15 (by rfl) (by kernel_rfl) (fun K hK=>?_)
      go_simp
      refine hK.out _ _ ?_ (fun hHeld=>?_)
      ·exact yB hHeld ((aB _ _).block _ (by first|exact hxW|(have q:=vC.size;simp at q;omega))) ((aB _ _).block _ (by first|exact hgW|(have q:=vC.size;simp at q;omega)))
      clear hK K
      (try go_frame)
      refine bK 16 (by rfl) (by kernel_rfl) (fun K hK=>?_)
      rw [if_pos (by rfl)]
      refine wp_store_mid _ _ _ rfl _ 0 #[.int .i64 rs,.int .i64 rv] rfl rfl ?_ (by kernel_rfl) (by simp [Value.oneCell']) ?_
      ·first|exact Row.there (Row.new _ [_,_] _) (by simp)|exact Row.there (RNA.out _ vC) (by simp)
      refine hK.out _ _ ?_ (fun hHeld=>?_)
      ·exact yB hHeld (fI _ _ _ _ (by first|omega|(have q:=vC.size;simp at q;omega))) (fI _ _ _ _ (by first|omega|(have q:=vC.size;simp at q;omega)))
      clear hK K
      (try go_frame)
      iterate 1 (refine tk 17 (by rfl) (by kernel_rfl) (by exact fun _ _ _ h=>h) (.inl ⟨by rfl,fun w hS=>by (try dsimp only at hS);go_simp;(try with_reducible rfl)⟩) (by assumption) ?_;try go_frame)
      refine wpAnyH_done (by kernel_rfl) ?_ _
      (try go_wp2_with fail)
      go_meet
      case rel =>
       first
        |exact ⟨w5.heap.size,rfl,rfl,((Row.new w5 [.int .i64 0,.int .i64 0] 38).set 0 _).set 1 _,vC.size,zH.ZY HX.out (zH.PX RS.out) _ [.int .i64 rs,.int .i64 rv]⟩
        |exact ⟨Wd.heap.size,rfl,rfl,((RNA.out _ vC).set 0 _).set 1 _,Nat.le_refl _,zH.ZX HX.out (Below.drew (aB Wd _)) HXL.out (by simp) RS.out [.int .i64 rs,.int .i64 rv]⟩
     ·go_simp
      refine hK.out _ _ ?_ (fun hHeld=>?_)
      ·exact yB hHeld ((aB _ _).block _ (by first|exact hxW|(have q:=vC.size;simp at q;omega))) ((aB _ _).block _ (by first|exact hgW|(have q:=vC.size;simp at q;omega)))
      clear hK K
      (try go_frame)
      refine bK 11 (by rfl) (by kernel_rfl) (fun K hK=>?_)
      go_simp
      refine (HBX.out _ (by repeat (first|exact Below.refl _ _|refine Below.drew ?_|refine Below.alloc ?_ (by first|(simp;done)|(simp;omega)) _))).mono ?_
      rintro e w5 ⟨rfl,hg5⟩
      have vC:=hg5.fr
      have RS:=aA hg5
      clear hg5
      go_wp2_with fail
      refine hK.out _ _ ?_ (fun hHeld=>?_)
      ·exact yB hHeld (vC.block _ (by first|exact hxW|(simp;omega)) hnX) (vC.block _ (by first|exact hgW|(simp;omega)) hnG)
      clear hK K
      (try go_frame)
      iterate 3 (refine tk 16 (by rfl) (by kernel_rfl) (by exact fun _ _ _ h=>h) (.inl ⟨by rfl,fun w hS=>by (try dsimp only at hS);go_simp;(try with_reducible rfl)⟩) (by assumption) ?_;try go_frame)
      refine bK 16 (by rfl) (by kernel_rfl) (fun K hK=>?_)
      rw [if_pos (by rfl)]
      refine wp_store_mid _ _ _ rfl _ 0 #[.int .i64 rs,.int .i64 rv] rfl rfl ?_ (by kernel_rfl) (by simp [Value.oneCell']) ?_
      ·first|exact Row.there (Row.new _ [_,_] _) (by simp)|exact Row.there (RNA.out _ vC) (by simp)
      refine hK.out _ _ ?_ (fun hHeld=>?_)
      ·exact yB hHeld (fI _ _ _ _ (by first|omega|(have q:=vC.size;simp at q;omega))) (fI _ _ _ _ (by first|omega|(have q:=vC.size;simp at q;omega)))
      clear hK K
      (try go_frame)
      iterate 1 (refine tk 17 (by rfl) (by kernel_rfl) (by exact fun _ _ _ h=>h) (.inl ⟨by rfl,fun w hS=>by (try dsimp only at hS);go_simp;(try with_reducible rfl)⟩) (by assumption) ?_;try go_frame)
      refine wpAnyH_done (by kernel_rfl) ?_ _
      (try go_wp2_with fail)
      go_meet
      case rel =>
       first
        |exact ⟨w5.heap.size,rfl,rfl,((Row.new w5 [.int .i64 0,.int .i64 0] 38).set 0 _).set 1 _,vC.size,zH.ZY HX.out (zH.PX RS.out) _ [.int .i64 rs,.int .i64 rv]⟩
        |exact ⟨Wd.heap.size,rfl,rfl,((RNA.out _ vC).set 0 _).set 1 _,Nat.le_refl _,zH.ZX HX.out (Below.drew (aB Wd _)) HXL.out (by simp) RS.out [.int .i64 rs,.int .i64 rv]⟩
    case rest =>
     rename World=>W5
     obtain ⟨b7,rfl,rfl,hr7,h7,hgx⟩:=hcut
     have ha5:=HA1.out.xgo HO.out hgx
     obtain ⟨o0,o1,o2⟩:=PR.out
     replace o0:=cell_later ha5.bl o0
     replace o1:=cell_later ha5.bl o1
     replace o2:=cell_later ha5.bl o2
     have HH:=aA (HD.out _ ha5.h)
     have HV:=aA (HO.out.lt _ _ _ _ HA1.out.h)
     have HA5:=aA ha5
     have vE:=aA hr7
     clear ha5 hr7 hgx HA1 HBX HXL cx hnX hnG hnW hxW hgW
     go_wp2_with fail
     refine HH.out.mono ?_
     rintro e w6 ⟨rfl,vh6,g1,g2,g3⟩
     have HA6:=aA (HA5.out.hgo HX.out HO.out g1 g2 g3)
     have aDN:=aA (vE.out.of_block (g3.block b7 vE.out.lt (fun c=>by have:=HV.out b7 c;omega)))
     clear g1 g2 g3 HH HA5 vE HV o0 o1 o2
     go_upto_region 14 with fail
     generalize hA8:World.alloc w6 _=W8
     have b8:Below w6.heap.size w6 W8:=by rw [←hA8];exact aB _ _
     have r8:Row W8 w6.heap.size 38 [.int .i64 rs,.int .i64 rv]:=by rw [←hA8];exact Row.new' rfl
     have ha8:=HA6.out.later HX.out HO.out b8
     have cx:=ha8.rx.cell_of (i:=0) rfl
     obtain ⟨n1,n2,n4,n5,n6⟩:=HN1.out
     have SP:=aA (HX.out.or _ _ _ ha8.x (n1.lim.mono (by omega)))
     have HA8:=aA ha8
     have HR8:=aA r8
     have aBx:=aA (aDN.out.old b8)
     clear ha8 r8 b8 hA8 HA6 aDN n1 n2 n4 n5 n6
     go_wp2_with fail
     refine SP.out.mono ?_
     rintro e w9 ⟨vl,rfl,how,XE⟩
     obtain ⟨n1,n2,n4,n5,n6⟩:=HN1.out
     obtain ⟨og,oc,rfl,m0,m1,-⟩:=NN how n4
     rw [n1.ol]
     have m0':w9.cell? ⟨og,k*3,none⟩=some (.int .i64 ((k:Int)+1)):=by rw [m0,n5];rfl
     have m1':w9.cell? ⟨og,k*3+1,none⟩=some (.int .i64 (t:Int)):=by rw [m1,n6]
     have HF9:=aA (show AY P D (k+1) Y'∧AW X Ho tE bN bX w.heap.size bH [.int .i64 kd,.int .i64 (N:Int),.int .i64 (C:Int),.int .i64 st,.int .i64 co,.slice a1 l1 c1,.slice a2 l2 c2] w _ Y' vh6 (tF P Y' Y'.order.length).st w9 from ⟨n1,by rw [n2];exact HA8.out.later HX.out HO.out XE⟩)
     have p0:=(aBx.out.old XE).cell_of (i:=0) rfl
     have p1:=(aBx.out.old XE).cell_of (i:=1) rfl
     have q0:=(HR8.out.old XE).cell_of (i:=0) rfl
     have q1:=(HR8.out.old XE).cell_of (i:=1) rfl
     have hw1:IntKind.i64.wrap ((k:Int)+1)=(k:Int)+1:=dR _ (by omega) (by omega)
     have LS:(k:Int)<(k:Int)+1:=by omega
     clear how XE n1 n2 n4 n5 n6 m0 m1 HA8 HR8 aBx SP cx
     go_wp2_with fail
     go_roundw
     case rel=>exact ⟨k+1,_,_,_,by omega,by go_num,HF9.out.1,HF9.out.2⟩
     case measure=>simp [intOf];omega
  ·have hlt':¬(k:Int)<(os.length:Int):=by omega
   have HST:=aA (HX.out.te _ _ _ ha.x (hy.lim.mono (by omega)))
   have c0:=ha.rc.cell_of (i:=0) rfl
   clear ha hy hYl
   go_wp2_with fail
   refine HST.out.mono ?_
   rintro e w9 ⟨vl,rfl,how,XE⟩
   have hq:=uW.IJ how
   have hmx:=(gN how).2
   obtain ⟨la,lc,rfl⟩:=hq.form
   have ha9:=HA.out.later HX.out HO.out XE
   have HB9:=aA ha9.bl
   have aGW:=HTE.out _ _ _ _ ha9.h
   replace c0:=cell_later XE c0
   clear how XE ha9 HST HA cx hmD hcD hmO hcO hmT hcT
   generalize tell (tF P Y Y.order.length).st=xs at *
   have hml:xs.length≤9223372036854775807:=hmx
   have HQ:=aA hq
   clear hq hmx
   rcases aGW with ⟨e0,n,e1,c5⟩|⟨e0,c6,q6⟩|⟨e0,c6,q6⟩|⟨e0,z,l,e1,aGX,aDO,c6,q6⟩
   ·subst e0 e1
    obtain ⟨g,off,rfl,d0⟩:=HQ.out.get (k:=0) (y:=n) rfl
    rw [Nat.add_zero] at d0
    go_wp2
    go_quiet (fail)
    go_wp2
    go_ret
    exact ⟨rfl,Below.drewN HB9.out _⟩
   ·subst e0
    obtain ⟨lb,cb,rfl⟩:=q6.form
    rw [List.length_reverse] at c6
    have hR:rW w9 lb xs.reverse:=q6.DN
    have HC6:=aA c6
    have HCR:=aA hR
    clear q6 hR
    go_wp2
    go_loopw [17,18] (fun v i w'=>∃ j:Nat,j≤xs.length∧i = .int .i64 (j:Int)∧v = .bool true∧∃ q,w'=w9.drewN q) (fun _ i _=>xs.length-(intOf i).toNat)
    case atStart=>exact ⟨0,Nat.zero_le _,rfl,by simp,0,rfl⟩
    case round =>
     obtain ⟨j,hj,rfl,rfl,q,rfl⟩:=hrel
     by_cases hjl:j<xs.length
     ·have hj1:(j:Int)<(xs.length:Int):=by omega
      have hj0:(0:Int)≤(j:Int):=by omega
      obtain ⟨g,off,rfl,d0⟩:=HQ.out.get (k:=j) (y:=xs[j]) (List.getElem?_eq_getElem hjl)
      obtain ⟨m,hm⟩:∃ m:Nat,(m:Int)=(xs.length:Int)-1-(j:Int):=⟨xs.length-1-j,by omega⟩
      have hmr:xs.reverse[m]?=some xs[j]:=by
       rw [List.getElem?_reverse (by omega),List.getElem?_eq_getElem (by omega)]
       congr 2
       omega
      obtain ⟨g',off',rfl,d1⟩:=HCR.out m _ hmr
      generalize xs[j]=x at *
      have hw1:IntKind.i64.wrap ((xs.length:Int)-1)=(xs.length:Int)-1:=dR _ (by omega) (by omega)
      have XL:IntKind.i64.wrap ((xs.length:Int)-1-(j:Int))=(m:Int):=by rw [dR _ (by omega) (by omega)];omega
      have hm0:(0:Int)≤(m:Int):=by omega
      have hm1:(m:Int)<(xs.length:Int):=by omega
      clear hm hmr
      go_wp2
      go_quiet (fail)
      go_wp2
      go_roundw
      case rel=>exact ⟨j+1,by omega,by go_num,by simp,q+nq,by first|rfl|rw [World.drewN_drewN]⟩
      case measure=>simp [intOf];omega
     ·have hj1:¬(j:Int)<(xs.length:Int):=by omega
      go_wp2
      go_ret
      exact ⟨rfl,Below.drewN HB9.out _⟩
   ·subst e0
    obtain ⟨lb,cb,rfl⟩:=q6.form
    have HSM:=aA (BR xs la lb lc cb w9 HQ.out.DN q6.DN hml)
    clear q6
    go_wp2_with fail
    refine HSM.out.mono ?_
    rintro e JI ⟨rfl,q,rfl⟩
    go_wp2_with fail
    go_ret
    exact ⟨rfl,Below.drewN HB9.out _⟩
   ·subst e0 e1
    obtain ⟨lb,cb,rfl⟩:=q6.form
    have HSM:=aA (EB z l la lb lc cb w9 HQ.out.DN q6.DN hml aGX aDO)
    clear q6
    go_wp2_with fail
    refine HSM.out.mono ?_
    rintro e JI ⟨rfl,q,rfl⟩
    go_wp2_with fail
    go_ret
    exact ⟨rfl,Below.drewN HB9.out _⟩
end
end Go.Proofs.YtefjhnhdagolhabGreat
namespace Go.Proofs.YtefjhnhdagolhabGreat
open Go.ChangeShapes Go.WideShapes Go.ChangeAt Go.RowKit Go.Joins Go.Deep
theorem SB (kind th cap st co:Int) (nx ou:List Int) (vn vo:Value) (os:List M.Op) (hl:os.length≤600000) (ts:List Int) (hi:∀ x∈ts,MZ x) (va vt:Option Addr) (ca ct:Nat) (w:World) (hs:aBv w va os) (hts:rW w vt ts) (hn:Sl w vn (ints nx)) (ho:Sl w vo (ints ou)) (ik:MZ kind) (it:MZ th) (ic:MZ cap) :
  Calls Tryz.prog 3 #[.agg #[.int .i64 kind,.int .i64 th,.int .i64 cap,.int .i64 st,.int .i64 co,vn,vo],.slice va os.length ca,.slice vt ts.length ct] w fun e w'=>e = .returned (.bool true)∧Below w.heap.size w w':=by
 obtain ⟨a1,c1,rfl,f1⟩:=hn.open_ints
 obtain ⟨a2,c2,rfl,f2⟩:=ho.open_ints
 obtain ⟨p0,p1⟩:=jB th 19 (by decide)
 obtain ⟨q0,q1⟩:=jB cap 65 (by decide)
 obtain ⟨N,hN⟩:∃ N:Nat,(N:Int)=2+pk th 19:=⟨(2+pk th 19).toNat,by omega⟩
 obtain ⟨C,hC⟩:∃ C:Nat,(C:Int)=pk cap 65:=⟨(pk cap 65).toNat,by omega⟩
 exact LK kind st co nx ou _ _ N C (by omega) (by omega) (by omega) w hn ho _ fun σ P tell ok Ho h1 h2 h3 h=>OG _ kind th cap st co a1 a2 nx.length c1 ou.length c2 N C hN hC rfl os hl ts hi va vt ca ct w hs hts ik it ic h1 h2 h3 h
theorem aDP {α:Type} {l:List α} (h:l.length=3):∃ c0 c1 c2,l=[c0,c1,c2]:=by
 match l,h with
 |[c0,c1,c2],_=>exact ⟨c0,c1,c2,rfl⟩
section
variable {H:Type} {enc:TypeId×Value→H} {W:World}
theorem ZH {fuel:Nat} {cs:List Value} {y:DataW H×List MemPlace} (h:DataW.trod enc Tryz.prog W 0 (fun _=>true) true fuel 46 cs=some y) :
  ∃ x:M.Op,cs=[.int .i64 x.c,.int .i64 x.a,.int .i64 x.b]∧2≤Rows.uptoBulk y.1:=by
 obtain ⟨z0,z1,z2,m,rfl,hl,k0,k1,k2⟩:=trod_struct3 Tryz.underlying46 h
 obtain ⟨c0,c1,c2,rfl⟩:=aDP (hl.trans PS)
 simp only [FT,List.drop_succ_cons,List.drop_zero,List.take_succ_cons,List.take_zero] at k0 k1 k2
 obtain ⟨x0,e0,rfl,-⟩:=DataW.trod_int Tryz.underlying3 k0
 obtain ⟨x1,e1,rfl,-⟩:=DataW.trod_int Tryz.underlying3 k1
 obtain ⟨x2,e2,rfl,-⟩:=DataW.trod_int Tryz.underlying3 k2
 simp only [List.cons.injEq,and_true] at e0 e1 e2
 subst e0 e1 e2
 exact ⟨⟨x0,x1,x2⟩,rfl,by simp [Rows.uptoBulk,Rows.uptoBulkAll]⟩
theorem WL {base:Nat} {v:Value} {d:DataW H} {p:List MemPlace} (hv:Value.okWide Tryz.prog W .any base 27 v) (h:DataW.Trod enc Tryz.prog W 0 (fun _=>true) true 27 v d p) :
  ∃ (l:List M.Op) (a:Option Addr) (c:Nat),v = .slice a l.length c∧aBv W a l∧2*l.length≤Rows.uptoBulk d:=by
 obtain ⟨a0,l0,c0,rfl⟩:=okWide_slice Tryz.underlying27 hv
 obtain ⟨fuel,hf⟩:=h
 rcases DataW.trod_slice Tryz.underlying27 hf with ⟨hcs,hx⟩|⟨a,len,cap,elems,rest,n,-,hcs,hx,-,hl,hm,hlen,hel,-,-⟩
 ·simp only [Value.cells,List.cons.injEq,Value.slice.injEq,and_true] at hcs
  obtain ⟨rfl,rfl,rfl⟩:=hcs
  exact ⟨[],none,0,rfl,fun k o hk=>by simp at hk,by simp⟩
 ·simp only [Value.cells,List.cons.injEq,Value.slice.injEq,and_true] at hcs
  obtain ⟨rfl,rfl,rfl⟩:=hcs
  have each:∀ i,i<l0→∃ x:M.Op,(∀ j u,[Value.int .i64 x.c,.int .i64 x.a,.int .i64 x.b][j]?=some u→W.cell? ((a.add (i*3)).add j)=some u)∧∃ y,elems[i]?=some y∧2≤Rows.uptoBulk y.1:=by
   intro i hi
   have hi':=hel i hi
   rw [PS,List.getElem?_eq_getElem (by omega),Option.bind_eq_some_iff] at hi'
   obtain ⟨cs,q1,q2⟩:=hi'
   obtain ⟨x,rfl,x3⟩:=ZH q2
   refine ⟨x,fun j u hu=>?_,_,List.getElem?_eq_getElem (by omega),x3⟩
   have hj:j<3:=by have:=(List.getElem?_eq_some_iff.1 hu).1;simpa using this
   rw [RK q1 j hj]
   exact hu
  obtain ⟨f,hf'⟩:∃ f:Nat→M.Op,∀ i,i<l0→(∀ j u,[Value.int .i64 (f i).c,.int .i64 (f i).a,.int .i64 (f i).b][j]?=some u→W.cell? ((a.add (i*3)).add j)=some u)∧∃ y,elems[i]?=some y∧2≤Rows.uptoBulk y.1:=by
   classical
   exact ⟨fun i=>if h:i<l0 then (each i h).choose else ⟨0,0,0⟩,fun i hi=>by simp only [dif_pos hi];exact (each i hi).choose_spec⟩
  refine ⟨(List.range l0).map f,some a,c0,by simp,fun i x ZZ=>?_,?_⟩
  ·have hi:i<l0:=by have:=(List.getElem?_eq_some_iff.1 ZZ).1;simpa using this
   obtain ⟨b,off,spot⟩:=a
   have TZ:spot=none:=by
    have:=World.cell?_spot ((hf' 0 (Nat.lt_of_le_of_lt (Nat.zero_le _) hi)).1 0 _ rfl)
    simpa [Addr.add] using this
   subst TZ
   simp only [List.getElem?_map,List.getElem?_range hi,Option.map_some,Option.some.injEq] at ZZ
   subst ZZ
   have q:=(hf' i hi).1
   simp only [oJ] at q
   exact ⟨b,off,rfl,q 0 _ rfl,q 1 _ rfl,q 2 _ rfl⟩
  ·have hb:2*(elems.map (·.1)).length≤Rows.uptoBulkAll (elems.map (·.1)):=FA 2 _ fun d hd=>by
    obtain ⟨y,hy,rfl⟩:=List.mem_map.1 hd
    obtain ⟨i,hi⟩:=List.getElem?_of_mem hy
    have hil:i<l0:=by have:=(List.getElem?_eq_some_iff.1 hi).1;omega
    obtain ⟨-,y',q1,q2⟩:=hf' i hil
    rw [hi] at q1
    cases q1
    exact q2
   simp only [Prod.mk.injEq] at hx
   rw [hx.1]
   simp only [Rows.uptoBulk,List.length_map,List.length_range] at hb ⊢
   omega
theorem SC {base:Nat} {v:Value} {d:DataW H} {p:List MemPlace} (hv:Value.okWide Tryz.prog W .any base 22 v) (h:DataW.Trod enc Tryz.prog W 0 (fun _=>true) true 22 v d p) :
  ∃ (l:List Int) (a:Option Addr) (c:Nat),v = .slice a l.length c∧rW W a l∧(∀ x∈l,MZ x)∧l.length=sliceLen d:=by
 obtain ⟨a0,l0,c0,rfl⟩:=okWide_slice Tryz.underlying22 hv
 obtain ⟨fuel,hf⟩:=h
 obtain ⟨xs,h1,h2,h3⟩:=FU (c:=.slice a0 l0 c0) hf
 obtain ⟨a,c,e,-,-,h6⟩:=h1.open_ints
 refine ⟨xs,a,c,e,fun k x hk=>?_,fun x hx=>wf_i64 (h3 x hx),h2.symm⟩
 obtain ⟨LS,rfl⟩:=List.getElem?_eq_some_iff.1 hk
 exact h6 k LS
end
theorem yC:laidOutB Tryz.prog=true:=by kernel_rfl
theorem SE:ownKnob Tryz.prog.godebug=none:=by kernel_rfl
theorem OH {H:Type} (d:DataW H):sliceLen d≤Rows.uptoBulk d:=by
 have one:∀ x:DataW H,1≤Rows.uptoBulk x:=by
  intro x
  cases x with
  |lit l=>cases l<;>simp [Rows.uptoBulk]
  |nil=>simp [Rows.uptoBulk]
  |ptr d=>simp [Rows.uptoBulk]
  |slice elems spare=>simp [Rows.uptoBulk]
  |agg parts=>simp [Rows.uptoBulk]
  |iface t d=>simp [Rows.uptoBulk]
  |map entries=>simp [Rows.uptoBulk]
  |held h=>simp [Rows.uptoBulk]
 cases d with
 |slice el sp =>
  have:=FA 1 el fun d _=>one d
  simp only [sliceLen,Rows.uptoBulk]
  omega
 |lit l=>exact Nat.zero_le _
 |nil=>exact Nat.zero_le _
 |ptr d=>exact Nat.zero_le _
 |agg parts=>exact Nat.zero_le _
 |iface t d=>exact Nat.zero_le _
 |map entries=>exact Nat.zero_le _
 |held h=>exact Nat.zero_le _
theorem OJ {H:Type} {d0 d1 d2:DataW H} (h:Rows.uptoBulkAll [d0,d1,d2]≤1048576):Rows.uptoBulk d1≤1048576∧sliceLen d2≤1048576:=by
 have h2:=OH d2
 simp only [Rows.uptoBulkAll] at h
 omega
theorem DQ (H:Type) (enc:TypeId×Value→H) (W:World) (base:Nat) (args:Array Value) (ds gs:List (DataW H)) (before:List MemPlace)
  (hval:∀ (j:Nat) t v,Tryz.f3.params[j]?=some t→args[j]?=some v→Value.okWide Tryz.prog W .any base t v)
  (hW:DataW.Whole enc Tryz.prog Tryz.f3.params.toList Rows.aloneSpec.vars false W args.toList ds gs before) (hk:Rows.uptoSmall H (ds++gs)=true) :
  Calls Tryz.prog 3 args W fun e W'=>∃ v,e = .returned v∧Rows.aloneSpec.post enc Tryz.prog Tryz.f3 false true false false W args v W':=by
 have hW':=hW
 obtain ⟨p,q,hA0,hV,rfl,hfz,hnd⟩:=hW
 have hA:DataW.TrodAll enc Tryz.prog W 0 (fun _=>true) true Tryz.f3.params.toList args.toList ds p:=hA0
 rw [Tryz.params3] at hA hval
 obtain ⟨v0,vs0,d0,ds0,p0,q0,hargs,rfl,rfl,h0,r0⟩:=trodAll_cons hA
 obtain ⟨v1,vs1,d1,ds1,p1,q1,rfl,rfl,rfl,h1,r1⟩:=trodAll_cons r0
 obtain ⟨v2,vs2,d2,ds2,p2,q2,rfl,rfl,rfl,h2,r2⟩:=trodAll_cons r1
 obtain ⟨rfl,rfl,rfl⟩:=trodAll_nil r2
 obtain rfl:args=#[v0,v1,v2]:=by cases args;simp_all
 obtain ⟨rfl,rfl⟩:=trodVars_none hV
 have h0k:=h0
 have h1k:=h1
 have h2k:=h2
 obtain ⟨kind,th,cap,st,co,nx,ou,vn,vo,dn,dou,rfl,s1,s2,rfl,l1,l2,hwf⟩:=KE (hval 0 26 v0 rfl rfl) h0
 obtain ⟨os,a1,c1,rfl,hos,hlb⟩:=WL (hval 1 27 v1 rfl rfl) h1
 obtain ⟨ts,a2,c2,rfl,hts,hi,-⟩:=SC (hval 2 22 v2 rfl rfl) h2
 clear hA0
 simp only [List.append_nil] at hW' hk
 have hlt:∀ x∈p0++(p1++p2),x.block<W.heap.size:=fun x hx=>by simpa using hW'.lt x (by simpa using hx)
 obtain ⟨b1,b2⟩:=OJ (of_decide_eq_true hk)
 have hw:∀ x∈[kind,th,cap,st,co]++nx++ou,MZ x:=fun x hx=>wf_i64 (hwf x hx)
 refine (SB kind th cap st co nx ou vn vo os (by omega) ts hi a1 a2 c1 c2 W hos hts s1 s2 (hw kind (by simp)) (hw th (by simp)) (hw cap (by simp))).mono fun e W' ⟨he,hb⟩=>?_
 subst he
 have aGZ:DataW.Trod enc Tryz.prog W' 0 (fun b=>decide (b<W.heap.size)) true 26 _ _ p0:=Below.trod yC (by kernel_rfl) (of_decide_eq_true (by kernel_rfl)) h0k hb (fun x hx=>hlt x (by simp [hx]))
 have aG0:DataW.Trod enc Tryz.prog W' 0 (fun b=>decide (b<W.heap.size)) true 27 _ _ p1:=Below.trod yC (by kernel_rfl) (of_decide_eq_true (by kernel_rfl)) h1k hb (fun x hx=>hlt x (by simp [hx]))
 have aG1:DataW.Trod enc Tryz.prog W' 0 (fun b=>decide (b<W.heap.size)) true 22 _ _ p2:=Below.trod yC (by kernel_rfl) (of_decide_eq_true (by kernel_rfl)) h2k hb (fun x hx=>hlt x (by simp [hx]))
 exact ⟨_,rfl,⟨_,_,_,[],p0++(p1++p2),[],hW',trodAll_cons_mk (shut_bool Tryz.underlying4 _) trodAll_mk0,trodAll_cons_mk aGZ (trodAll_cons_mk aG0 (trodAll_mk1 aG1)),rfl,hb.frame _,fun h=>by cases h⟩⟩
theorem JG (os:Os) (started:os.Started) (H:Type) (enc:TypeId×Value→H) (F:Stop.Interp) :
  ReturnsInHanded {} Tryz.checked os 3 .any ((Rows.OpenSpec.upto Rows.aloneSpec).pre6 enc Tryz.prog Tryz.f3 Rows.aloneUptoRow.domain false) (((Rows.OpenSpec.upto Rows.aloneSpec).at F).post enc Tryz.prog Tryz.f3 false true false false):=by
 refine returnsInHanded_of_cond (C:=Tryz.checked) (s:=Rows.OpenSpec.upto Rows.aloneSpec) (k:=Rows.uptoSmall) rfl SE started (by kernel_rfl) Tryz.func3
  (OpenSpec.witness (enc:=enc) (C:=Tryz.checked) (s:=Rows.OpenSpec.upto Rows.aloneSpec) (k:=Rows.uptoSmall) rfl false ⟨#[],#[.agg #[.int .i64 0,.int .i64 0,.int .i64 0,.int .i64 0,.int .i64 0,.slice none 0 0,.slice none 0 0],.slice none 0 0,.slice none 0 0],[]⟩ 8 (by kernel_rfl) (by kernel_rfl) (by kernel_rfl)
   (x:=([.agg [.lit (.int .i64 0),.lit (.int .i64 0),.lit (.int .i64 0),.agg [.lit (.int .i64 0),.lit (.int .i64 0),.nil,.nil]],.nil,.nil],[],[])) (by kernel_rfl) rfl (by kernel_rfl)) ?_
 intro W base args ds gs before hval hW _ hk _
 exact DQ H enc W base args ds gs before hval hW hk
theorem aBy {a b:Bool} (h:a=true) (h':b=true):(a && b)=true:=by rw [h,h'];rfl
theorem LN:Tryz.pinned.checked.prog.funcNamed Rows.aloneUptoRow.func=some 3:=by kernel_rfl
theorem LO:joinedFacts Tryz.pinned.checked.prog 3 Tryz.f3 (Rows.OpenSpec.upto Rows.aloneSpec).bare Rows.aloneUptoRow=true:=by
 unfold joinedFacts
 repeat' with_reducible refine aBy ?_ ?_
 all_goals as_aux_lemma=>kernel_rfl
theorem OK:Tryz.f3.isInstance Tryz.pinned.checked.prog Rows.aloneUptoRow.origin Rows.aloneUptoRow.targs:=of_decide_eq_true (by kernel_rfl)
theorem OL:Tryz.f3.isWrapper Tryz.pinned.checked.prog Rows.aloneUptoRow.wrapper Rows.aloneUptoRow.mainSum:=by
 unfold Func.isWrapper
 first
  |(rw [if_pos (by decide +kernel)];kernel_rfl)
  |(rw [if_neg (by decide +kernel)];exact ⟨rfl,rfl⟩)
theorem alone_upto:Rows.AloneUptoSaid :=
 OpenClaim.holds_of_cond 3 Tryz.f3 rfl rfl rfl rfl rfl rfl rfl ⟨rfl,rfl,rfl,rfl,rfl⟩ rfl rfl rfl rfl rfl LN Tryz.func3 LO OK OL
  (fun os started H enc _ F=>JG os started H enc F)
end Go.Proofs.YtefjhnhdagolhabGreat
