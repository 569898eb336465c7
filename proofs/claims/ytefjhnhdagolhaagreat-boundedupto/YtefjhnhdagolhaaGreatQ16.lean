import Derived.Test.YtefjhnhdagolhaaGreatQ15
import Derived.Test.YtefjhnhdagolhaaGreatQ14
set_option maxHeartbeats 8000000
set_option maxRecDepth 20000
namespace Go.Proofs.YtefjhnhdagolhaaGreat
open Go.RowKit
open M (aI aC aD aP bA Dd PI)
attribute [local go_sem ↓] Go.wp_at_zero Go.wp_at_succ
theorem SL {σ:Type} {P:M.Plain σ} {Y':aP} {c:Nat} {d:Dd} (h4:d.st+1=4) (h0:(Y'.th d.t).part≠0) (he:d.en=0):d.next P Y' c = {d with st:=d.st+1,fl:=c+1,nb:=Y'.bs.length}:=by
 unfold M.Dd.next
 rw [if_pos h4,if_pos h4,if_neg h0,if_neg h0,←he]
theorem aAh {σ:Type} {P:M.Plain σ} {Y':aP} {c:Nat} {d:Dd} (h4:d.st+1≠4) (h0:(Y'.th d.t).part≠0) (he:d.en=0):d.next P Y' c = {d with st:=d.st+1}:=by
 unfold M.Dd.next
 rw [if_neg h4,if_neg h4,if_neg h0,if_neg h0,←he]
theorem WX {σ:Type} {P:M.Plain σ} {Y':aP} {c:Nat} {d:Dd} (h4:d.st+1≠4) (h0:(Y'.th d.t).part=0):d.next P Y' c = {d with st:=d.st+1,en:=c+1,an:=gB P Y' d.t}:=by
 unfold M.Dd.next
 rw [if_neg h4,if_neg h4,if_pos h0,if_pos h0]
 rfl
section
variable {σ:Type} {P:M.Plain σ} {tell:σ→List Int} {D:DL} {X:(Nat→Prop)→aP→World→Prop} {A:PL} {S:Nat→Prop} {w0:QW} {w w1:World} {vd vu vs:Value} {Y Y':aP} {ds:List Dd} {us ss:List Int} {c:Nat} {nJ nK nL nM nN nO nP K t:Nat} {u:Nat→Option Nat}
theorem QT (xo:wH P tell D A.tE A.bN X nJ nK nL nM nN nO nP) (h:PS P X D A w0 K Y ds u c w) (lG:D.n≤64) (hcap:D.cap≤64) (ht:t<D.n) (hK:K+1≤900000000) :
  Calls Tryz.prog 73 #[.pointer (some ⟨A.bP,0,none⟩),.int .i64 (t:Int)] w fun e w'=>e = .returned (.bool true)∧∃ ds' u',PS P X D A w0 (K+1) (RS D.n D.cap Y (t:Int)) ds' u' (c+1) w':=by
 obtain ⟨S,vd,vu,vs,hm,hp,hl,hc⟩:=h
 have hn0:0<D.n:=by omega
 have hmx:=xo.mSt
 have hcx:=xo.cSt
 have hma:=xo.mAn
 have hca:=xo.cAn
 have TK:NM D.n (t:Int):=⟨by omega,by omega⟩
 have hw:IntKind.i64.wrap ((c:Int)+1)=(c:Int)+1:=dP _ (by omega) (by omega)
 have nQ:(0:Int)≤(t:Int):=by omega
 have YE:(zO D.n u).length=D.n:=by simp [zO]
 have iZ:(t:Int)<((zO D.n u).length:Int):=by omega
 have p11:w.cell? ⟨A.bP,11,none⟩=some (.int .i64 (c:Int)):=hm.row.cell_of rfl
 have q11:=hm.row.frozen 11
 have hm2:=hm.aDu xo (c+1) ((c:Int)+1) (by push_cast;rfl)
 have HX:=aA xo
 have HP:=aA hp
 have HL:=aA hl
 have RX:=aA hm2
 clear hm hm2 xo hp hl
 go_enter Tryz.func73,Tryz.ntmps73
 go_upto_region 2 with fail
 generalize kE:World.setCell w ⟨A.bP,11,none⟩ (.int .i64 ((c:Int)+1))=W2 at *
 have d0:W2.cell? ⟨A.bP,0,none⟩=some (.pointer (some ⟨A.bX,0,none⟩)):=RX.out.row.cell_of (i:=0) rfl
 have dx:W2.cell? ⟨A.bX,0,none⟩=some (.iface A.tE (.pointer (some ⟨A.bN,0,none⟩))):=RX.out.obj.cell_of (i:=0) rfl
 have JY:=aA (HX.out.st _ _ _ (t:Int) RX.out.x (HL.out.mono (by omega)))
 have HGO:=aA (show ∀ w1,XY X S W2 (RS D.n D.cap Y (t:Int)) w1→PM X D A w0 (Grow S W2 w1) vd vu vs (RS D.n D.cap Y (t:Int)) ds (zO D.n u) (GR D.n Y) (c+1) w1 from fun w1 hg=>RX.out.RT HX.out hg)
 clear p11 q11 kE
 by_cases tG:(Y.th t).part=0
 ·have hu0:u t=none:=(HP.out.un t ht).2 tG
  have VJ:uv u t = -1:=by unfold uv;rw [hu0]
  have e1:stA D.n D.cap Y (t:Int)=0:=by unfold stA;rw [if_pos TK,Int.toNat_natCast,if_pos tG]
  have e2:stE D.n Y (t:Int)=5:=by unfold stE;rw [if_pos TK,Int.toNat_natCast,if_pos tG]
  have e3:RS D.n D.cap Y (t:Int)=Y:=by unfold RS;rw [if_pos TK,Int.toNat_natCast,if_pos tG]
  rw [e1,e2] at JY
  have E3:=aA e3
  clear e1 e2 e3 hu0
  go_wp2_with fail
  refine JY.out.mono ?_
  rintro e w1 ⟨rfl,hg⟩
  have r1:=HGO.out w1 hg
  rw [E3.out] at r1
  have YC:(ints (zO D.n u))[t]?=some (.int .i64 (uv u t)):=rS (gM ht)
  obtain ⟨gu,cu,rfl,cut⟩:=gA r1.ou YC
  rw [VJ] at cut
  have e9:w1.cell? ⟨A.bP,9,none⟩=some (.slice (some ⟨gu,0,none⟩) (zO D.n u).length cu):=r1.row.cell_of rfl
  have CG:=aA r1
  clear hg r1 d0 dx HGO VJ YC
  go_wp2
  go_ret
  rw [E3.out]
  exact ⟨rfl,ds,u,⟨_,_,_,_,CG.out,HP.out.tick,HL.out.mono (by omega),by omega⟩⟩
 ·obtain ⟨i,hui⟩:∃ i,u t=some i:=by
   cases q:u t with
   |none=>exact (tG ((HP.out.un t ht).1 q)).elim
   |some i=>exact ⟨i,rfl⟩
  obtain ⟨d,hd,hdt,hds⟩:=HP.out.ui t i ht hui
  have TJ:=List.mem_of_getElem? hd
  have UZ:d.en=0:=(HP.out.en d TJ).2 ⟨by rw [hdt];exact tG,by rw [hdt];exact hds⟩
  have hil:i<ds.length:=(List.getElem?_eq_some_iff.mp hd).1
  obtain ⟨Y',VA⟩:∃ Y',Y'=(M.bD D.n D.cap Y t).1:=⟨_,rfl⟩
  have hPI:=HP.out.step hn0 ht hui hd
  have KW:=HP.out.yi.word hn0 ht tG
  have hyi:=HP.out.yi.step hn0 ht tG
  have hbo:=HP.out.bo.step HP.out.yi ht
  have hlm:=HL.out.step t
  have EP:=M.CA (n:=D.n) (cap:=D.cap) (HP.out.yi.ok.th t ht) tG
  have NK:=HP.out.sw d TJ UZ
  rw [hdt] at NK
  have e1:stA D.n D.cap Y (t:Int)=aBk (M.bD D.n D.cap Y t).2:=by unfold stA;rw [if_pos TK,Int.toNat_natCast,if_neg tG]
  have e2:stE D.n Y (t:Int)=0:=by unfold stE;rw [if_pos TK,Int.toNat_natCast,if_neg tG]
  have e3:RS D.n D.cap Y (t:Int)=Y':=by rw [VA];unfold RS;rw [if_pos TK,Int.toNat_natCast,if_neg tG]
  have e4:GR D.n Y=GR D.n Y':=by rw [VA,VH]
  rw [KW,←VA] at e1
  rw [←VA] at hPI hyi hbo hlm EP
  have h4:d.st+1=4→(Y'.th t).part≠0:=fun q=>EP.2.2 (by
   by_cases c3:3≤(Y.th t).part
   ·have:=NK.2.2.1 c3;omega
   ·omega)
  have aLY:d.st≤2000:=Nat.le_trans (HP.out.se d TJ) (M.BW lG hcap)
  rw [e2,e3] at JY
  rw [e1] at JY
  rw [e3] at HGO
  rw [e4] at HGO
  have E3:=aA e3
  have HPI:=aA hPI
  have HYI:=aA hyi
  have HBO:=aA hbo
  have HLM:=aA hlm
  have HH:=aA (And.intro h4 (And.intro hdt UZ))
  have HDS:=aA hds
  clear e1 e2 e3 e4 hPI hyi hbo hlm EP NK h4 KW hdt UZ VA hds
  have hall:Y'.order.length≤1000000000000:=by
   rw [yH]
   have:=HYI.out.all lG (B:=900000000) (fun k hk=>Nat.le_trans (HLM.out.1 k hk) (by omega))
   omega
  generalize JW:aBk (decide ((Y'.th t).part=0))=en at JY
  go_wp2_with fail
  refine JY.out.mono ?_
  rintro e w1 ⟨rfl,hg⟩
  have r1:=HGO.out w1 hg
  generalize hSe:Grow S W2 w1=S1 at r1
  have VJ:uv u t=(i:Int):=by unfold uv;rw [hui]
  have YC:(ints (zO D.n u))[t]?=some (.int .i64 (uv u t)):=rS (gM ht)
  obtain ⟨gu,cu,rfl,cut⟩:=gA r1.ou YC
  rw [VJ] at cut
  have e9:w1.cell? ⟨A.bP,9,none⟩=some (.slice (some ⟨gu,0,none⟩) (zO D.n u).length cu):=r1.row.cell_of rfl
  obtain ⟨gd,cd,rfl,OH⟩:=r1.deed hd
  have e8:w1.cell? ⟨A.bP,8,none⟩=some (.slice (some ⟨gd,0,none⟩) ds.length cd):=r1.row.cell_of rfl
  have k9:=OH 9 _ rfl
  have f9:=fD r1.od (g:=gd) rfl (i*12+9)
  have hi0:(0:Int)≤(i:Int):=by omega
  have hi1:(i:Int)<(ds.length:Int):=by omega
  have hi2:¬(i:Int)<0:=by omega
  have hws:IntKind.i64.wrap ((d.st:Int)+1)=(d.st:Int)+1:=dP _ (by omega) (by omega)
  have YB:=aA (r1.RU HX.out (g:=gd) rfl (d':={d with st:=d.st+1}) 9 (.int .i64 ((d.st:Int)+1)) hd (by decide) (by simp [wI]))
  clear hg r1 d0 dx HGO VJ YC hSe OH hmx hcx
  go_upto_region 6 with fail
  go_region
  generalize QM:World.drew _=W6
  have SM:=aA (show PM X D A w0 _ _ _ _ _ _ _ _ _ W6 by rw [←QM];exact YB.out.below HX.out (Below.drew (Below.refl _ _)))
  clear QM e9 cut e8 k9 f9 YB
  have hd6:(ds.set i {d with st:=d.st+1})[i]?=some {d with st:=d.st+1}:=List.getElem?_set_self hil
  have YM:(ds.set i {d with st:=d.st+1}).length=ds.length:=by simp
  obtain ⟨gd',cd',q1,OH⟩:=SM.out.deed hd6
  rw [YM] at q1
  injection q1 with q1 _ _
  injection q1 with q1
  injection q1 with q1
  subst q1
  have e8:W6.cell? ⟨A.bP,8,none⟩=some (.slice (some ⟨gd,0,none⟩) ds.length cd):=SM.out.row.cell_of rfl
  have k9:W6.cell? ⟨gd,i*12+9,none⟩=some (.int .i64 ((d.st:Int)+1)):=OH 9 _ rfl
  have YF:W6.cell? ⟨A.bP,11,none⟩=some (.int .i64 ((c:Int)+1)):=SM.out.row.cell_of rfl
  have HCD:=aA OH
  clear OH
  by_cases h4:d.st+1=4
  ·have EM:=HH.out.1 h4
   have IY:en=1:=by rw [←JW,decide_eq_false EM];rfl
   have h4i:(d.st:Int)+1=4:=by omega
   rw [h4i] at k9
   have HEN:=aA IY
   have k6:=HCD.out 6 _ rfl
   have f6:=fD SM.out.od (g:=gd) rfl (i*12+6)
   have FI:=aA (SM.out.RU HX.out (g:=gd) rfl (d':={d with st:=d.st+1,fl:=c+1}) 6 (.int .i64 ((c:Int)+1)) hd6 (by decide) (by simp [wI]))
   rw [List.set_set] at FI
   clear JW h4i
   rw [IY]
   clear IY
   go_upto_region 10 with fail
   go_region
   generalize aEo:World.drew _=W10
   have DM:=aA (show PM X D A w0 _ _ _ _ _ _ _ _ _ W10 by rw [←aEo];exact FI.out.below HX.out (Below.drew (Below.refl _ _)))
   clear aEo e8 k9 YF k6 f6 FI SM HCD hd6
   have aEq:(ds.set i {d with st:=d.st+1,fl:=c+1})[i]?=some {d with st:=d.st+1,fl:=c+1}:=List.getElem?_set_self hil
   have e8:W10.cell? ⟨A.bP,8,none⟩=some (.slice (some ⟨gd,0,none⟩) ds.length cd):=DM.out.row.cell_of rfl
   obtain ⟨n1,n2,-,-,n5,-,-,-⟩:=DM.out.ne
   have hgP:¬A.bP=gd:=fun q=>n2 (by rw [q];rfl)
   have hgX:¬A.bX=gd:=fun q=>n5 (by rw [q];rfl)
   have th8:W10.there gd (i*12+8) 1:=fun j hj=>by
    obtain ⟨g',cp',q1,q2⟩:=DM.out.deed aEq
    injection q1 with q1 _ _
    injection q1 with q1
    injection q1 with q1
    subst q1
    have:j=0:=by omega
    subst this
    exact ⟨by rw [Nat.add_zero,q2 8 _ rfl];rfl,fD DM.out.od (g:=gd) rfl _⟩
   have HBA:=aA (show ∀ W:World,Fr (fun k=>k=gd) W10 W→Calls Tryz.prog 39 #[.pointer (some ⟨A.bP,0,none⟩)] W fun e w'=>e = .returned (.int .i64 (Y'.bs.length:Int))∧Below W.heap.size W w' from fun W hF=>FJ HX.out (hF.cell hgP (DM.out.row.cell_of rfl)) (hF.cell hgX (DM.out.obj.cell_of rfl)) (HX.out.stay _ _ _ _ _ DM.out.x (fun k hS=>hF.block k (DM.out.xl k hS) (fun q=>(DM.out.sx k hS).2.2.1 (by rw [q];rfl))) (fun _ q=>q) (fun k hS=>Nat.lt_of_lt_of_le (DM.out.xl k hS) hF.size)) (HLM.out.mono (by omega)) HBO.out hall)
   have aHD:(Tryz.prog.info? 3).map (·.size)=some 1:=by kernel_rfl
   go_upto_region 11 with fail
   refine fR (S:=(fun w'=>Fr (fun k=>k=gd) W10 w'∧w'.cell? ⟨A.bP,8,none⟩=some (.slice (some ⟨gd,0,none⟩) ds.length cd)∧w'.there gd (i*12+8) 1)) 10 rfl (by kernel_rfl) ?_ (fun hHeld=>?_)
   ·exact ⟨(Fr.refl _ _).drew,e8,th8⟩
   iterate 6 (refine tk 9 (by rfl) (by kernel_rfl) (by exact fun _ _ _ h=>h) (.inl ⟨by rfl,fun w hS=>by (try dsimp only at hS);go_simp;(try with_reducible rfl)⟩) (by assumption) ?_;try go_frame)
   refine bQ 6 (by rfl) (by kernel_rfl) (fun K hK=>?_)
   go_simp
   refine (HBA.out _ hHeld.1).mono ?_
   rintro e w3 ⟨rfl,cE⟩
   have aEr:=aA ((DM.out.below HX.out (Below.drew (Below.refl _ _))).below HX.out cE)
   go_wp2_with fail
   refine hK.out _ _ ?_ (fun hHeld=>?_)
   ·exact ⟨hHeld.1.trans (Fr.eW cE),cell_later cE hHeld.2.1,aT cE hHeld.2.2⟩
   clear hK K
   (try go_frame)
   iterate 2 (refine tk 9 (by rfl) (by kernel_rfl) (by exact fun _ _ _ h=>h) (.inl ⟨by rfl,fun w hS=>by (try dsimp only at hS);go_simp;(try with_reducible rfl)⟩) (by assumption) ?_;try go_frame)
   refine bQ 9 (by rfl) (by kernel_rfl) (fun K hK=>?_)
   rw [if_pos (by rfl)]
   refine aU _ _ _ rfl gd (i*12+8) (.int .i64 (Y'.bs.length:Int)) rfl rfl rfl rfl hHeld.2.2 aHD ?_
   refine hK.out _ _ ?_ (fun hHeld=>?_)
   ·exact ⟨hHeld.1.here (b:=gd) rfl _ _,aH hHeld.2.1 (.inl hgP),cR hHeld.2.2 _ rfl _⟩
   clear hK K
   (try go_frame)
   refine wpAnyH_done (by kernel_rfl) ?_ _
   have aBX:=aEr.out.RU HX.out (g:=gd) rfl (d':={d with st:=d.st+1,fl:=c+1,nb:=Y'.bs.length}) 8 (.int .i64 (Y'.bs.length:Int)) aEq (by decide) (by simp [wI])
   rw [List.set_set,←SL (P:=P) (c:=c) h4 (by rw [HH.out.2.1];exact EM) HH.out.2.2] at aBX
   have aAi:=aA aBX
   clear aBX aEr hHeld cE
   go_wp2
   go_ret
   rw [E3.out]
   have q:=HPI.out
   rw [if_neg EM] at q
   exact ⟨rfl,_,u,⟨_,_,_,_,aAi.out,q,HLM.out,by omega⟩⟩
  ·have h4i:¬(d.st:Int)+1=4:=by omega
   by_cases EM:(Y'.th t).part=0
   ·have IY:en=2:=by rw [←JW,decide_eq_true EM];rfl
    have eAn:anT P D.n Y' (t:Int)=((gB P Y' t).s,(gB P Y' t).v,0):=by
     have h1:=HYI.out.ok.ide t ht EM
     have h2:(Y'.th t).ops.length≠0:=by
      obtain ⟨e,-⟩:=List.getElem?_eq_some_iff.mp (HPI.out.dt i _ (List.getElem?_set_self hil)).2.2
      rw [show (d.next P Y' c).t=t from HH.out.2.1] at e
      omega
     unfold anT
     rw [if_pos TK,Int.toNat_natCast,if_neg (by rw [EM];simp),if_neg (by omega)]
    have HAN:=aA (HX.out.an _ _ _ (t:Int) SM.out.x)
    rw [eAn] at HAN
    have e0:W6.cell? ⟨A.bP,0,none⟩=some (.pointer (some ⟨A.bX,0,none⟩)):=SM.out.row.cell_of rfl
    have ex:W6.cell? ⟨A.bX,0,none⟩=some (.iface A.tE (.pointer (some ⟨A.bN,0,none⟩))):=SM.out.obj.cell_of rfl
    clear JW eAn
    rw [IY]
    clear IY
    unfold tri at HAN
    go_wp2_with fail
    refine HAN.out.mono ?_
    rintro e w3 ⟨rfl,cE⟩
    have FI:=aA (SM.out.below HX.out cE)
    clear cE e0 ex e8 k9 YF SM HCD hma hca
    go_wp2_with fail
    generalize aBY:World.alloc w3 _=W13
    have aEs:Below w3.heap.size w3 W13:=by rw [←aBY];exact aB _ _
    have r13:Row W13 w3.heap.size 94 [.int .i64 (gB P Y' t).s,.int .i64 (gB P Y' t).v]:=by rw [←aBY];exact Row.new' rfl
    have OJ:=FI.out.below HX.out aEs
    have R13:=aA r13
    clear aBY aEs FI r13
    have e8:W13.cell? ⟨A.bP,8,none⟩=some (.slice (some ⟨gd,0,none⟩) ds.length cd):=OJ.row.cell_of rfl
    have YF:W13.cell? ⟨A.bP,11,none⟩=some (.int .i64 ((c:Int)+1)):=OJ.row.cell_of rfl
    obtain ⟨gq,cq,q1,OH⟩:=OJ.deed hd6
    rw [YM] at q1
    injection q1 with q1 _ _
    injection q1 with q1
    injection q1 with q1
    subst q1
    have k7:=OH 7 _ rfl
    have f7:=fD OJ.od (g:=gd) rfl (i*12+7)
    have hgb:w3.heap.size≠gd:=fun q=>iV OJ.od R13.out (by decide) (by rw [q];rfl)
    have aBZ:=aA (OJ.RU HX.out (g:=gd) rfl (d':={d with st:=d.st+1,en:=c+1}) 7 (.int .i64 ((c:Int)+1)) hd6 (by decide) (by simp [wI]))
    rw [List.set_set] at aBZ
    have R14:=aA (R13.out.setOther (a:=⟨gd,i*12+7,none⟩) hgb (.int .i64 ((c:Int)+1)))
    clear OJ OH R13 hd6 YM
    go_region
    generalize aB0:World.drew _=W15
    have WY:=show PM X D A w0 _ _ _ _ _ _ _ _ _ W15 by rw [←aB0];exact aBZ.out.below HX.out (Below.drew (Below.refl _ _))
    have R15:=aA (show Row W15 w3.heap.size 94 [.int .i64 (gB P Y' t).s,.int .i64 (gB P Y' t).v] by rw [←aB0];exact R14.out.drew)
    clear aB0 aBZ R14 e8 YF k7 f7
    have aB1:(ds.set i {d with st:=d.st+1,en:=c+1})[i]?=some {d with st:=d.st+1,en:=c+1}:=List.getElem?_set_self hil
    have aEt:(ds.set i {d with st:=d.st+1,en:=c+1}).length=ds.length:=by simp
    have e8:W15.cell? ⟨A.bP,8,none⟩=some (.slice (some ⟨gd,0,none⟩) ds.length cd):=WY.row.cell_of rfl
    obtain ⟨gq,cq,q1,OH⟩:=WY.deed aB1
    rw [aEt] at q1
    injection q1 with q1 _ _
    injection q1 with q1
    injection q1 with q1
    subst q1
    have k11:=OH 11 _ rfl
    have f11:=fD WY.od (g:=gd) rfl (i*12+11)
    have a0:=R15.out.cell_of (i:=0) rfl
    have aB2:=aA (WY.RU HX.out (g:=gd) rfl (d':={d with st:=d.st+1,en:=c+1,an:=⟨(gB P Y' t).s,d.an.v⟩}) 11 (.int .i64 (gB P Y' t).s) aB1 (by decide) (by simp [wI]))
    rw [List.set_set] at aB2
    have R16:=aA (R15.out.setOther (a:=⟨gd,i*12+11,none⟩) hgb (.int .i64 (gB P Y' t).s))
    clear WY OH R15 aB1 aEt
    go_upto_region 15 with fail
    go_region
    generalize aB3:World.drew _=W17
    have WZ:=show PM X D A w0 _ _ _ _ _ _ _ _ _ W17 by rw [←aB3];exact aB2.out.below HX.out (Below.drew (Below.refl _ _))
    have R17:=aA (show Row W17 w3.heap.size 94 [.int .i64 (gB P Y' t).s,.int .i64 (gB P Y' t).v] by rw [←aB3];exact R16.out.drew)
    clear aB3 aB2 R16 e8 k11 f11 a0
    have aB4:(ds.set i {d with st:=d.st+1,en:=c+1,an:=⟨(gB P Y' t).s,d.an.v⟩})[i]?=some {d with st:=d.st+1,en:=c+1,an:=⟨(gB P Y' t).s,d.an.v⟩}:=List.getElem?_set_self hil
    have aEu:(ds.set i {d with st:=d.st+1,en:=c+1,an:=⟨(gB P Y' t).s,d.an.v⟩}).length=ds.length:=by simp
    have e8:W17.cell? ⟨A.bP,8,none⟩=some (.slice (some ⟨gd,0,none⟩) ds.length cd):=WZ.row.cell_of rfl
    obtain ⟨gq,cq,q1,OH⟩:=WZ.deed aB4
    rw [aEu] at q1
    injection q1 with q1 _ _
    injection q1 with q1
    injection q1 with q1
    subst q1
    have k10:=OH 10 _ rfl
    have f10:=fD WZ.od (g:=gd) rfl (i*12+10)
    have a1:=R17.out.cell_of (i:=1) rfl
    have aB5:=aA (WZ.RU HX.out (g:=gd) rfl (d':={d with st:=d.st+1,en:=c+1,an:=gB P Y' t}) 10 (.int .i64 (gB P Y' t).v) aB4 (by decide) (by simp [wI]))
    rw [List.set_set] at aB5
    clear WZ OH R17 aB4 aEu
    go_upto_region 16 with fail
    go_region
    generalize aEv:World.drew _=W19
    have XA:=show PM X D A w0 _ _ _ _ _ _ _ _ _ W19 by rw [←aEv];exact aB5.out.below HX.out (Below.drew (Below.refl _ _))
    clear aEv aB5 e8 k10 f10 a1
    have e9:W19.cell? ⟨A.bP,9,none⟩=some (.slice (some ⟨gu,0,none⟩) (zO D.n u).length cu):=XA.row.cell_of rfl
    have YC:(ints (zO D.n u))[t]?=some (.int .i64 (uv u t)):=rS (gM ht)
    obtain ⟨gq,cq,q1,cut⟩:=gA XA.ou YC
    injection q1 with q1 _ _
    injection q1 with q1
    injection q1 with q1
    subst q1
    have fu:=fD XA.ou (g:=gu) rfl t
    have aAj:=XA.aDv HX.out (g:=gu) rfl t (-1)
    rw [VG ht] at aAj
    have eN:=WX (P:=P) (c:=c) h4 (show (Y'.th d.t).part=0 by rw [HH.out.2.1];exact EM)
    have eA:gB P Y' d.t=gB P Y' t:=by rw [HH.out.2.1]
    rw [eA] at eN
    rw [←eN] at aAj
    have aHJ:=aA aAj
    clear XA aAj eN YC eA
    go_wp2
    go_ret
    rw [E3.out]
    have q:=HPI.out
    rw [if_pos EM] at q
    exact ⟨rfl,_,_,⟨_,_,_,_,aHJ.out,q,HLM.out,by omega⟩⟩
   ·have IY:en=1:=by rw [←JW,decide_eq_false EM];rfl
    have aAi:=aA SM.out
    rw [←aAh (P:=P) (Y':=Y') (c:=c) h4 (by rw [HH.out.2.1];exact EM) HH.out.2.2] at aAi
    clear JW SM HCD
    rw [IY]
    clear IY
    go_wp2
    go_ret
    rw [E3.out]
    have q:=HPI.out
    rw [if_neg EM] at q
    exact ⟨rfl,_,u,⟨_,_,_,_,aAi.out,q,HLM.out,by omega⟩⟩
end
section
variable {σ:Type} {P:M.Plain σ} {tell:σ→List Int} {D:DL} {X:(Nat→Prop)→aP→World→Prop} {A:PL} {S:Nat→Prop} {w0:QW} {w w1:World} {vd vu vs:Value} {Y Y':aP} {ds:List Dd} {us ss:List Int} {c:Nat} {nJ nK nL nM nN nO nP K t:Nat} {u:Nat→Option Nat}
def PG (P:M.Plain σ) (X:(Nat→Prop)→aP→World→Prop) (D:DL) (A:PL) (w0:QW) (K:Nat) (w:World):Prop:=∃ Y ds u c,PS P X D A w0 K Y ds u c w
def aB6 (P:M.Plain σ) (X:(Nat→Prop)→aP→World→Prop) (D:DL) (A:PL) (w0:QW) (K t n r:Nat) (w:World):Prop:=∃ Y ds u c,PS P X D A w0 K Y ds u c w∧((Y.th t).part=0∨(Y.th t).kC D.n D.cap+n≤r)
theorem PS.under (h:PS P X D A w0 K Y ds u c w) (ht:t<D.n):∃ gu cu x,w.cell? ⟨A.bP,9,none⟩=some (.slice (some ⟨gu,0,none⟩) D.n cu)∧w.cell? ⟨gu,t,none⟩=some (.int .i64 x)∧((Y.th t).part=0→x = -1)∧((Y.th t).part≠0→0≤x):=by
 obtain ⟨S,vd,vu,vs,hm,hp,-⟩:=h
 obtain ⟨gu,cu,rfl,cut⟩:=gA hm.ou (rS (gM (f:=uv u) ht))
 have YE:(zO D.n u).length=D.n:=by simp [zO]
 refine ⟨gu,cu,uv u t,?_,cut,fun q=>?_,fun q=>?_⟩
 ·have:w.cell? ⟨A.bP,9,none⟩=some (.slice (some ⟨gu,0,none⟩) (zO D.n u).length cu):=hm.row.cell_of rfl
  rwa [YE] at this
 ·unfold uv;rw [(hp.un t ht).2 q]
 ·unfold uv
  cases e:u t with
  |none=>exact (q ((hp.un t ht).1 e)).elim
  |some i=>simp
theorem XB (hn:0<D.n) (h:PS P X D A w0 K Y ds u c w) (ht:t<D.n):((RS D.n D.cap Y (t:Int)).th t).kC D.n D.cap≤(Y.th t).kC D.n D.cap-1:=by
 obtain ⟨S,vd,vu,vs,hm,hp,-⟩:=h
 unfold RS
 rw [if_pos ⟨by omega,by omega⟩,Int.toNat_natCast]
 by_cases q:(Y.th t).part=0
 ·rw [if_pos q]
  unfold M.bA.kC
  rw [if_pos q];omega
 ·rw [if_neg q]
  have:=M.rM hn (hp.yi.ok.th t ht) q
  omega
theorem LI (xo:wH P tell D A.tE A.bN X nJ nK nL nM nN nO nP) (h:PS P X D A w0 K Y ds u c w) (lG:D.n≤64) (hcap:D.cap≤64) (ht:t<D.n) (n:Nat) (hK:K+n≤900000000) :
  Calls Tryz.prog 38 #[.pointer (some ⟨A.bP,0,none⟩),.int .i64 (t:Int),.int .i64 (n:Int)] w fun e w'=>e = .returned (.bool true)∧aB6 P X D A w0 (K+n) t n ((Y.th t).kC D.n D.cap) w':=by
 have hn0:0<D.n:=by omega
 have HX:=aA xo
 have HP:=aA h
 have nQ:(0:Int)≤(t:Int):=by omega
 have iZ:(t:Int)<(D.n:Int):=by omega
 obtain ⟨r0,QF⟩:∃ r0,r0=(Y.th t).kC D.n D.cap:=⟨_,rfl⟩
 have HR:=aA QF
 clear xo h QF
 go_enter Tryz.func38,Tryz.ntmps38
 go_wp2
 go_loopw [7] (fun i w'=>∃ k:Nat,k≤n∧i = .int .i64 (k:Int)∧∃ Y1 ds1 u1 c1,PS P X D A w0 (K+k) Y1 ds1 u1 c1 w'∧(Y1.th t).kC D.n D.cap+k≤r0) (fun i _=>n-(intOf i).toNat)
 case atStart=>exact ⟨0,Nat.zero_le _,rfl,Y,ds,u,c,HP.out,by rw [HR.out];exact Nat.le_refl _⟩
 case round =>
  obtain ⟨k,hk,rfl,Y1,ds1,u1,c1,lY,QG⟩:=hrel
  by_cases hlt:k<n
  ·have hlt':(k:Int)<(n:Int):=by omega
   have HS:=aA (QT HX.out lY lG hcap ht (by omega))
   have hrk:=XB hn0 lY ht
   have HP1:=aA lY
   clear lY
   go_wp2_with fail
   refine HS.out.mono ?_
   rintro e w2 ⟨rfl,ds2,u2,qC⟩
   obtain ⟨gu,cu,x,e9,cut,x0,x1⟩:=qC.under ht
   have QO:=aA qC
   clear qC
   by_cases tG:((RS D.n D.cap Y1 (t:Int)).th t).part=0
   ·have hx:x = -1:=x0 tG
    subst hx
    clear x0 x1
    go_wp2
    go_ret
    exact ⟨rfl,_,_,_,_,QO.out.mono (by omega),.inl tG⟩
   ·have hx:¬x<0:=by have:=x1 tG;omega
    have aL2:0<((RS D.n D.cap Y1 (t:Int)).th t).kC D.n D.cap:=by
     obtain ⟨S,vd,vu,vs,-,hp,-⟩:=QO.out
     exact M.wV (hp.yi.ok.th t ht) tG
    clear x0 x1
    go_wp2
    go_roundw
    case rel=>exact ⟨k+1,by omega,by go_num,_,_,_,_,QO.out.mono (by omega),by omega⟩
    case measure=>simp [intOf];omega
  ·have hlt':¬(k:Int)<(n:Int):=by omega
   have HP1:=aA lY
   clear lY
   go_wp2
   go_ret
   exact ⟨rfl,_,_,_,_,HP1.out.mono (by omega),.inr (by have:=HR.out;omega)⟩
theorem aB6.pg {n r:Nat} (h:aB6 P X D A w0 K t n r w):PG P X D A w0 K w:=by obtain ⟨Y,ds,u,c,h,-⟩:=h;exact ⟨Y,ds,u,c,h⟩
theorem PG.mono (h:PG P X D A w0 K w) {K':Nat} (hk:K≤K'):PG P X D A w0 K' w:=by obtain ⟨Y,ds,u,c,h⟩:=h;exact ⟨Y,ds,u,c,h.mono hk⟩
theorem PG.below (xo:wH P tell D A.tE A.bN X nJ nK nL nM nN nO nP) (h:PG P X D A w0 K w) (hb:Below w.heap.size w w1):PG P X D A w0 K w1:=by obtain ⟨Y,ds,u,c,h⟩:=h;exact ⟨Y,ds,u,c,h.below xo hb⟩
theorem PG.row (h:PG P X D A w0 K w):∃ vd vu vs c,Row w A.bP 69 (ZJ D A vd vu vs c):=by obtain ⟨Y,ds,u,c,S,vd,vu,vs,hm,-⟩:=h;exact ⟨_,_,_,_,hm.row⟩
theorem PG.guard (xo:wH P tell D A.tE A.bN X nJ nK nL nM nN nO nP) (h:PG P X D A w0 K w) {W:World} (hB:Below w.heap.size w W) {b:Nat} (hb:w.heap.size≤b) (TP:b<W.heap.size):∃ w1:QW,PG P X D A w1 K W∧∀ K' W',PG P X D A w1 K' W'→PG P X D A w0 K' W'∧W'.heap[b]?=W.heap[b]?:=by
 obtain ⟨Y,ds,u,c,S,vd,vu,vs,hm,hp⟩:=h
 have hm':=hm.below xo hB
 have hz:=hB.size
 refine ⟨⟨W,fun k=>k<W.heap.size∧¬(S k∨k=A.bP∨k=A.bX∨vd.ownBlock=some k∨vu.ownBlock=some k∨vs.ownBlock=some k)⟩,⟨Y,ds,u,c,S,vd,vu,vs,⟨hm'.row,hm'.obj,hm'.x,hm'.xl,hm'.od,hm'.ou,hm'.os,hm'.sx,hm'.nu,?_,fun k q=>q.1,Fr.refl _ _⟩,hp⟩,fun K' W' h'=>?_⟩
 ·exact ⟨fun q=>q.2 (.inr (.inl rfl)),fun q=>q.2 (.inr (.inr (.inl rfl))),fun k hS q=>q.2 (.inl hS),fun k e q=>q.2 (.inr (.inr (.inr e)))⟩
 ·obtain ⟨Y',ds',u',c',S',vd',vu',vs',AA,lY⟩:=h'
  have hU:∀ k,(S k∨k=A.bP∨k=A.bX∨vd.ownBlock=some k∨vu.ownBlock=some k∨vs.ownBlock=some k)→¬w0.q k∧k<w.heap.size:=by
   rintro k (q|rfl|rfl|q)
   ·exact ⟨hm.lo.2.2.1 k q,hm.xl k q⟩
   ·exact ⟨hm.lo.1,hm.row.lt⟩
   ·exact ⟨hm.lo.2.1,hm.obj.lt⟩
   ·refine ⟨hm.lo.2.2.2 k q,?_⟩
    rcases q with q|q|q
    ·exact (hm.od.lt k q).2
    ·exact (hm.ou.lt k q).2
    ·exact (hm.os.lt k q).2
  have hq:∀ k,w0.q k→k<W.heap.size∧¬(S k∨k=A.bP∨k=A.bX∨vd.ownBlock=some k∨vu.ownBlock=some k∨vs.ownBlock=some k):=fun k q=>⟨by have:=hm.ql k q;have:=hm.bl.size;omega,fun c=>(hU k c).1 q⟩
  refine ⟨⟨Y',ds',u',c',S',vd',vu',vs',⟨AA.row,AA.obj,AA.x,AA.xl,AA.od,AA.ou,AA.os,AA.sx,AA.nu,?_,hm.ql,?_⟩,lY⟩,?_⟩
  ·exact ⟨fun q=>AA.lo.1 (hq _ q),fun q=>AA.lo.2.1 (hq _ q),fun k hS q=>AA.lo.2.2.1 k hS (hq k q),fun k e q=>AA.lo.2.2.2 k e (hq k q)⟩
  ·refine hm'.bl.trans ⟨AA.bl.os,AA.bl.tape,AA.bl.output,AA.bl.size,fun k hk hn=>AA.bl.block k hk (fun c=>hn (fun q=>c (hq k q)))⟩
  ·exact AA.bl.block b TP (fun c=>c ⟨TP,fun q=>by have:=(hU b q).2;omega⟩)
theorem xX (x:Int) (n:Nat) (hn:0<n) (lG:n≤64) (it:tU x):∃ t:Nat,t<n∧∀ W:World,Calls Tryz.prog 45 #[.int .i64 x,.int .i64 (n:Int)] W fun e w'=>e = .returned (.int .i64 (t:Int))∧w'=W:=by
 obtain ⟨p0,p1⟩:=gR x (n:Int) (by omega)
 obtain ⟨t,ht⟩:∃ t:Nat,pk x (n:Int)=(t:Int):=⟨(pk x (n:Int)).toNat,by omega⟩
 refine ⟨t,by omega,fun W=>?_⟩
 have:=rQ x (n:Int) W (by omega) (by omega) it.1 it.2
 rwa [ht] at this
theorem OK (xo:wH P tell D A.tE A.bN X nJ nK nL nM nN nO nP) (h:PG P X D A w0 K w) (h2:2≤D.n) (lG:D.n≤64) (xt xn xc xa xb:Int) (it:tU xt) (hK:K+4000≤900000000) :
  Calls Tryz.prog 70 #[.pointer (some ⟨A.bP,0,none⟩),.agg #[.int .i64 1,.int .i64 xt,.int .i64 xn,.int .i64 xc,.int .i64 xa,.int .i64 xb]] w fun e w'=>e = .returned (.bool true)∧PG P X D A w0 (K+4000) w':=by
 obtain ⟨t,ht,hpk⟩:=xX xt D.n (by omega) lG it
 have HPK:=aA hpk
 clear hpk
 go_enter Tryz.func70,Tryz.ntmps70
 go_upto_region 1 with fail
 generalize hW:World.alloc w _=W
 have hb:Below w.heap.size w W:=by rw [←hW];exact aB w _
 have hr:Row W w.heap.size 38 [.int .i64 1,.int .i64 xt,.int .i64 xn,.int .i64 xc,.int .i64 xa,.int .i64 xb]:=by rw [←hW];exact Row.new' rfl
 have b0:=hr.cell_of (i:=0) rfl
 have b1:=hr.cell_of (i:=1) rfl
 have b3:=hr.cell_of (i:=3) rfl
 have b4:=hr.cell_of (i:=4) rfl
 have b5:=hr.cell_of (i:=5) rfl
 have hp:=h.below xo hb
 obtain ⟨vd,vu,vs,c,hrow⟩:=hp.row
 have c2:W.cell? ⟨A.bP,2,none⟩=some (.int .i64 (D.n:Int)):=hrow.cell_of rfl
 obtain ⟨Y,ds,u,c',hps⟩:=hp.below xo (Below.drew (Below.refl _ _))
 have HBE:=aA (KR xo hps lG ht ⟨xc,xa,xb⟩ (by omega))
 clear hW hr hb h hp hrow hps xo
 refine fR (S:=(fun w'=>w'.cell? ⟨w.heap.size,1,none⟩=some (.int .i64 xt)∧w'.cell? ⟨A.bP,2,none⟩=some (.int .i64 (D.n:Int)))) 9 rfl (by kernel_rfl) ?_ (fun hHeld=>?_)
 ·exact ⟨b1,c2⟩
 iterate 7 (refine tk 8 (by rfl) (by kernel_rfl) (by exact fun _ _ _ h=>h) (.inl ⟨by rfl,fun w hS=>by (try dsimp only at hS);go_simp;(try with_reducible rfl)⟩) (by assumption) ?_;try go_frame)
 refine bQ 7 (by rfl) (by kernel_rfl) (fun K hK=>?_)
 go_simp
 refine (HPK.out _).mono ?_
 rintro e w' ⟨rfl,rfl⟩
 go_wp2_with fail
 refine hK.out _ _ ?_ (fun hHeld=>?_)
 ·exact hHeld
 clear hK K
 (try go_frame)
 iterate 1 (refine tk 8 (by rfl) (by kernel_rfl) (by exact fun _ _ _ h=>h) (.inl ⟨by rfl,fun w hS=>by (try dsimp only at hS);go_simp;(try with_reducible rfl)⟩) (by assumption) ?_;try go_frame)
 refine wpAnyH_done (by kernel_rfl) ?_ _
 clear hHeld
 go_wp2_with fail
 refine HBE.out.mono ?_
 rintro e w2 ⟨rfl,ds2,u2,qC⟩
 have QO:=aA qC
 clear qC
 go_wp2_with fail
 go_ret
 exact ⟨rfl,_,_,_,_,QO.out.mono (by omega)⟩
theorem OL (xo:wH P tell D A.tE A.bN X nJ nK nL nM nN nO nP) (h:PG P X D A w0 K w) (h2:2≤D.n) (lG:D.n≤64) (hcap:D.cap≤64) (xt xn xc xa xb:Int) (it:tU xt) (iN:tU xn) (hK:K+4000≤900000000) :
  Calls Tryz.prog 70 #[.pointer (some ⟨A.bP,0,none⟩),.agg #[.int .i64 2,.int .i64 xt,.int .i64 xn,.int .i64 xc,.int .i64 xa,.int .i64 xb]] w fun e w'=>e = .returned (.bool true)∧PG P X D A w0 (K+4000) w':=by
 obtain ⟨t,ht,hpk⟩:=xX xt D.n (by omega) lG it
 obtain ⟨p0,p1⟩:=gR xn 400 (by decide)
 obtain ⟨q,hq⟩:∃ q:Nat,pk xn 400=(q:Int):=⟨(pk xn 400).toNat,by omega⟩
 have hpn:∀ W:World,Calls Tryz.prog 45 #[.int .i64 xn,.int .i64 400] W fun e w'=>e = .returned (.int .i64 (q:Int))∧w'=W:=fun W=>by rw [←hq];exact rQ xn 400 W (by decide) (by decide) iN.1 iN.2
 have hq4:q≤399:=by omega
 have hwq:IntKind.i64.wrap (1+(q:Int))=((1+q:Nat):Int):=by rw [dP _ (by omega) (by omega)];push_cast;rfl
 have HPK:=aA hpk
 have HPN:=aA hpn
 clear hpk hpn hq p0 p1
 go_enter Tryz.func70,Tryz.ntmps70
 go_upto_region 1 with fail
 generalize hW:World.alloc w _=W
 have hb:Below w.heap.size w W:=by rw [←hW];exact aB w _
 have hr:Row W w.heap.size 38 [.int .i64 2,.int .i64 xt,.int .i64 xn,.int .i64 xc,.int .i64 xa,.int .i64 xb]:=by rw [←hW];exact Row.new' rfl
 have b0:=hr.cell_of (i:=0) rfl
 have b1:=hr.cell_of (i:=1) rfl
 have b2:=hr.cell_of (i:=2) rfl
 have hp:=h.below xo hb
 obtain ⟨vd,vu,vs,c,hrow⟩:=hp.row
 have c2:W.cell? ⟨A.bP,2,none⟩=some (.int .i64 (D.n:Int)):=hrow.cell_of rfl
 obtain ⟨Y,ds,u,c',hps⟩:=hp.below xo (Below.drew (Below.refl _ _))
 have JY:=aA (LI xo hps lG hcap ht (1+q) (by omega))
 clear hW hr hb h hp hrow hps xo
 refine fR (S:=(fun w'=>w'.cell? ⟨w.heap.size,1,none⟩=some (.int .i64 xt)∧w'.cell? ⟨A.bP,2,none⟩=some (.int .i64 (D.n:Int)))) 9 rfl (by kernel_rfl) ?_ (fun hHeld=>?_)
 ·exact ⟨b1,c2⟩
 iterate 7 (refine tk 8 (by rfl) (by kernel_rfl) (by exact fun _ _ _ h=>h) (.inl ⟨by rfl,fun w hS=>by (try dsimp only at hS);go_simp;(try with_reducible rfl)⟩) (by assumption) ?_;try go_frame)
 refine bQ 7 (by rfl) (by kernel_rfl) (fun K hK=>?_)
 go_simp
 refine (HPK.out _).mono ?_
 rintro e w' ⟨rfl,rfl⟩
 go_wp2_with fail
 refine hK.out _ _ ?_ (fun hHeld=>?_)
 ·exact hHeld
 clear hK K
 (try go_frame)
 iterate 1 (refine tk 8 (by rfl) (by kernel_rfl) (by exact fun _ _ _ h=>h) (.inl ⟨by rfl,fun w hS=>by (try dsimp only at hS);go_simp;(try with_reducible rfl)⟩) (by assumption) ?_;try go_frame)
 refine wpAnyH_done (by kernel_rfl) ?_ _
 clear hHeld
 go_wp2_with fail
 refine (HPN.out _).mono ?_
 rintro e w' ⟨rfl,rfl⟩
 go_wp2_with fail
 refine JY.out.mono ?_
 rintro e w2 ⟨rfl,qC⟩
 have QO:=aA qC
 clear qC
 go_wp2_with fail
 go_ret
 exact ⟨rfl,QO.out.pg.mono (by omega)⟩
theorem SN (xo:wH P tell D A.tE A.bN X nJ nK nL nM nN nO nP) (h:PG P X D A w0 K w) (h2:2≤D.n) (lG:D.n≤64) (xk xt xn xc xa xb:Int) (k1:¬xk=1) (k2:¬xk=2) (k3:¬xk=3) (it:tU xt) :
  Calls Tryz.prog 70 #[.pointer (some ⟨A.bP,0,none⟩),.agg #[.int .i64 xk,.int .i64 xt,.int .i64 xn,.int .i64 xc,.int .i64 xa,.int .i64 xb]] w fun e w'=>e = .returned (.bool true)∧PG P X D A w0 (K+4000) w':=by
 obtain ⟨t,ht,hpk⟩:=xX xt D.n (by omega) lG it
 have HPK:=aA hpk
 clear hpk
 go_enter Tryz.func70,Tryz.ntmps70
 go_upto_region 1 with fail
 generalize hW:World.alloc w _=W
 have hb:Below w.heap.size w W:=by rw [←hW];exact aB w _
 have hr:Row W w.heap.size 38 [.int .i64 xk,.int .i64 xt,.int .i64 xn,.int .i64 xc,.int .i64 xa,.int .i64 xb]:=by rw [←hW];exact Row.new' rfl
 have b0:=hr.cell_of (i:=0) rfl
 have b1:=hr.cell_of (i:=1) rfl
 have hp:=h.below xo hb
 obtain ⟨vd,vu,vs,c,hrow⟩:=hp.row
 have c2:W.cell? ⟨A.bP,2,none⟩=some (.int .i64 (D.n:Int)):=hrow.cell_of rfl
 have HP:=aA (hp.below xo (Below.drew (Below.refl _ _)))
 clear hW hr hb h hp hrow xo
 refine fR (S:=(fun w'=>w'.cell? ⟨w.heap.size,1,none⟩=some (.int .i64 xt)∧w'.cell? ⟨A.bP,2,none⟩=some (.int .i64 (D.n:Int)))) 9 rfl (by kernel_rfl) ?_ (fun hHeld=>?_)
 ·exact ⟨b1,c2⟩
 iterate 7 (refine tk 8 (by rfl) (by kernel_rfl) (by exact fun _ _ _ h=>h) (.inl ⟨by rfl,fun w hS=>by (try dsimp only at hS);go_simp;(try with_reducible rfl)⟩) (by assumption) ?_;try go_frame)
 refine bQ 7 (by rfl) (by kernel_rfl) (fun K hK=>?_)
 go_simp
 refine (HPK.out _).mono ?_
 rintro e w' ⟨rfl,rfl⟩
 go_wp2_with fail
 refine hK.out _ _ ?_ (fun hHeld=>?_)
 ·exact hHeld
 clear hK K
 (try go_frame)
 iterate 1 (refine tk 8 (by rfl) (by kernel_rfl) (by exact fun _ _ _ h=>h) (.inl ⟨by rfl,fun w hS=>by (try dsimp only at hS);go_simp;(try with_reducible rfl)⟩) (by assumption) ?_;try go_frame)
 refine wpAnyH_done (by kernel_rfl) ?_ _
 clear hHeld
 go_wp2
 go_ret
 exact ⟨rfl,HP.out.mono (by omega)⟩
theorem OM (xo:wH P tell D A.tE A.bN X nJ nK nL nM nN nO nP) (h:PG P X D A w0 K w) (h2:2≤D.n) (lG:D.n≤64) (hcap:D.cap≤64) (xt xn xc xa xb:Int) (it:tU xt) (iN:tU xn) (hK:K+4000≤900000000) :
  Calls Tryz.prog 70 #[.pointer (some ⟨A.bP,0,none⟩),.agg #[.int .i64 3,.int .i64 xt,.int .i64 xn,.int .i64 xc,.int .i64 xa,.int .i64 xb]] w fun e w'=>e = .returned (.bool true)∧PG P X D A w0 (K+4000) w':=by
 obtain ⟨t,ht,hpk⟩:=xX xt D.n (by omega) lG it
 obtain ⟨p0,p1⟩:=gR xn 60 (by decide)
 obtain ⟨q,hq⟩:∃ q:Nat,pk xn 60=(q:Int):=⟨(pk xn 60).toNat,by omega⟩
 have hpn:∀ W:World,Calls Tryz.prog 45 #[.int .i64 xn,.int .i64 60] W fun e w'=>e = .returned (.int .i64 (q:Int))∧w'=W:=fun W=>by rw [←hq];exact rQ xn 60 W (by decide) (by decide) iN.1 iN.2
 have hq4:q≤59:=by omega
 have hwq:IntKind.i64.wrap (1+(q:Int))=1+(q:Int):=dP _ (by omega) (by omega)
 obtain ⟨MN,hMN⟩:∃ MN,MN=(1+q)*D.n:=⟨_,rfl⟩
 have hM4:MN≤3840:=by rw [hMN];exact Nat.le_trans (Nat.mul_le_mul (show 1+q≤60 by omega) lG) (by decide)
 have hMi:(1+(q:Int))*(D.n:Int)=(MN:Int):=by rw [hMN];push_cast;rfl
 have hwm:IntKind.i64.wrap ((1+(q:Int))*(D.n:Int))=(MN:Int):=by rw [hMi];exact dP _ (by omega) (by omega)
 have hD0:¬(D.n:Int)=0:=by omega
 have hDm:¬(D.n:Int) = -1:=by omega
 have HPK:=aA hpk
 have HPN:=aA hpn
 clear hpk hpn hq p0 p1 hMN hMi
 go_enter Tryz.func70,Tryz.ntmps70
 go_upto_region 1 with fail
 generalize hW:World.alloc w _=W
 have hb:Below w.heap.size w W:=by rw [←hW];exact aB w _
 have hr:Row W w.heap.size 38 [.int .i64 3,.int .i64 xt,.int .i64 xn,.int .i64 xc,.int .i64 xa,.int .i64 xb]:=by rw [←hW];exact Row.new' rfl
 have b0:=hr.cell_of (i:=0) rfl
 have b1:=hr.cell_of (i:=1) rfl
 have hp:=h.below xo hb
 obtain ⟨vd,vu,vs,c,hrow⟩:=hp.row
 have c2:W.cell? ⟨A.bP,2,none⟩=some (.int .i64 (D.n:Int)):=hrow.cell_of rfl
 obtain ⟨w9,hp9,aAN⟩:=h.guard xo (Below.drew hb) (Nat.le_refl _) hr.lt
 have HP:=aA hp9
 have HBK:=aA aAN
 have HR:=aA hr
 have HX:=aA xo
 clear hW hr hb h hp hrow xo hp9 aAN
 refine fR (S:=(fun w'=>w'.cell? ⟨w.heap.size,1,none⟩=some (.int .i64 xt)∧w'.cell? ⟨A.bP,2,none⟩=some (.int .i64 (D.n:Int)))) 9 rfl (by kernel_rfl) ?_ (fun hHeld=>?_)
 ·exact ⟨b1,c2⟩
 iterate 7 (refine tk 8 (by rfl) (by kernel_rfl) (by exact fun _ _ _ h=>h) (.inl ⟨by rfl,fun w hS=>by (try dsimp only at hS);go_simp;(try with_reducible rfl)⟩) (by assumption) ?_;try go_frame)
 refine bQ 7 (by rfl) (by kernel_rfl) (fun K hK=>?_)
 go_simp
 refine (HPK.out _).mono ?_
 rintro e w' ⟨rfl,rfl⟩
 go_wp2_with fail
 refine hK.out _ _ ?_ (fun hHeld=>?_)
 ·exact hHeld
 clear hK K
 (try go_frame)
 iterate 1 (refine tk 8 (by rfl) (by kernel_rfl) (by exact fun _ _ _ h=>h) (.inl ⟨by rfl,fun w hS=>by (try dsimp only at hS);go_simp;(try with_reducible rfl)⟩) (by assumption) ?_;try go_frame)
 refine wpAnyH_done (by kernel_rfl) ?_ _
 clear hHeld
 go_wp2_with fail
 clear b0 b1 c2
 go_loopw [6] (fun i w'=>∃ j:Nat,j≤MN∧i = .int .i64 (j:Int)∧PG P X D A w9 (K+j) w') (fun i _=>MN-(intOf i).toNat)
 case atStart=>exact ⟨0,Nat.zero_le _,rfl,HP.out⟩
 case round =>
  obtain ⟨j,hj,rfl,hpj⟩:=hrel
  have hR:=HR.out.of_block (HBK.out _ _ hpj).2
  have b2:=hR.cell_of (i:=2) rfl
  obtain ⟨vd,vu,vs,c,hrow⟩:=hpj.row
  have c2:wr.cell? ⟨A.bP,2,none⟩=some (.int .i64 (D.n:Int)):=hrow.cell_of rfl
  have HPJ:=aA hpj
  clear hR hrow hpj
  by_cases hlt:j<MN
  ·have hlt':(j:Int)<(MN:Int):=by omega
   obtain ⟨r,hr⟩:∃ r:Nat,r=(t+j) % D.n:=⟨_,rfl⟩
   have hrn:r<D.n:=by rw [hr];exact Nat.mod_lt _ (by omega)
   have hrm:((t:Int)+(j:Int)).tmod (D.n:Int)=(r:Int):=by rw [hr,Int.tmod_eq_emod_of_nonneg (by omega)];push_cast;rfl
   have hw3:IntKind.i64.wrap ((t:Int)+(j:Int))=(t:Int)+(j:Int):=dP _ (by omega) (by omega)
   have hw4:IntKind.i64.wrap (r:Int)=(r:Int):=dP _ (by omega) (by omega)
   obtain ⟨Y,ds,u,c',hps⟩:=HPJ.out.below HX.out (Below.drew (Below.refl _ _))
   have JY:=aA (QT HX.out hps lG hcap hrn (by omega))
   clear hr hps
   go_wp2_with fail
   go_region_with (go_at_call 45;refine (HPN.out _).mono ?_;rintro e w' ⟨rfl,rfl⟩)
   all_goals
    go_wp2_with fail
    refine JY.out.mono ?_
    rintro e w2 ⟨rfl,ds2,u2,qC⟩
    have QO:=aA qC
    clear qC
    go_wp2
    go_roundw
    case rel=>exact ⟨j+1,by omega,by go_num,_,_,_,_,QO.out⟩
    case measure=>simp [intOf];omega
  ·have hlt':¬(j:Int)<(MN:Int):=by omega
   have HPE:=aA (HPJ.out.below HX.out (Below.drew (Below.refl _ _)))
   go_wp2_with fail
   go_region_with (go_at_call 45;refine (HPN.out _).mono ?_;rintro e w' ⟨rfl,rfl⟩)
   all_goals
    go_wp2
    go_ret
    exact ⟨rfl,(HBK.out _ _ HPE.out).1.mono (by omega)⟩
theorem aB8 (xo:wH P tell D A.tE A.bN X nJ nK nL nM nN nO nP) (h:PG P X D A w0 K w) (h2:2≤D.n) (lG:D.n≤64) (hcap:D.cap≤64) (x:wZ) (it:tU x.t) (iN:tU x.n) (hK:K+4000≤900000000) :
  Calls Tryz.prog 70 #[.pointer (some ⟨A.bP,0,none⟩),x.val] w fun e w'=>e = .returned (.bool true)∧PG P X D A w0 (K+4000) w':=by
 obtain ⟨xk,xt,xn,xc,xa,xb⟩:=x
 by_cases k1:xk=1
 ·subst k1;exact OK xo h h2 lG xt xn xc xa xb it hK
 ·by_cases k2:xk=2
  ·subst k2;exact OL xo h h2 lG hcap xt xn xc xa xb it iN hK
  ·by_cases k3:xk=3
   ·subst k3;exact OM xo h h2 lG hcap xt xn xc xa xb it iN hK
   ·exact SN xo h h2 lG xk xt xn xc xa xb k1 k2 k3 it
end
end Go.Proofs.YtefjhnhdagolhaaGreat
