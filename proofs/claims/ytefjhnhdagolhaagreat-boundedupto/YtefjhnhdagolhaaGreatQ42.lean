import Derived.Test.YtefjhnhdagolhaaGreatQ41
import Derived.Deep.LoopGhost
import Derived.Test.YtefjhnhdagolhaaGreatQ02
import Derived.Test.YtefjhnhdagolhaaGreatQ11
import Derived.Deep.AppendLies
set_option maxHeartbeats 4000000
set_option maxRecDepth 20000
namespace Go.Proofs.YtefjhnhdagolhaaGreat
open Go.RowKit
attribute [local go_sem ↓] Go.wp_at_zero Go.wp_at_succ
section
variable {I:Nat→Prop} {B:Nat} {w:World} {p:Option Addr} {s:nU} {h:Nat} {a b:Int}
def XN (o:Option Int):Value:=match o with|some v=>.tuple #[.int .i64 v,.bool true]|none=>.tuple #[.int .i64 0,.bool false]
theorem aCk (q:Tr I w p s h) (hs:uC s):Calls Tryz.prog 377 #[.pointer p,.int .i64 a] w fun e w'=>e = .returned (XN (pW s a))∧w'=w:=by
 obtain ⟨d,q⟩:=q
 have HQ:=aA q
 have HS:=aA hs
 clear q hs
 go_enter Tryz.func377,Tryz.ntmps377
 go_wp2
 go_loopg [0] d (fun g v w'=>∃ p' s1 h1,v = .pointer p'∧w'=w∧jB I w g p' s1 h1∧uC s1∧pW s a=pW s1 a)
 case atStart=>exact ⟨p,s,h,rfl,rfl,HQ.out,HS.out,rfl⟩
 case round =>
  obtain ⟨p',s1,h1,rfl,rfl,hq,hA,hm⟩:=hrel
  have HM:=aA hm
  have HA:=aA hA
  have hc:(p'=none∧s1=[]∧h1=0)∨∃ d' b1 pl pr e sl sr hl hr,gk=d'+1∧p'=some ⟨b1,0,none⟩∧Row wr b1 375 (qH e pl pr h1)∧jB I wr d' pl sl hl∧jB I wr d' pr sr hr∧s1=sl++e::sr:=by
   cases gk with
   |zero=>exact .inl hq
   |succ d' =>
    rcases hq with q|⟨b1,pl,pr,e,sl,sr,hl,hr,h1,-,h3,h4,h5,h6,-⟩
    ·exact .inl q
    ·exact .inr ⟨d',b1,pl,pr,e,sl,sr,hl,hr,rfl,h1,h3,h4,h5,h6⟩
  clear hq hA hm
  rcases hc with ⟨rfl,rfl,-⟩|⟨d',b1,pl,pr,e,sl,sr,hl,hr,rfl,rfl,hR,tl,tr,rfl⟩
  ·have e0:pW ([]:nU) a=none:=rfl
   go_wp2
   go_ret2
   rw [HM.out,e0]
   exact ⟨rfl,rfl⟩
  ·unfold qH at hR
   have c0:=hR.cell_of (i:=0) rfl
   have c1:=hR.cell_of (i:=1) rfl
   have c2:=hR.cell_of (i:=2) rfl
   have c3:=hR.cell_of (i:=3) rfl
   obtain ⟨as1,as2,-,-⟩:=kB.mp HA.out
   have HTL:=aA (And.intro tl as1)
   have HTR:=aA (And.intro tr as2)
   clear tl tr as1 as2 hR
   by_cases ce:e.1=a
   ·have HG:=aA (QI HA.out ce)
    subst ce
    go_wp2
    go_ret2
    rw [HM.out,HG.out]
    exact ⟨rfl,rfl⟩
   ·by_cases ca:a<e.1
    ·have HG:=aA (LD HA.out ca)
     go_wp2
     go_roundg d'
     case measure=>omega
     case rel=>exact ⟨pl,sl,hl,rfl,rfl,HTL.out.1,HTL.out.2,HM.out.trans HG.out⟩
    ·have HG:=aA (FP HA.out (show e.1<a by omega))
     go_wp2
     go_roundg d'
     case measure=>omega
     case rel=>exact ⟨pr,sr,hr,rfl,rfl,HTR.out.1,HTR.out.2,HM.out.trans HG.out⟩
theorem aAv {e:Int×Int} {s':nU} (q:Tr I w p (e::s') h):Calls Tryz.prog 384 #[.pointer p] w fun e' w'=>e' = .returned (.agg #[.int .i64 e.1,.int .i64 e.2])∧Below w.heap.size w w':=by
 obtain ⟨d,q⟩:=q
 go_enter Tryz.func384,Tryz.ntmps384
 go_upto_region 1 with fail
 generalize hW:World.alloc w _=W
 have hb0:Below w.heap.size w W:=by rw [←hW];exact aB _ _
 have r4:Row W w.heap.size 373 [.int .i64 0,.int .i64 0]:=by rw [←hW];exact Row.new' (by simp)
 have HQ:=aA (show jB I W d p (e::s') h from q.stay fun k hk hl=>⟨hk,hb0.block k hl⟩)
 have HB:=aA hb0
 have HR:=aA r4
 clear q hW hb0 r4
 go_loopg [0] d (fun g v w'=>∃ p' s1 h1,v = .pointer p'∧w'=W∧jB I W g p' (e::s1) h1)
 case atStart=>exact ⟨p,s',h,rfl,rfl,HQ.out⟩
 case round =>
  obtain ⟨p',s1,h1,rfl,rfl,hq⟩:=hrel
  have hc:∃ d' b1 pl pr e' sl sr hl,gk=d'+1∧p'=some ⟨b1,0,none⟩∧Row wr b1 375 (qH e' pl pr h1)∧jB I wr d' pl sl hl∧e::s1=sl++e'::sr:=by
   cases gk with
   |zero=>exact absurd hq.2.1 (by simp)
   |succ d' =>
    rcases hq with q|⟨b1,pl,pr,e',sl,sr,hl,hr,h1,-,h3,h4,-,h6,-⟩
    ·exact absurd q.2.1 (by simp)
    ·exact ⟨d',b1,pl,pr,e',sl,sr,hl,rfl,h1,h3,h4,h6⟩
  clear hq
  obtain ⟨d',b1,pl,pr,e',sl,sr,hl,rfl,rfl,hR,tl,hse⟩:=hc
  unfold qH at hR
  have c0:=hR.cell_of (i:=0) rfl
  have c1:=hR.cell_of (i:=1) rfl
  have c2:=hR.cell_of (i:=2) rfl
  rcases Tr.cases ⟨d',tl⟩ with ⟨rfl,rfl,-⟩|⟨b2,-,-,e2,sl2,sr2,-,-,rfl,-,-,-,-,rfl,-⟩
  ·have ee:e=e':=by simpa using (List.cons.inj hse).1
   subst ee
   have y0:=HR.out.cell_of (i:=0) rfl
   have y1:=HR.out.cell_of (i:=1) rfl
   have z0:=HR.out.frozen 0
   have z1:=HR.out.frozen 1
   have IC:=aA (HR.out.set 0 (.int .i64 e.1) |>.set 1 (.int .i64 e.2))
   clear hse tl hR
   go_wp2
   have q1:=IC.out.cell_of (i:=0) rfl
   have q2:=IC.out.cell_of (i:=1) rfl
   exact bodyPost_ret (v:=.agg #[.int .i64 e.1,.int .i64 e.2]) (by simp [results,Tryz.results384,go_sem,q1,q2]) rfl ⟨rfl,(HB.out.setCell (by simp) _).setCell (by simp) _⟩
  ·have hx:∃ s9,e::s9=sl2++e2::sr2:=by
    cases sl2 with
    |nil=>simp at hse;exact ⟨sr2,by rw [hse.1];rfl⟩
    |cons x l=>simp at hse;exact ⟨l++e2::sr2,by rw [hse.1];rfl⟩
   obtain ⟨s9,hx⟩:=hx
   rw [←hx] at tl
   have HTL:=aA tl
   clear tl hse hx hR
   go_wp2
   go_roundg d'
   case measure=>omega
   case rel=>exact ⟨_,s9,hl,rfl,rfl,HTL.out⟩
end
theorem JO {w0 w w':World} {a1 a2 a3 a4:Addr} {v1 v2 v3 v4:Value} (hb:Below w.heap.size w w')
  (h:Below w0.heap.size w0 w∧w.cell? a1=some v1∧w.cell? a2=some v2∧w.cell? a3=some v3∧w.cell? a4=some v4) :
  Below w0.heap.size w0 w'∧w'.cell? a1=some v1∧w'.cell? a2=some v2∧w'.cell? a3=some v3∧w'.cell? a4=some v4 :=
 let ⟨h0,h1,h2,h3,h4⟩:=h
 ⟨Below.next h0 hb h0.size,cell_later hb h1,cell_later hb h2,cell_later hb h3,cell_later hb h4⟩
theorem SY {e:Int×Int} {s:nU} (h:uC (e::s)):vZ (e::s) e.1=s:=QJ (l:=[]) (e:=e) h rfl
theorem JP (s:nU) (a:Int):(vZ s a).length≤s.length:=List.length_filter_le _ _
section
variable {I:Nat→Prop} {B:Nat}
theorem DY:∀ (d:Nat) (a:Int) (w:World) (p:Option Addr) (s:nU) (h:Nat),jB (JB I B w) w d p s h→uC s→(pW s a).isSome→B≤w.heap.size→s.length≤500000000000 →
  Calls Tryz.prog 379 #[.pointer p,.int .i64 a] w (zH I B w (vZ s a))
 |0,a,w,p,s,h,q,hs,hm,hB,hz=>by
  obtain ⟨rfl,rfl,-⟩:=q
  exact absurd hm (by simp [pW])
 |d+1,a,w,p,s,h,q,hs,hm,hB,hz=>by
  have IH:=aA (DY d)
  rcases q with ⟨rfl,rfl,-⟩|⟨b1,pl,pr,e,sl,sr,hl,hr,rfl,-,pV,tl,tr,rfl,-⟩
  ·exact absurd hm (by simp [pW])
  have hzl:sl.length+sr.length+1≤500000000000:=by simp only [List.length_append,List.length_cons] at hz;omega
  obtain ⟨as1,as2,-,-⟩:=kB.mp hs
  have ln1:=JP sl a
  have ln2:=JP sr a
  have YS:=aA hs
  have HA1:=aA as1
  have QU:=aA as2
  have HM:=aA hm
  clear hs as1 as2 hz hm
  unfold qH at pV
  have c0:=pV.cell_of (i:=0) rfl
  have c1:=pV.cell_of (i:=1) rfl
  have c2:=pV.cell_of (i:=2) rfl
  have c3:=pV.cell_of (i:=3) rfl
  have HL:=aA tl
  have HR:=aA tr
  clear pV tl tr
  by_cases ca:a<e.1
  ·have HG:=aA (LD YS.out ca)
   rw [WN YS.out ca]
   go_enter Tryz.func379,Tryz.ntmps379
   go_upto_region 2 with fail
   refine fR (S:=(fun w'=>Below w.heap.size w w'∧w'.cell? ⟨b1,0,none⟩=some (.int .i64 e.1)∧w'.cell? ⟨b1,1,none⟩=some (.int .i64 e.2)∧w'.cell? ⟨b1,2,none⟩=some (.pointer pl)∧w'.cell? ⟨b1,3,none⟩=some (.pointer pr))) 16 rfl (by kernel_rfl) ?_ (fun hHeld=>?_)
   ·exact ⟨(Below.refl _ _).drew,c0,c1,c2,c3⟩
   iterate 5 (refine tk 15 (by rfl) (by kernel_rfl) (by exact fun _ _ _ h=>h) (.inl ⟨by rfl,fun w hS=>by (try dsimp only at hS);go_simp;(try with_reducible rfl)⟩) (by assumption) ?_;try go_frame)
   iterate 8 (refine tk 16 (by rfl) (by kernel_rfl) (by exact fun _ _ _ h=>h) (.inl ⟨by rfl,fun w hS=>by (try dsimp only at hS);go_simp;(try with_reducible rfl)⟩) (by assumption) ?_;try go_frame)
   refine bQ 5 (by rfl) (by kernel_rfl) (fun K hK=>?_)
   go_simp
   refine (IH.out a _ _ _ _ (HL.out.later hHeld.1) HA1.out (by rw [←HG.out];exact HM.out) (by have:=hHeld.1.size;omega) (by omega)).mono ?_
   rintro e' w3 ⟨p3,h3,rfl,t3,cE⟩
   go_wp2_with fail
   refine hK.out _ _ ?_ (fun hHeld=>?_)
   ·exact JO cE hHeld
   clear hK K
   (try go_frame)
   refine bQ 14 (by rfl) (by kernel_rfl) (fun K hK=>?_)
   go_simp
   refine (pL (I:=I) (B:=B) t3 ⟨d,HR.out.later hHeld.1⟩ (by have:=hHeld.1.size;omega) (by omega)).mono ?_
   rintro e' w4 ⟨p4,h4,rfl,t4,cT⟩
   have HT:=aA t4
   clear t4
   go_wp2_with fail
   refine hK.out _ _ ?_ (fun hHeld=>?_)
   ·exact JO cT hHeld
   clear hK K
   (try go_frame)
   iterate 1 (refine tk 15 (by rfl) (by kernel_rfl) (by exact fun _ _ _ h=>h) (.inl ⟨by rfl,fun w hS=>by (try dsimp only at hS);go_simp;(try with_reducible rfl)⟩) (by assumption) ?_;try go_frame)
   refine wpAnyH_done (by kernel_rfl) ?_ _
   go_wp2_with fail
   go_ret
   exact ⟨_,_,rfl,HT.out,hHeld.1⟩
  ·by_cases cb:e.1<a
   ·have HG:=aA (FP YS.out cb)
    rw [SH YS.out cb]
    go_enter Tryz.func379,Tryz.ntmps379
    go_upto_region 4 with fail
    refine fR (S:=(fun w'=>Below w.heap.size w w'∧w'.cell? ⟨b1,0,none⟩=some (.int .i64 e.1)∧w'.cell? ⟨b1,1,none⟩=some (.int .i64 e.2)∧w'.cell? ⟨b1,2,none⟩=some (.pointer pl)∧w'.cell? ⟨b1,3,none⟩=some (.pointer pr))) 16 rfl (by kernel_rfl) ?_ (fun hHeld=>?_)
    ·exact ⟨(Below.refl _ _).drew,c0,c1,c2,c3⟩
    iterate 13 (refine tk 15 (by rfl) (by kernel_rfl) (by exact fun _ _ _ h=>h) (.inl ⟨by rfl,fun w hS=>by (try dsimp only at hS);go_simp;(try with_reducible rfl)⟩) (by assumption) ?_;try go_frame)
    refine bQ 13 (by rfl) (by kernel_rfl) (fun K hK=>?_)
    go_simp
    refine (IH.out a _ _ _ _ (HR.out.later hHeld.1) QU.out (by rw [←HG.out];exact HM.out) (by have:=hHeld.1.size;omega) (by omega)).mono ?_
    rintro e' w3 ⟨p3,h3,rfl,t3,cE⟩
    go_wp2_with fail
    refine hK.out _ _ ?_ (fun hHeld=>?_)
    ·exact JO cE hHeld
    clear hK K
    (try go_frame)
    refine bQ 14 (by rfl) (by kernel_rfl) (fun K hK=>?_)
    go_simp
    refine (pL (I:=I) (B:=B) ⟨d,HL.out.later hHeld.1⟩ t3 (by have:=hHeld.1.size;omega) (by omega)).mono ?_
    rintro e' w4 ⟨p4,h4,rfl,t4,cT⟩
    have HT:=aA t4
    clear t4
    go_wp2_with fail
    refine hK.out _ _ ?_ (fun hHeld=>?_)
    ·exact JO cT hHeld
    clear hK K
    (try go_frame)
    iterate 1 (refine tk 15 (by rfl) (by kernel_rfl) (by exact fun _ _ _ h=>h) (.inl ⟨by rfl,fun w hS=>by (try dsimp only at hS);go_simp;(try with_reducible rfl)⟩) (by assumption) ?_;try go_frame)
    refine wpAnyH_done (by kernel_rfl) ?_ _
    go_wp2_with fail
    go_ret
    exact ⟨_,_,rfl,HT.out,hHeld.1⟩
   ·have ce:e.1=a:=by omega
    rw [QJ YS.out ce]
    clear ce
    rcases Tr.cases ⟨d,HL.out⟩ with ⟨rfl,rfl,-⟩|⟨b2,-,-,-,-,-,-,-,rfl,-⟩
    ·have HP:=aA (show zH I B w ([]++sr) (.returned (.pointer pr)) w from ⟨_,_,rfl,⟨d,HR.out⟩,Below.refl _ _⟩)
     go_enter Tryz.func379,Tryz.ntmps379
     go_wp2
     go_ret
     exact HP.out
    ·rcases Tr.cases ⟨d,HR.out⟩ with ⟨rfl,rfl,-⟩|⟨b3,-,-,f,fl,fr,-,-,rfl,-,-,-,-,hsr,-⟩
     ·have HP:=aA (show zH I B w sl (.returned (.pointer (some ⟨b2,0,none⟩))) w from ⟨_,_,rfl,⟨d,HL.out⟩,Below.refl _ _⟩)
      rw [List.append_nil]
      go_enter Tryz.func379,Tryz.ntmps379
      go_wp2
      go_ret
      exact HP.out
     ·obtain ⟨x,sr',rfl⟩:∃ x sr',sr=x::sr':=by
       cases sr with
       |nil=>simp at hsr
       |cons x sr'=>exact ⟨x,sr',rfl⟩
      have HX:=aA (QI (l:=[]) (e:=x) QU.out rfl)
      have HDF:=aA (SY QU.out)
      clear hsr ln1 ln2 YS HM
      go_enter Tryz.func379,Tryz.ntmps379
      go_wp2_with fail
      refine (aAv ⟨d,HR.out⟩).mono ?_
      rintro e' w2 ⟨rfl,aZ⟩
      have QX:=aA aZ
      clear aZ
      go_upto_region 10 with fail
      generalize hW:World.alloc w2 _=W
      have cE:Below w.heap.size w W:=by rw [←hW];exact Below.next QX.out (aB _ _) QX.out.size
      have r5:Row W w2.heap.size 373 [.int .i64 x.1,.int .i64 x.2]:=by rw [←hW];exact Row.new' rfl
      have d0:=r5.cell_of (i:=0) rfl
      have d1:=r5.cell_of (i:=1) rfl
      replace c0:=cell_later cE c0
      replace c1:=cell_later cE c1
      replace c2:=cell_later cE c2
      replace c3:=cell_later cE c3
      have tH:=aA cE
      have hzW:=cE.size
      replace HL:=aA (HL.out.later cE)
      replace HR:=aA (HR.out.later cE)
      simp only [List.length_cons] at hzl
      clear hW cE r5 QX
      refine fR (S:=(fun w'=>Below W.heap.size W w'∧w'.cell? ⟨w2.heap.size,0,none⟩=some (.int .i64 x.1)∧w'.cell? ⟨w2.heap.size,1,none⟩=some (.int .i64 x.2)∧w'.cell? ⟨b1,0,none⟩=some (.int .i64 e.1)∧w'.cell? ⟨b1,1,none⟩=some (.int .i64 e.2)∧w'.cell? ⟨b1,2,none⟩=some (.pointer (some ⟨b2,0,none⟩))∧w'.cell? ⟨b1,3,none⟩=some (.pointer (some ⟨b3,0,none⟩)))) 14 rfl (by kernel_rfl) ?_ (fun hHeld=>?_)
      ·exact ⟨(Below.refl _ _).drew,d0,d1,c0,c1,c2,c3⟩
      iterate 11 (refine tk 13 (by rfl) (by kernel_rfl) (by exact fun _ _ _ h=>h) (.inl ⟨by rfl,fun w hS=>by (try dsimp only at hS);go_simp;(try with_reducible rfl)⟩) (by assumption) ?_;try go_frame)
      refine bQ 11 (by rfl) (by kernel_rfl) (fun K hK=>?_)
      go_simp
      refine (IH.out x.1 _ _ _ _ (HR.out.later hHeld.1) QU.out (by have:=HX.out;rw [List.nil_append] at this;rw [this];rfl) (by have:=hHeld.1.size;omega) (by simp only [List.length_cons];omega)).mono ?_
      rintro e' w4 ⟨p4,h4,rfl,t4,cT⟩
      rw [HDF.out] at t4
      go_wp2_with fail
      refine hK.out _ _ ?_ (fun hHeld=>?_)
      ·exact wF cT hHeld
      clear hK K
      (try go_frame)
      refine bQ 12 (by rfl) (by kernel_rfl) (fun K hK=>?_)
      go_simp
      refine (pL (I:=I) (B:=B) ⟨d,HL.out.later hHeld.1⟩ t4 (by have:=hHeld.1.size;omega) (by omega)).mono ?_
      rintro e' w5 ⟨p5,h5,rfl,t5,yF⟩
      have HT:=aA t5
      clear t5
      go_wp2_with fail
      refine hK.out _ _ ?_ (fun hHeld=>?_)
      ·exact wF yF hHeld
      clear hK K
      (try go_frame)
      iterate 1 (refine tk 13 (by rfl) (by kernel_rfl) (by exact fun _ _ _ h=>h) (.inl ⟨by rfl,fun w hS=>by (try dsimp only at hS);go_simp;(try with_reducible rfl)⟩) (by assumption) ?_;try go_frame)
      refine wpAnyH_done (by kernel_rfl) ?_ _
      go_wp2_with fail
      go_ret
      exact ⟨_,_,rfl,HT.out,Below.next tH.out hHeld.1 tH.out.size⟩
end
theorem nF {w w':World} {b o:Nat} {v:Value} (h:w.cell? ⟨b,o,none⟩=some v) (e:w'.heap[b]?=w.heap[b]?):w'.cell? ⟨b,o,none⟩=some v:=by rw [World.cell?_of_block (w:=w) e];exact h
theorem Fr.LV {w w':World} {row:Option Nat} (h:w.grownBy w' row):Fr (fun k=>row=some k) w w':=⟨h.os,h.tape,h.output,h.size,fun k hk hn=>h.block k hk fun e=>hn e.symm⟩
theorem XO {own:Nat→Prop} {row:Option Nat} {w0 w w':World} {b1:Nat} {v1 v2 v3 v4:Value} (hg:w.grownBy w' row) (h:Fr own w0 w∧w.cell? ⟨b1,0,none⟩=some v1∧w.cell? ⟨b1,1,none⟩=some v2∧w.cell? ⟨b1,2,none⟩=some v3∧w.cell? ⟨b1,3,none⟩=some v4) (h1:b1<w.heap.size) (ho:∀ k,row=some k→own k∨w0.heap.size≤k) (hn:row≠some b1) :
  Fr own w0 w'∧w'.cell? ⟨b1,0,none⟩=some v1∧w'.cell? ⟨b1,1,none⟩=some v2∧w'.cell? ⟨b1,2,none⟩=some v3∧w'.cell? ⟨b1,3,none⟩=some v4:=by
 have e:=(Fr.LV hg).block b1 h1 hn
 exact ⟨h.1.grow (Fr.LV hg) ho,nF h.2.1 e,nF h.2.2.1 e,nF h.2.2.2.1 e,nF h.2.2.2.2 e⟩
theorem JQ {own:Nat→Prop} {w0 w w':World} {b1:Nat} {v1 v2 v3 v4:Value} (hb:Fr own w w') (h1:b1<w.heap.size) (hn:¬own b1) (hf:Fr own w0 w') (h:w.cell? ⟨b1,0,none⟩=some v1∧w.cell? ⟨b1,1,none⟩=some v2∧w.cell? ⟨b1,2,none⟩=some v3∧w.cell? ⟨b1,3,none⟩=some v4) :
  Fr own w0 w'∧w'.cell? ⟨b1,0,none⟩=some v1∧w'.cell? ⟨b1,1,none⟩=some v2∧w'.cell? ⟨b1,2,none⟩=some v3∧w'.cell? ⟨b1,3,none⟩=some v4:=by
 have e:=hb.block b1 h1 hn
 exact ⟨hf,nF h.1 e,nF h.2.1 e,nF h.2.2.1 e,nF h.2.2.2 e⟩
structure Grew (w:World) (v:Value) (v':Value) (l:List Int) (w':World):Prop where
 own:w'.ownsRow 0 3 1 v' l.length (ints l)
 at':∀ k,v'.ownBlock=some k→v.ownBlock=some k∨w.heap.size≤k
 fr:Fr (fun k=>v.ownBlock=some k) w w'
section
variable {I:Nat→Prop} {N:Nat}
theorem FU (hI:∀ k,I k→k<N):∀ (d:Nat) (w:World) (p:Option Addr) (s:nU) (h:Nat) (v:Value) (l:List Int),jB I w d p s h→N≤w.heap.size→l.length+2*s.length≤10000000000000→w.ownsRow 0 3 1 v l.length (ints l)→(∀ k,v.ownBlock=some k→¬I k) →
  Calls Tryz.prog 381 #[.pointer p,v] w fun e w'=>∃ v',e = .returned v'∧Grew w v v' (l++flat s) w'
 |0,w,p,s,h,v,l,q,hN,hz,ho,hv=>by
  obtain ⟨rfl,rfl,-⟩:=q
  have HP:=aA (show ∃ v',Ending.returned v = .returned v'∧Grew w v v' (l++flat []) w from ⟨v,rfl,by simpa [flat] using ho,fun k e=>.inl e,Fr.refl _ _⟩)
  go_enter Tryz.func381,Tryz.ntmps381
  go_wp2
  go_ret
  exact HP.out
 |d+1,w,p,s,h,v,l,q,hN,hz,ho,hv=>by
  have IH:=aA (FU hI d)
  rcases q with ⟨rfl,rfl,-⟩|⟨b1,pl,pr,e,sl,sr,hl,hr,rfl,hIb,pV,tl,tr,rfl,-⟩
  ·have HP:=aA (show ∃ v',Ending.returned v = .returned v'∧Grew w v v' (l++flat []) w from ⟨v,rfl,by simpa [flat] using ho,fun k e=>.inl e,Fr.refl _ _⟩)
   go_enter Tryz.func381,Tryz.ntmps381
   go_wp2
   go_ret
   exact HP.out
  ·obtain ⟨ti,EC,zX⟩:=Option.map_eq_some_iff.1 kF
   simp only [Prod.mk.injEq] at zX
   obtain ⟨tM,tN,tP⟩:=zX
   have zY:=aA EC
   have XE:=aA tM
   have yG:=aA tN
   have tD:=aA tP
   have hzl:l.length+2*sl.length+2*sr.length+2≤10000000000000:=by simp only [List.length_append,List.length_cons] at hz;omega
   have kS:=hI b1 hIb
   have hnb:v.ownBlock≠some b1:=fun c=>hv b1 c hIb
   have BP:∀ k,v.ownBlock=some k→k<w.heap.size:=fun k e=>(ho.lt k e).2
   unfold qH at pV
   have c0:=pV.cell_of (i:=0) rfl
   have c1:=pV.cell_of (i:=1) rfl
   have c2:=pV.cell_of (i:=2) rfl
   have c3:=pV.cell_of (i:=3) rfl
   have HL:=aA tl
   have HR:=aA tr
   have HO:=aA ho
   have HLn:=aA (show (l++flat sl).length=l.length+2*sl.length by rw [List.length_append,WL])
   have HFl:=aA (show l++flat (sl++e::sr)=(l++flat sl++[e.1,e.2])++flat sr by rw [LC,FO];simp)
   rw [HFl.out]
   clear pV tl tr EC tM tN tP hz ho hIb
   go_enter Tryz.func381,Tryz.ntmps381
   go_upto_region 3 with fail
   refine fR (S:=(fun w'=>Fr (fun k=>v.ownBlock=some k) w w'∧w'.cell? ⟨b1,0,none⟩=some (.int .i64 e.1)∧w'.cell? ⟨b1,1,none⟩=some (.int .i64 e.2)∧w'.cell? ⟨b1,2,none⟩=some (.pointer pl)∧w'.cell? ⟨b1,3,none⟩=some (.pointer pr))) 19 rfl (by kernel_rfl) ?_ (fun hHeld=>?_)
   ·exact ⟨(Fr.refl _ _).drew,c0,c1,c2,c3⟩
   iterate 5 (refine tk 18 (by rfl) (by kernel_rfl) (by exact fun _ _ _ h=>h) (.inl ⟨by rfl,fun w hS=>by (try dsimp only at hS);go_simp;(try with_reducible rfl)⟩) (by assumption) ?_;try go_frame)
   iterate 10 (refine tk 19 (by rfl) (by kernel_rfl) (by exact fun _ _ _ h=>h) (.inl ⟨by rfl,fun w hS=>by (try dsimp only at hS);go_simp;(try with_reducible rfl)⟩) (by assumption) ?_;try go_frame)
   refine wpAnyH_ready (rs:=[5,16]) (by kernel_rfl) (by simp) (rc (by rfl) (fun K hK=>?_) (rc (by rfl) (fun K hK=>?_) AllReadyH.nil))
   ·go_simp
    refine (IH.out _ _ _ _ _ l (HL.out.stay fun k hk hk'=>⟨hk,hHeld.1.block k hk' (fun c=>hv k c hk)⟩) (by have:=hHeld.1.size;omega) (by omega) (by first|exact HO.out|exact HO.out.alloc _) hv).mono ?_
    rintro e' w3 ⟨v3,rfl,OX⟩
    have WV:=aA OX.own
    have HA3:=aA (show ∀ k,v3.ownBlock=some k→v.ownBlock=some k∨w.heap.size≤k from fun k e=>(OX.at' k e).imp id fun q=>by first|exact q|(simp at q;omega))
    have hs3:w.heap.size≤w3.heap.size:=Nat.le_trans hHeld.1.size OX.fr.size
    (try have HBS:=aA (show Row w3 w.heap.size 3 [.int .i64 e.1,.int .i64 e.2] from (Row.new' (by simp)).of_block (OX.fr.block _ (by simp) (fun c=>by have:=BP _ c;omega))))
    go_wp2_with fail
    refine hK.out _ _ ?_ (fun hHeld=>?_)
    ·exact JQ OX.fr (by have:=hHeld.1.size;omega) hnb (hHeld.1.grow OX.fr fun k hk=>.inl hk) hHeld.2
    clear hK K
    (try go_frame)
    refine bQ 16 (by rfl) (by kernel_rfl) (fun K hK=>?_)
    go_simp
    refine hK.out _ _ ?_ (fun hHeld=>?_)
    ·exact JQ (Fr.eW (aB _ _)) (by have:=hHeld.1.size;omega) hnb (hHeld.1.grow (own':=fun k=>v.ownBlock=some k) (Fr.eW (aB _ _)) fun k hk=>.inl hk) hHeld.2
    clear hK K
    (try go_frame)
    refine bQ 17 (by rfl) (by kernel_rfl) (fun K hK=>?_)
    have hln:=HLn.out
    first
     |refine step_append_lies _ rfl (.tmp 13) (.tmp 24) 22 rfl 0 3 ti (.int .i64 0) 1 8 Tryz.underlying22 zY.out XE.out yG.out tD.out rfl (by decide) v3 (l++flat sl).length (ints (l++flat sl)) rfl (WV.out.alloc _) ⟨w3.heap.size,0,none⟩ 2 2 [.int .i64 e.1,.int .i64 e.2] rfl rfl (World.news_of_block (Row.new' (by simp))) (by simp [Value.oneCell']) (by decide) (by unfold maxLen;omega) (by omega) (Nat.zero_le _) _ rfl ?_
     |refine step_append_lies _ rfl (.tmp 13) (.tmp 24) 22 rfl 0 3 ti (.int .i64 0) 1 8 Tryz.underlying22 zY.out XE.out yG.out tD.out rfl (by decide) v3 (l++flat sl).length (ints (l++flat sl)) rfl WV.out ⟨w.heap.size,0,none⟩ 2 2 [.int .i64 e.1,.int .i64 e.2] rfl rfl (World.news_of_block HBS.out) (by simp [Value.oneCell']) (by decide) (by unfold maxLen;omega) (by omega) (Nat.zero_le _) _ rfl ?_
    clear hln
    intro g gc w4 hown mR hat tF
    have QS:=aA hown
    have HG4:=aA mR
    have JV:=aA hat
    clear hown mR hat tF
    refine hK.out _ _ ?_ (fun hHeld=>?_)
    ·exact XO HG4.out hHeld (by have:=hHeld.1.size;omega) (fun k e=>HA3.out k e) (fun c=>(HA3.out _ c).elim hnb (by omega))
    clear hK K
    (try go_frame)
    iterate 1 (refine tk 18 (by rfl) (by kernel_rfl) (by exact fun _ _ _ h=>h) (.inl ⟨by rfl,fun w hS=>by (try dsimp only at hS);go_simp;(try with_reducible rfl)⟩) (by assumption) ?_;try go_frame)
    refine wpAnyH_done (by kernel_rfl) ?_ _
    have hgg:v.ownBlock=some g∨w.heap.size≤g:=by
     rcases JV.out with q|q
     ·exact HA3.out g q
     ·exact .inr (by rw [q];first|omega|(simp;omega))
    have ho4:w4.ownsRow 0 3 1 (.slice (some ⟨g,0,none⟩) (l.length+(flat sl).length+2) gc) (l++flat sl++[e.1,e.2]).length (ints (l++flat sl++[e.1,e.2])):=by have:=QS.out;simpa [ints,Nat.add_assoc] using this
    have hgI:∀ k,(Value.slice (some ⟨g,0,none⟩) (l.length+(flat sl).length+2) gc).ownBlock=some k→v.ownBlock=some k∨w.heap.size≤k:=fun k q=>by
     have:g=k:=by simpa [Value.ownBlock] using q
     subst this
     exact hgg
    have c4:=hHeld.2.2.2.2
    have SJ:=aA (IH.out w4 pr sr hr _ (l++flat sl++[e.1,e.2]) (HR.out.stay fun k hk hk'=>⟨hk,hHeld.1.block k hk' (fun c=>hv k c hk)⟩) (by have:=hHeld.1.size;omega) (by have:=HLn.out;simp only [List.length_append,List.length_cons,List.length_nil] at this ⊢;omega) ho4 (fun k q hk=>(hgI k q).elim (fun c=>hv k c hk) (fun c=>by have:=hI k hk;omega)))
    have HHF:=aA hHeld.1
    have HGI:=aA hgI
    clear hHeld ho4 hgg hgI QS HG4 JV HA3 WV OX
    go_wp2_with fail
    refine SJ.out.mono ?_
    rintro e' w5 ⟨v5,rfl,hG5⟩
    have HG5:=aA hG5
    clear hG5 SJ
    go_wp2_with fail
    go_ret
    exact ⟨v5,rfl,HG5.out.own,fun k q=>(HG5.out.at' k q).elim (HGI.out k) (fun c=>.inr (Nat.le_trans HHF.out.size c)),HHF.out.grow HG5.out.fr (fun k q=>HGI.out k q)⟩
   ·go_simp
    refine hK.out _ _ ?_ (fun hHeld=>?_)
    ·exact JQ (Fr.eW (aB _ _)) (by have:=hHeld.1.size;omega) hnb (hHeld.1.grow (own':=fun k=>v.ownBlock=some k) (Fr.eW (aB _ _)) fun k hk=>.inl hk) hHeld.2
    clear hK K
    (try go_frame)
    refine bQ 5 (by rfl) (by kernel_rfl) (fun K hK=>?_)
    go_simp
    refine (IH.out _ _ _ _ _ l (HL.out.stay fun k hk hk'=>⟨hk,hHeld.1.block k hk' (fun c=>hv k c hk)⟩) (by have:=hHeld.1.size;omega) (by omega) (by first|exact HO.out|exact HO.out.alloc _) hv).mono ?_
    rintro e' w3 ⟨v3,rfl,OX⟩
    have WV:=aA OX.own
    have HA3:=aA (show ∀ k,v3.ownBlock=some k→v.ownBlock=some k∨w.heap.size≤k from fun k e=>(OX.at' k e).imp id fun q=>by first|exact q|(simp at q;omega))
    have hs3:w.heap.size≤w3.heap.size:=Nat.le_trans hHeld.1.size OX.fr.size
    (try have HBS:=aA (show Row w3 w.heap.size 3 [.int .i64 e.1,.int .i64 e.2] from (Row.new' (by simp)).of_block (OX.fr.block _ (by simp) (fun c=>by have:=BP _ c;omega))))
    go_wp2_with fail
    refine hK.out _ _ ?_ (fun hHeld=>?_)
    ·exact JQ OX.fr (by have:=hHeld.1.size;omega) hnb (hHeld.1.grow OX.fr fun k hk=>.inl hk) hHeld.2
    clear hK K
    (try go_frame)
    refine bQ 17 (by rfl) (by kernel_rfl) (fun K hK=>?_)
    have hln:=HLn.out
    first
     |refine step_append_lies _ rfl (.tmp 13) (.tmp 24) 22 rfl 0 3 ti (.int .i64 0) 1 8 Tryz.underlying22 zY.out XE.out yG.out tD.out rfl (by decide) v3 (l++flat sl).length (ints (l++flat sl)) rfl (WV.out.alloc _) ⟨w3.heap.size,0,none⟩ 2 2 [.int .i64 e.1,.int .i64 e.2] rfl rfl (World.news_of_block (Row.new' (by simp))) (by simp [Value.oneCell']) (by decide) (by unfold maxLen;omega) (by omega) (Nat.zero_le _) _ rfl ?_
     |refine step_append_lies _ rfl (.tmp 13) (.tmp 24) 22 rfl 0 3 ti (.int .i64 0) 1 8 Tryz.underlying22 zY.out XE.out yG.out tD.out rfl (by decide) v3 (l++flat sl).length (ints (l++flat sl)) rfl WV.out ⟨w.heap.size,0,none⟩ 2 2 [.int .i64 e.1,.int .i64 e.2] rfl rfl (World.news_of_block HBS.out) (by simp [Value.oneCell']) (by decide) (by unfold maxLen;omega) (by omega) (Nat.zero_le _) _ rfl ?_
    clear hln
    intro g gc w4 hown mR hat tF
    have QS:=aA hown
    have HG4:=aA mR
    have JV:=aA hat
    clear hown mR hat tF
    refine hK.out _ _ ?_ (fun hHeld=>?_)
    ·exact XO HG4.out hHeld (by have:=hHeld.1.size;omega) (fun k e=>HA3.out k e) (fun c=>(HA3.out _ c).elim hnb (by omega))
    clear hK K
    (try go_frame)
    iterate 1 (refine tk 18 (by rfl) (by kernel_rfl) (by exact fun _ _ _ h=>h) (.inl ⟨by rfl,fun w hS=>by (try dsimp only at hS);go_simp;(try with_reducible rfl)⟩) (by assumption) ?_;try go_frame)
    refine wpAnyH_done (by kernel_rfl) ?_ _
    have hgg:v.ownBlock=some g∨w.heap.size≤g:=by
     rcases JV.out with q|q
     ·exact HA3.out g q
     ·exact .inr (by rw [q];first|omega|(simp;omega))
    have ho4:w4.ownsRow 0 3 1 (.slice (some ⟨g,0,none⟩) (l.length+(flat sl).length+2) gc) (l++flat sl++[e.1,e.2]).length (ints (l++flat sl++[e.1,e.2])):=by have:=QS.out;simpa [ints,Nat.add_assoc] using this
    have hgI:∀ k,(Value.slice (some ⟨g,0,none⟩) (l.length+(flat sl).length+2) gc).ownBlock=some k→v.ownBlock=some k∨w.heap.size≤k:=fun k q=>by
     have:g=k:=by simpa [Value.ownBlock] using q
     subst this
     exact hgg
    have c4:=hHeld.2.2.2.2
    have SJ:=aA (IH.out w4 pr sr hr _ (l++flat sl++[e.1,e.2]) (HR.out.stay fun k hk hk'=>⟨hk,hHeld.1.block k hk' (fun c=>hv k c hk)⟩) (by have:=hHeld.1.size;omega) (by have:=HLn.out;simp only [List.length_append,List.length_cons,List.length_nil] at this ⊢;omega) ho4 (fun k q hk=>(hgI k q).elim (fun c=>hv k c hk) (fun c=>by have:=hI k hk;omega)))
    have HHF:=aA hHeld.1
    have HGI:=aA hgI
    clear hHeld ho4 hgg hgI QS HG4 JV HA3 WV OX
    go_wp2_with fail
    refine SJ.out.mono ?_
    rintro e' w5 ⟨v5,rfl,hG5⟩
    have HG5:=aA hG5
    clear hG5 SJ
    go_wp2_with fail
    go_ret
    exact ⟨v5,rfl,HG5.out.own,fun k q=>(HG5.out.at' k q).elim (HGI.out k) (fun c=>.inr (Nat.le_trans HHF.out.size c)),HHF.out.grow HG5.out.fr (fun k q=>HGI.out k q)⟩
end
end Go.Proofs.YtefjhnhdagolhaaGreat
