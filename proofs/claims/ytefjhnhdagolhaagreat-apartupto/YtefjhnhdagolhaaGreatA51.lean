import Derived.Test.YtefjhnhdagolhaaGreatA50
import Derived.Test.YtefjhnhdagolhaaGreatA05
import Derived.Test.YtefjhnhdagolhaaGreatA04
import Derived.Deep.AppendLies
import Derived.Test.YtefjhnhdagolhaaGreatA16
import Derived.Test.YtefjhnhdagolhaaGreatA42
set_option maxHeartbeats 4000000
set_option maxRecDepth 20000
namespace Go.Proofs.YtefjhnhdagolhaaGreat
open Tryz
open Go.RowKit
attribute [local go_sem ↓] Go.wp_at_zero Go.wp_at_succ
theorem UI {w0 w w':World} {a1 a2 a3 a4:Addr} {v1 v2 v3 v4:Value} (hb:Below w.heap.size w w')
  (h:Below w0.heap.size w0 w∧w.cell? a1=some v1∧w.cell? a2=some v2∧w.cell? a3=some v3∧w.cell? a4=some v4) :
  Below w0.heap.size w0 w'∧w'.cell? a1=some v1∧w'.cell? a2=some v2∧w'.cell? a3=some v3∧w'.cell? a4=some v4 :=
 let ⟨h0,h1,h2,h3,h4⟩:=h
 ⟨aS h0 hb h0.size,aI hb h1,aI hb h2,aI hb h3,aI hb h4⟩
theorem uh {e:Int×Int} {s:gX} (h:vJ (e::s)):eI (e::s) e.1=s:=nh (l:=[]) (e:=e) h rfl
theorem TS (s:gX) (a:Int):(eI s a).length≤s.length:=List.length_filter_le _ _
section
variable {I:Nat→Prop} {B:Nat}
theorem PR:∀ (d:Nat) (a:Int) (w:World) (p:Option Addr) (s:gX) (h:Nat),lH (JB I B w) w d p s h→vJ s→(nT s a).isSome→B≤w.heap.size→s.length≤500000000000 →
  Calls prog 379 #[.pointer p,.int .i64 a] w (KA I B w (eI s a))
 |0,a,w,p,s,h,q,hs,hm,hB,hz=>by
  obtain ⟨rfl,rfl,-⟩:=q;exact absurd hm (by simp [nT])
 |d+1,a,w,p,s,h,q,hs,hm,hB,hz=>by
  have IH:=aA (PR d)
  rcases q with ⟨rfl,rfl,-⟩|⟨b1,pl,pr,e,sl,sr,hl,hr,rfl,-,nS,tl,tr,rfl,-⟩
  ·exact absurd hm (by simp [nT])
  have hzl:sl.length+sr.length+1≤500000000000:=by simp only [eD,eM] at hz;omega
  obtain ⟨as1,as2,-,-⟩:=mR.mp hs;have ln1:=TS sl a;have ln2:=TS sr a;have HAs:=aA hs;have WJ:=aA as1;have JD:=aA as2;have HM:=aA hm;clear hs as1 as2 hz hm;unfold wY at nS;have c0:=nS.cell_of (i:=0) rfl;have c1:=nS.cell_of (i:=1) rfl;have c2:=nS.cell_of (i:=2) rfl;have c3:=nS.cell_of (i:=3) rfl;have HL:=aA tl;have HR:=aA tr;clear nS tl tr
  by_cases ca:a<e.1
  ·have HG:=aA (XV HAs.out ca)
   rw [aAo HAs.out ca];go_enter func379,ntmps379;go_upto_region 2 with fail;refine fH (S:=(fun w'=>Below w.heap.size w w'∧w'.cell? ⟨b1,0,none⟩=some (.int .i64 e.1)∧w'.cell? ⟨b1,1,none⟩=some (.int .i64 e.2)∧w'.cell? ⟨b1,2,none⟩=some (.pointer pl)∧w'.cell? ⟨b1,3,none⟩=some (.pointer pr))) 16 rfl (by kernel_rfl) ?_ (fun hHeld=>?_)
   ·exact ⟨(aT _ _).drew,c0,c1,c2,c3⟩
   iterate 5 (refine tk 15 (by rfl) (by kernel_rfl) (by exact fun _ _ _ h=>h) (.inl ⟨by rfl,fun w hS=>by (try dsimp only at hS);go_simp;(try with_reducible rfl)⟩) (by assumption) ?_;try go_frame)
   iterate 8 (refine tk 16 (by rfl) (by kernel_rfl) (by exact fun _ _ _ h=>h) (.inl ⟨by rfl,fun w hS=>by (try dsimp only at hS);go_simp;(try with_reducible rfl)⟩) (by assumption) ?_;try go_frame)
   refine cT 5 (by rfl) (by kernel_rfl) (fun K hK=>?_);go_simp;refine (IH.out a _ _ _ _ (HL.out.later hHeld.1) WJ.out (by rw [←HG.out];exact HM.out) (by have:=hHeld.1.size;omega) (by omega)).mono ?_;rintro e' w3 ⟨p3,h3,rfl,t3,cP⟩;go_wp2_with fail;refine hK.out _ _ ?_ (fun hHeld=>?_)
   ·exact UI cP hHeld
   clear hK K
   (try go_frame)
   refine cT 14 (by rfl) (by kernel_rfl) (fun K hK=>?_);go_simp;refine (uS (I:=I) (B:=B) t3 ⟨d,HR.out.later hHeld.1⟩ (by have:=hHeld.1.size;omega) (by omega)).mono ?_;rintro e' w4 ⟨p4,h4,rfl,t4,dQ⟩;have HT:=aA t4;clear t4;go_wp2_with fail;refine hK.out _ _ ?_ (fun hHeld=>?_)
   ·exact UI dQ hHeld
   clear hK K
   (try go_frame)
   iterate 1 (refine tk 15 (by rfl) (by kernel_rfl) (by exact fun _ _ _ h=>h) (.inl ⟨by rfl,fun w hS=>by (try dsimp only at hS);go_simp;(try with_reducible rfl)⟩) (by assumption) ?_;try go_frame)
   refine cC (by kernel_rfl) ?_ _;go_wp2_with fail;go_ret;exact ⟨_,_,rfl,HT.out,hHeld.1⟩
  ·by_cases cb:e.1<a
   ·have HG:=aA (RQ HAs.out cb)
    rw [uj HAs.out cb];go_enter func379,ntmps379;go_upto_region 4 with fail;refine fH (S:=(fun w'=>Below w.heap.size w w'∧w'.cell? ⟨b1,0,none⟩=some (.int .i64 e.1)∧w'.cell? ⟨b1,1,none⟩=some (.int .i64 e.2)∧w'.cell? ⟨b1,2,none⟩=some (.pointer pl)∧w'.cell? ⟨b1,3,none⟩=some (.pointer pr))) 16 rfl (by kernel_rfl) ?_ (fun hHeld=>?_)
    ·exact ⟨(aT _ _).drew,c0,c1,c2,c3⟩
    iterate 13 (refine tk 15 (by rfl) (by kernel_rfl) (by exact fun _ _ _ h=>h) (.inl ⟨by rfl,fun w hS=>by (try dsimp only at hS);go_simp;(try with_reducible rfl)⟩) (by assumption) ?_;try go_frame)
    refine cT 13 (by rfl) (by kernel_rfl) (fun K hK=>?_);go_simp;refine (IH.out a _ _ _ _ (HR.out.later hHeld.1) JD.out (by rw [←HG.out];exact HM.out) (by have:=hHeld.1.size;omega) (by omega)).mono ?_;rintro e' w3 ⟨p3,h3,rfl,t3,cP⟩;go_wp2_with fail;refine hK.out _ _ ?_ (fun hHeld=>?_)
    ·exact UI cP hHeld
    clear hK K
    (try go_frame)
    refine cT 14 (by rfl) (by kernel_rfl) (fun K hK=>?_);go_simp;refine (uS (I:=I) (B:=B) ⟨d,HL.out.later hHeld.1⟩ t3 (by have:=hHeld.1.size;omega) (by omega)).mono ?_;rintro e' w4 ⟨p4,h4,rfl,t4,dQ⟩;have HT:=aA t4;clear t4;go_wp2_with fail;refine hK.out _ _ ?_ (fun hHeld=>?_)
    ·exact UI dQ hHeld
    clear hK K
    (try go_frame)
    iterate 1 (refine tk 15 (by rfl) (by kernel_rfl) (by exact fun _ _ _ h=>h) (.inl ⟨by rfl,fun w hS=>by (try dsimp only at hS);go_simp;(try with_reducible rfl)⟩) (by assumption) ?_;try go_frame)
    refine cC (by kernel_rfl) ?_ _;go_wp2_with fail;go_ret;exact ⟨_,_,rfl,HT.out,hHeld.1⟩
   ·have ce:e.1=a:=by omega
    rw [nh HAs.out ce];clear ce
    rcases Tr.cases ⟨d,HL.out⟩ with ⟨rfl,rfl,-⟩|⟨b2,-,-,-,-,-,-,-,rfl,-⟩
    ·have HP:=aA (show KA I B w ([]++sr) (.returned (.pointer pr)) w from ⟨_,_,rfl,⟨d,HR.out⟩,aT _ _⟩)
     go_enter func379,ntmps379;go_wp2;go_ret;exact HP.out
    ·rcases Tr.cases ⟨d,HR.out⟩ with ⟨rfl,rfl,-⟩|⟨b3,-,-,f,fl,fr,-,-,rfl,-,-,-,-,hsr,-⟩
     ·have HP:=aA (show KA I B w sl (.returned (.pointer (some ⟨b2,0,none⟩))) w from ⟨_,_,rfl,⟨d,HL.out⟩,aT _ _⟩)
      rw [List.append_nil];go_enter func379,ntmps379;go_wp2;go_ret;exact HP.out
     ·obtain ⟨x,sr',rfl⟩:∃ x sr',sr=x::sr':=by
       cases sr with
       |nil=>simp at hsr
       |cons x sr'=>exact ⟨x,sr',rfl⟩
      have HX:=aA (nv (l:=[]) (e:=x) JD.out rfl);have HDF:=aA (uh JD.out);clear hsr ln1 ln2 HAs HM;go_enter func379,ntmps379;go_wp2_with fail;refine (aC4 ⟨d,HR.out⟩).mono ?_;rintro e' w2 ⟨rfl,bI⟩;have pW:=aA bI;clear bI;go_upto_region 10 with fail;generalize hW:World.alloc w2 _=W;have cP:Below w.heap.size w W:=by rw [←hW];exact aS pW.out (aB _ _) pW.out.size
      have r5:Row W w2.heap.size 373 [.int .i64 x.1,.int .i64 x.2]:=by rw [←hW];exact aV rfl
      have d0:=r5.cell_of (i:=0) rfl;have d1:=r5.cell_of (i:=1) rfl;replace c0:=aI cP c0;replace c1:=aI cP c1;replace c2:=aI cP c2;replace c3:=aI cP c3;have oV:=aA cP;have hzW:=cP.size;replace HL:=aA (HL.out.later cP);replace HR:=aA (HR.out.later cP);simp only [eM] at hzl;clear hW cP r5 pW;refine fH (S:=(fun w'=>Below W.heap.size W w'∧w'.cell? ⟨w2.heap.size,0,none⟩=some (.int .i64 x.1)∧w'.cell? ⟨w2.heap.size,1,none⟩=some (.int .i64 x.2)∧w'.cell? ⟨b1,0,none⟩=some (.int .i64 e.1)∧w'.cell? ⟨b1,1,none⟩=some (.int .i64 e.2)∧w'.cell? ⟨b1,2,none⟩=some (.pointer (some ⟨b2,0,none⟩))∧w'.cell? ⟨b1,3,none⟩=some (.pointer (some ⟨b3,0,none⟩)))) 14 rfl (by kernel_rfl) ?_ (fun hHeld=>?_)
      ·exact ⟨(aT _ _).drew,d0,d1,c0,c1,c2,c3⟩
      iterate 11 (refine tk 13 (by rfl) (by kernel_rfl) (by exact fun _ _ _ h=>h) (.inl ⟨by rfl,fun w hS=>by (try dsimp only at hS);go_simp;(try with_reducible rfl)⟩) (by assumption) ?_;try go_frame)
      refine cT 11 (by rfl) (by kernel_rfl) (fun K hK=>?_);go_simp;refine (IH.out x.1 _ _ _ _ (HR.out.later hHeld.1) JD.out (by have:=HX.out;rw [List.nil_append] at this;rw [this];rfl) (by have:=hHeld.1.size;omega) (by simp only [eM];omega)).mono ?_;rintro e' w4 ⟨p4,h4,rfl,t4,dQ⟩;rw [HDF.out] at t4;go_wp2_with fail;refine hK.out _ _ ?_ (fun hHeld=>?_)
      ·exact EP dQ hHeld
      clear hK K
      (try go_frame)
      refine cT 12 (by rfl) (by kernel_rfl) (fun K hK=>?_);go_simp;refine (uS (I:=I) (B:=B) ⟨d,HL.out.later hHeld.1⟩ t4 (by have:=hHeld.1.size;omega) (by omega)).mono ?_;rintro e' w5 ⟨p5,h5,rfl,t5,xU⟩;have HT:=aA t5;clear t5;go_wp2_with fail;refine hK.out _ _ ?_ (fun hHeld=>?_)
      ·exact EP xU hHeld
      clear hK K
      (try go_frame)
      iterate 1 (refine tk 13 (by rfl) (by kernel_rfl) (by exact fun _ _ _ h=>h) (.inl ⟨by rfl,fun w hS=>by (try dsimp only at hS);go_simp;(try with_reducible rfl)⟩) (by assumption) ?_;try go_frame)
      refine cC (by kernel_rfl) ?_ _;go_wp2_with fail;go_ret;exact ⟨_,_,rfl,HT.out,aS oV.out hHeld.1 oV.out.size⟩
end
theorem rL {w w':World} {b o:Nat} {v:Value} (h:w.cell? ⟨b,o,none⟩=some v) (e:w'.heap[b]?=w.heap[b]?):w'.cell? ⟨b,o,none⟩=some v:=by rw [World.cell?_of_block (w:=w) e];exact h
theorem Fr.OP {w w':World} {row:Option Nat} (h:w.grownBy w' row):Fr (fun k=>row=some k) w w':=⟨h.os,h.tape,h.output,h.size,fun k hk hn=>h.block k hk fun e=>hn e.symm⟩
theorem aFi {own:Nat→Prop} {row:Option Nat} {w0 w w':World} {b1:Nat} {v1 v2 v3 v4:Value} (hg:w.grownBy w' row) (h:Fr own w0 w∧w.cell? ⟨b1,0,none⟩=some v1∧w.cell? ⟨b1,1,none⟩=some v2∧w.cell? ⟨b1,2,none⟩=some v3∧w.cell? ⟨b1,3,none⟩=some v4) (h1:b1<w.heap.size) (ho:∀ k,row=some k→own k∨w0.heap.size≤k) (hn:row≠some b1) :
  Fr own w0 w'∧w'.cell? ⟨b1,0,none⟩=some v1∧w'.cell? ⟨b1,1,none⟩=some v2∧w'.cell? ⟨b1,2,none⟩=some v3∧w'.cell? ⟨b1,3,none⟩=some v4:=by
 have e:=(Fr.OP hg).block b1 h1 hn;exact ⟨h.1.grow (Fr.OP hg) ho,rL h.2.1 e,rL h.2.2.1 e,rL h.2.2.2.1 e,rL h.2.2.2.2 e⟩
theorem aBi {own:Nat→Prop} {w0 w w':World} {b1:Nat} {v1 v2 v3 v4:Value} (hb:Fr own w w') (h1:b1<w.heap.size) (hn:¬own b1) (hf:Fr own w0 w') (h:w.cell? ⟨b1,0,none⟩=some v1∧w.cell? ⟨b1,1,none⟩=some v2∧w.cell? ⟨b1,2,none⟩=some v3∧w.cell? ⟨b1,3,none⟩=some v4) :
  Fr own w0 w'∧w'.cell? ⟨b1,0,none⟩=some v1∧w'.cell? ⟨b1,1,none⟩=some v2∧w'.cell? ⟨b1,2,none⟩=some v3∧w'.cell? ⟨b1,3,none⟩=some v4:=by
 have e:=hb.block b1 h1 hn;exact ⟨hf,rL h.1 e,rL h.2.1 e,rL h.2.2.1 e,rL h.2.2.2 e⟩
structure Grew (w:World) (v:Value) (v':Value) (l:List Int) (w':World):Prop where
 own:w'.ownsRow 0 3 1 v' l.length (ints l)
 at':∀ k,v'.ownBlock=some k→v.ownBlock=some k∨w.heap.size≤k
 fr:Fr (fun k=>v.ownBlock=some k) w w'
section
variable {I:Nat→Prop} {N:Nat}
theorem SE (hI:∀ k,I k→k<N):∀ (d:Nat) (w:World) (p:Option Addr) (s:gX) (h:Nat) (v:Value) (l:List Int),lH I w d p s h→N≤w.heap.size→l.length+2*s.length≤10000000000000→w.ownsRow 0 3 1 v l.length (ints l)→(∀ k,v.ownBlock=some k→¬I k) →
  Calls prog 381 #[.pointer p,v] w fun e w'=>∃ v',e = .returned v'∧Grew w v v' (l++flat s) w'
 |0,w,p,s,h,v,l,q,hN,hz,ho,hv=>by
  obtain ⟨rfl,rfl,-⟩:=q;have HP:=aA (show ∃ v',Ending.returned v = .returned v'∧Grew w v v' (l++flat []) w from ⟨v,rfl,by simpa [flat] using ho,fun k e=>.inl e,Fr.refl _ _⟩);go_enter func381,ntmps381;go_wp2;go_ret;exact HP.out
 |d+1,w,p,s,h,v,l,q,hN,hz,ho,hv=>by
  have IH:=aA (SE hI d)
  rcases q with ⟨rfl,rfl,-⟩|⟨b1,pl,pr,e,sl,sr,hl,hr,rfl,hIb,nS,tl,tr,rfl,-⟩
  ·have HP:=aA (show ∃ v',Ending.returned v = .returned v'∧Grew w v v' (l++flat []) w from ⟨v,rfl,by simpa [flat] using ho,fun k e=>.inl e,Fr.refl _ _⟩)
   go_enter func381,ntmps381;go_wp2;go_ret;exact HP.out
  ·obtain ⟨ti,vM,uM⟩:=eZ.1 eF
   simp only [fW] at uM;obtain ⟨jR,jS,jT⟩:=uM;have DH:=aA vM;have JG:=aA jR;have AH:=aA jS;have vN:=aA jT;have hzl:l.length+2*sl.length+2*sr.length+2≤10000000000000:=by simp only [eD,eM] at hz;omega
   have eN:=hI b1 hIb;have hnb:v.ownBlock≠some b1:=fun c=>hv b1 c hIb
   have sQ:∀ k,v.ownBlock=some k→k<w.heap.size:=fun k e=>(ho.lt k e).2
   unfold wY at nS;have c0:=nS.cell_of (i:=0) rfl;have c1:=nS.cell_of (i:=1) rfl;have c2:=nS.cell_of (i:=2) rfl;have c3:=nS.cell_of (i:=3) rfl;have HL:=aA tl;have HR:=aA tr;have HO:=aA ho;have HLn:=aA (show (l++flat sl).length=l.length+2*sl.length by rw [eD,uV]);have HFl:=aA (show l++flat (sl++e::sr)=(l++flat sl++[e.1,e.2])++flat sr by rw [wL,JR];simp);rw [HFl.out];clear nS tl tr vM jR jS jT hz ho hIb;go_enter func381,ntmps381;go_upto_region 3 with fail;refine fH (S:=(fun w'=>Fr (fun k=>v.ownBlock=some k) w w'∧w'.cell? ⟨b1,0,none⟩=some (.int .i64 e.1)∧w'.cell? ⟨b1,1,none⟩=some (.int .i64 e.2)∧w'.cell? ⟨b1,2,none⟩=some (.pointer pl)∧w'.cell? ⟨b1,3,none⟩=some (.pointer pr))) 19 rfl (by kernel_rfl) ?_ (fun hHeld=>?_)
   ·exact ⟨(Fr.refl _ _).drew,c0,c1,c2,c3⟩
   repeat' first
    |(
     (first|refine ZY [5,16,17] 18 (by rfl) (by decide +kernel) ?_|refine ZY [5,16,17] 19 (by rfl) (by decide +kernel) ?_)
     refine ⟨_,by exact fun _ _ _ h=>h,.inl ⟨by rfl,fun w hS=>by (try dsimp only at hS);go_simp;(try with_reducible rfl)⟩,by assumption,?_⟩
     (try go_frame)
     )
    |(
     (first|refine pF 16 (by rfl) (by decide +kernel) (fun K hK PY=>?_)|refine pF 17 (by rfl) (by decide +kernel) (fun K hK PY=>?_)|refine pF 5 (by rfl) (by decide +kernel) (fun K hK PY=>?_)|refine fC (rs:=[5,16]) (by decide +kernel) (by simp) (JF (by rfl) (fun K hK PY=>?_) (JF (by rfl) (fun K hK PY=>?_) AllReadyH.nil)))
     all_goals first
      |(
       have _:On 5:=PY;go_simp;refine (IH.out _ _ _ _ _ l (HL.out.stay fun k hk hk'=>⟨hk,hHeld.1.block k hk' (fun c=>hv k c hk)⟩) (by have:=hHeld.1.size;omega) (by omega) (by first|exact HO.out|exact HO.out.alloc _) hv).mono ?_;rintro e' w3 ⟨v3,rfl,hG3⟩;have HO3:=aA hG3.own;have HA3:=aA (show ∀ k,v3.ownBlock=some k→v.ownBlock=some k∨w.heap.size≤k from fun k e=>(hG3.at' k e).imp id fun q=>by first|exact q|(simp at q;omega));have hs3:w.heap.size≤w3.heap.size:=bK hHeld.1.size hG3.fr.size
       (try have HBS:=aA (show Row w3 w.heap.size 3 [.int .i64 e.1,.int .i64 e.2] from (aV (by simp)).of_block (hG3.fr.block _ (by simp) (fun c=>by have:=sQ _ c;omega))))
       go_wp2_with fail;refine hK.out _ _ ?_ (fun hHeld=>?_)
       ·exact aBi hG3.fr (by have:=hHeld.1.size;omega) hnb (hHeld.1.grow hG3.fr fun k hk=>.inl hk) hHeld.2
       clear hK K PY
       (try go_frame)
       )
      |(
       have _:On 16:=PY;go_simp;refine hK.out _ _ ?_ (fun hHeld=>?_)
       ·exact aBi (Fr.cA (aB _ _)) (by have:=hHeld.1.size;omega) hnb (hHeld.1.grow (own':=fun k=>v.ownBlock=some k) (Fr.cA (aB _ _)) fun k hk=>.inl hk) hHeld.2
       clear hK K PY
       (try go_frame)
       )
      |(
       have hln:=HLn.out
       first
        |refine yE _ rfl (.tmp 13) (.tmp 24) 22 rfl 0 3 ti (.int .i64 0) 1 8 underlying22 DH.out JG.out AH.out vN.out rfl (by decide) v3 (l++flat sl).length (ints (l++flat sl)) rfl (HO3.out.alloc _) ⟨w3.heap.size,0,none⟩ 2 2 [.int .i64 e.1,.int .i64 e.2] rfl rfl (jH (aV (by simp))) (by simp [Value.oneCell']) (by decide) (by unfold maxLen;omega) (by omega) (aW _) _ rfl ?_
        |refine yE _ rfl (.tmp 13) (.tmp 24) 22 rfl 0 3 ti (.int .i64 0) 1 8 underlying22 DH.out JG.out AH.out vN.out rfl (by decide) v3 (l++flat sl).length (ints (l++flat sl)) rfl HO3.out ⟨w.heap.size,0,none⟩ 2 2 [.int .i64 e.1,.int .i64 e.2] rfl rfl (jH HBS.out) (by simp [Value.oneCell']) (by decide) (by unfold maxLen;omega) (by omega) (aW _) _ rfl ?_
       clear hln;intro g gc w4 hown dP hat oQ;have NC:=aA hown;have HG4:=aA dP;have HT4:=aA hat;clear hown dP hat oQ;refine hK.out _ _ ?_ (fun hHeld=>?_)
       ·exact aFi HG4.out hHeld (by have:=hHeld.1.size;omega) (fun k e=>HA3.out k e) (fun c=>(HA3.out _ c).elim hnb (by omega))
       clear hK K PY
       (try go_frame)
       )
     )
    |(
     refine cC (by decide +kernel) ?_ _;have hgg:v.ownBlock=some g∨w.heap.size≤g:=by
      rcases HT4.out with q|q
      ·exact HA3.out g q
      ·exact .inr (by rw [q];first|omega|(simp;omega))
     have ho4:w4.ownsRow 0 3 1 (.slice (some ⟨g,0,none⟩) (l.length+(flat sl).length+2) gc) (l++flat sl++[e.1,e.2]).length (ints (l++flat sl++[e.1,e.2])):=by have:=NC.out;simpa [ints,Nat.add_assoc] using this
     have hgI:∀ k,(Value.slice (some ⟨g,0,none⟩) (l.length+(flat sl).length+2) gc).ownBlock=some k→v.ownBlock=some k∨w.heap.size≤k:=fun k q=>by
      have:g=k:=by simpa [Value.ownBlock] using q
      subst this;exact hgg
     have c4:=hHeld.2.2.2.2;have HCL:=aA (IH.out w4 pr sr hr _ (l++flat sl++[e.1,e.2]) (HR.out.stay fun k hk hk'=>⟨hk,hHeld.1.block k hk' (fun c=>hv k c hk)⟩) (by have:=hHeld.1.size;omega) (by have:=HLn.out;simp only [eD,eM,List.length_nil] at this ⊢;omega) ho4 (fun k q hk=>(hgI k q).elim (fun c=>hv k c hk) (fun c=>by have:=hI k hk;omega)));have HHF:=aA hHeld.1;have HGI:=aA hgI;clear hHeld ho4 hgg hgI NC HG4 HT4 HA3 HO3 hG3;go_wp2_with fail;refine HCL.out.mono ?_;rintro e' w5 ⟨v5,rfl,hG5⟩;have HG5:=aA hG5;clear hG5 HCL;go_wp2_with fail;go_ret;exact ⟨v5,rfl,HG5.out.own,fun k q=>(HG5.out.at' k q).elim (HGI.out k) (fun c=>.inr (bK HHF.out.size c)),HHF.out.grow HG5.out.fr (fun k q=>HGI.out k q)⟩
     )
end
theorem jc (w:World):Calls prog 380 #[] w fun e w'=>e = .returned (.agg #[.int .i64 3,.int .i64 0])∧Below w.heap.size w w':=by
 go_enter func380,ntmps380;go_wp2;exact cR (v:=.agg #[.int .i64 3,.int .i64 0]) (by simp [results,results380,go_sem]) rfl ⟨rfl,aB _ _⟩
theorem aAp {s:gX} {a:Int} (h:nT s a=none):eI s a=s:=by
 unfold nT at h;rw [Option.map_eq_none_iff,List.find?_eq_none] at h;exact filter_all fun x hx=>by simpa using h x hx
section
variable {I:Nat→Prop} {w:World} {p:Option Addr} {s:gX} {h:Nat} {c a b:Int}
def aCx (I:Nat→Prop) (w:World) (s:gX) (x y:Int) (e:Ending) (w':World):Prop:=∃ p h,e = .returned (.tuple #[.pointer p,.agg #[.int .i64 x,.int .i64 y]])∧Tr (JB I w.heap.size w') w' p s h∧Below w.heap.size w w'
theorem wP {W w3 w4:World} {b7:Nat} {p3:Option Addr} {s3:gX} {h3:Nat} {v0 v1:Value} (hI:∀ k,I k→k<w.heap.size) (h7:w.heap.size≤b7) (hlt:b7<W.heap.size) (hB0:Below w.heap.size w W) (hR:Row W b7 94 [v0,v1]) (t3:Tr (JB I W.heap.size w3) w3 p3 s3 h3) (cP:Below W.heap.size W w3) (dQ:Below w3.heap.size w3 w4) (x y:Int) :
  Row ((w4.setCell ⟨b7,0,none⟩ (.int .i64 x)).setCell ⟨b7,1,none⟩ (.int .i64 y)) b7 94 [.int .i64 x,.int .i64 y]∧Tr (JB I w.heap.size ((w4.setCell ⟨b7,0,none⟩ (.int .i64 x)).setCell ⟨b7,1,none⟩ (.int .i64 y))) ((w4.setCell ⟨b7,0,none⟩ (.int .i64 x)).setCell ⟨b7,1,none⟩ (.int .i64 y)) p3 s3 h3 ∧
   Below w.heap.size w ((w4.setCell ⟨b7,0,none⟩ (.int .i64 x)).setCell ⟨b7,1,none⟩ (.int .i64 y)):=by
 have z0:=hB0.size;have z3:=cP.size;have z4:=dQ.size;refine ⟨((hR.old (aS cP dQ z3)).set 0 _).set 1 _,t3.stay fun k hk DK=>⟨?_,?_⟩,(((aS (aS hB0 cP z0) dQ (by omega)).setCell (by simpa using h7) _).setCell (by simpa using h7) _)⟩
 ·rcases hk with hk|hk
  ·exact .inl hk
  ·refine .inr ⟨by omega,?_⟩
   simp [World.setCell];omega
 ·have hne:k≠b7:=by
   rcases hk with hk|hk
   ·have:=hI k hk;omega
   ·omega
  rw [cZ _ _ _ k hne,cZ _ _ _ k hne];exact dQ.block k DK
theorem iw (q:Tr I w p s h) (hI:∀ k,I k→k<w.heap.size) (hs:vJ s) (hz:s.length≤500000000000) :
  Calls prog 375 #[.agg #[],.pointer p,.agg #[.int .i64 c,.int .i64 a,.int .i64 b]] w (aCx I w (xG.apply s ⟨c,a,b⟩).1 (xG.apply s ⟨c,a,b⟩).2.s (xG.apply s ⟨c,a,b⟩).2.v):=by
 obtain ⟨r,hr⟩:∃ r,r=xG.apply s ⟨c,a,b⟩:=⟨_,rfl⟩;rw [←hr];have nA:=aA hr;have HS:=aA hs;obtain ⟨d,q⟩:=q;clear hr hs;go_enter func375,ntmps375;go_upto_region 1 with fail;generalize hW:World.alloc (World.alloc (World.alloc w _) _) _=W;have hb0:Below w.heap.size w W:=by rw [←hW];exact ((aB w _).alloc (by simp) _).alloc (by simp;omega) _
 have r5:Row W (w.heap.size+1) 36 [.int .i64 c,.int .i64 a,.int .i64 b]:=by rw [←hW];exact (aV (by simp)).alloc _
 have r7:Row W (w.heap.size+1+1) 94 [.int .i64 0,.int .i64 0]:=by rw [←hW];exact aV (by simp)
 have o0:=r5.cell_of (i:=0) rfl;have o1:=r5.cell_of (i:=1) rfl;have o2:=r5.cell_of (i:=2) rfl;have hlt:=r7.lt;have fG:=aA hb0;have DF:=aA r7;have HD:=aA (show lH (JB I W.heap.size W) W d p s h from q.stay fun k hk hl=>⟨.inl hk,hb0.block k hl⟩);have HQ:=aA (show Tr (JB I W.heap.size W) W p s h from ⟨d,HD.out⟩);clear hW hb0 r5 r7 q;go_wp2_with fail;refine (aEF HQ.out HS.out).mono ?_;rintro e w2 ⟨rfl,rfl⟩
 cases hm:nT s a with
 |some v =>
  have HM:=aA hm;clear hm;unfold aAz
  by_cases c1:c=1
  ·subst c1
   have e:r=(xH s a b,⟨1,v⟩):=by rw [nA.out];simp [xG,pV,HM.out]
   subst e;clear nA;go_wp2_with fail;refine (WI (I:=I) (B:=w2.heap.size) d w2 p s h HD.out HS.out (bQ _) hz).mono ?_;rintro e w3 ⟨p3,h3,rfl,t3,cP⟩;have vN:=aA t3;have oV:=aA cP;clear t3 cP;go_wp2_with fail;refine (uU _ _).mono ?_;rintro e w4 ⟨rfl,dQ⟩;have HE:=aA (wP hI (by omega) hlt fG.out DF.out vN.out oV.out dQ 1 v);have cK:=DF.out.old (aS oV.out dQ oV.out.size);have a0:w4.cell? ⟨w.heap.size+1+1,0,none⟩=some (.int .i64 0):=cK.cell_of rfl;have a1:w4.cell? ⟨w.heap.size+1+1,1,none⟩=some (.int .i64 0):=cK.cell_of rfl;have f0:=cK.frozen 0;have f1:=cK.frozen 1;clear cK dQ;go_wp2_with fail;have q1:=HE.out.1.cell_of (i:=0) rfl;have q2:=HE.out.1.cell_of (i:=1) rfl;exact cR (v:=.tuple #[.pointer p3,.agg #[.int .i64 1,.int .i64 v]]) (by simp [results,results375,go_sem,q1,q2]) rfl ⟨_,_,rfl,HE.out.2.1,HE.out.2.2⟩
  ·by_cases c2:c=2
   ·subst c2
    have e:r=(s,⟨1,v⟩):=by rw [nA.out];simp [xG,pV,HM.out]
    subst e;clear nA;go_wp2_with fail;refine (uU _ _).mono ?_;rintro e w4 ⟨rfl,dQ⟩;have HE:=aA (wP hI (by omega) hlt fG.out DF.out HQ.out (aT w2.heap.size w2) dQ 1 v);have cK:=DF.out.old (aS (aT w2.heap.size w2) dQ (aT w2.heap.size w2).size);have a0:w4.cell? ⟨w.heap.size+1+1,0,none⟩=some (.int .i64 0):=cK.cell_of rfl;have a1:w4.cell? ⟨w.heap.size+1+1,1,none⟩=some (.int .i64 0):=cK.cell_of rfl;have f0:=cK.frozen 0;have f1:=cK.frozen 1;clear cK dQ;go_wp2_with fail;have q1:=HE.out.1.cell_of (i:=0) rfl;have q2:=HE.out.1.cell_of (i:=1) rfl;exact cR (v:=.tuple #[.pointer p,.agg #[.int .i64 1,.int .i64 v]]) (by simp [results,results375,go_sem,q1,q2]) rfl ⟨_,_,rfl,HE.out.2.1,HE.out.2.2⟩
   ·by_cases c3:c=3
    ·subst c3
     have e:r=(eI s a,⟨1,v⟩):=by rw [nA.out];simp [xG,pV,HM.out]
     subst e;clear nA;go_wp2_with fail;refine (PR (I:=I) (B:=w2.heap.size) d a w2 p s h HD.out HS.out (by rw [HM.out];rfl) (bQ _) hz).mono ?_;rintro e w3 ⟨p3,h3,rfl,t3,cP⟩;have vN:=aA t3;have oV:=aA cP;clear t3 cP;go_wp2_with fail;refine (uU _ _).mono ?_;rintro e w4 ⟨rfl,dQ⟩;have HE:=aA (wP hI (by omega) hlt fG.out DF.out vN.out oV.out dQ 1 v);have cK:=DF.out.old (aS oV.out dQ oV.out.size);have a0:w4.cell? ⟨w.heap.size+1+1,0,none⟩=some (.int .i64 0):=cK.cell_of rfl;have a1:w4.cell? ⟨w.heap.size+1+1,1,none⟩=some (.int .i64 0):=cK.cell_of rfl;have f0:=cK.frozen 0;have f1:=cK.frozen 1;clear cK dQ;go_wp2_with fail;have q1:=HE.out.1.cell_of (i:=0) rfl;have q2:=HE.out.1.cell_of (i:=1) rfl;exact cR (v:=.tuple #[.pointer p3,.agg #[.int .i64 1,.int .i64 v]]) (by simp [results,results375,go_sem,q1,q2]) rfl ⟨_,_,rfl,HE.out.2.1,HE.out.2.2⟩
    ·have e:r=(s,⟨4,0⟩):=by rw [nA.out];simp [xG,c1,c2,c3]
     subst e;clear nA;go_wp2_with fail;refine (zC _).mono ?_;rintro e w4 ⟨rfl,dQ⟩;have HE:=aA (wP hI (by omega) hlt fG.out DF.out HQ.out (aT w2.heap.size w2) dQ 4 0);have cK:=DF.out.old (aS (aT w2.heap.size w2) dQ (aT w2.heap.size w2).size);have a0:w4.cell? ⟨w.heap.size+1+1,0,none⟩=some (.int .i64 0):=cK.cell_of rfl;have a1:w4.cell? ⟨w.heap.size+1+1,1,none⟩=some (.int .i64 0):=cK.cell_of rfl;have f0:=cK.frozen 0;have f1:=cK.frozen 1;clear cK dQ;go_wp2_with fail;have q1:=HE.out.1.cell_of (i:=0) rfl;have q2:=HE.out.1.cell_of (i:=1) rfl;exact cR (v:=.tuple #[.pointer p,.agg #[.int .i64 4,.int .i64 0]]) (by simp [results,results375,go_sem,q1,q2]) rfl ⟨_,_,rfl,HE.out.2.1,HE.out.2.2⟩
 |none =>
  have HM:=aA hm;clear hm;unfold aAz
  by_cases c1:c=1
  ·subst c1
   have e:r=(xH s a b,⟨3,0⟩):=by rw [nA.out];simp [xG,pV,HM.out]
   subst e;clear nA;go_wp2_with fail;refine (WI (I:=I) (B:=w2.heap.size) d w2 p s h HD.out HS.out (bQ _) hz).mono ?_;rintro e w3 ⟨p3,h3,rfl,t3,cP⟩;have vN:=aA t3;have oV:=aA cP;clear t3 cP;go_wp2_with fail;refine (jc _).mono ?_;rintro e w4 ⟨rfl,dQ⟩;have HE:=aA (wP hI (by omega) hlt fG.out DF.out vN.out oV.out dQ 3 0);have cK:=DF.out.old (aS oV.out dQ oV.out.size);have a0:w4.cell? ⟨w.heap.size+1+1,0,none⟩=some (.int .i64 0):=cK.cell_of rfl;have a1:w4.cell? ⟨w.heap.size+1+1,1,none⟩=some (.int .i64 0):=cK.cell_of rfl;have f0:=cK.frozen 0;have f1:=cK.frozen 1;clear cK dQ;go_wp2_with fail;have q1:=HE.out.1.cell_of (i:=0) rfl;have q2:=HE.out.1.cell_of (i:=1) rfl;exact cR (v:=.tuple #[.pointer p3,.agg #[.int .i64 3,.int .i64 0]]) (by simp [results,results375,go_sem,q1,q2]) rfl ⟨_,_,rfl,HE.out.2.1,HE.out.2.2⟩
  ·by_cases c2:c=2
   ·subst c2
    have e:r=(s,⟨3,0⟩):=by rw [nA.out];simp [xG,pV,HM.out]
    subst e;clear nA;go_wp2_with fail;refine (jc _).mono ?_;rintro e w4 ⟨rfl,dQ⟩;have HE:=aA (wP hI (by omega) hlt fG.out DF.out HQ.out (aT w2.heap.size w2) dQ 3 0);have cK:=DF.out.old (aS (aT w2.heap.size w2) dQ (aT w2.heap.size w2).size);have a0:w4.cell? ⟨w.heap.size+1+1,0,none⟩=some (.int .i64 0):=cK.cell_of rfl;have a1:w4.cell? ⟨w.heap.size+1+1,1,none⟩=some (.int .i64 0):=cK.cell_of rfl;have f0:=cK.frozen 0;have f1:=cK.frozen 1;clear cK dQ;go_wp2_with fail;have q1:=HE.out.1.cell_of (i:=0) rfl;have q2:=HE.out.1.cell_of (i:=1) rfl;exact cR (v:=.tuple #[.pointer p,.agg #[.int .i64 3,.int .i64 0]]) (by simp [results,results375,go_sem,q1,q2]) rfl ⟨_,_,rfl,HE.out.2.1,HE.out.2.2⟩
   ·by_cases c3:c=3
    ·subst c3
     have e:r=(s,⟨3,0⟩):=by rw [nA.out];simp [xG,pV,HM.out,aAp HM.out]
     subst e;clear nA;go_wp2_with fail;refine (jc _).mono ?_;rintro e w4 ⟨rfl,dQ⟩;have HE:=aA (wP hI (by omega) hlt fG.out DF.out HQ.out (aT w2.heap.size w2) dQ 3 0);have cK:=DF.out.old (aS (aT w2.heap.size w2) dQ (aT w2.heap.size w2).size);have a0:w4.cell? ⟨w.heap.size+1+1,0,none⟩=some (.int .i64 0):=cK.cell_of rfl;have a1:w4.cell? ⟨w.heap.size+1+1,1,none⟩=some (.int .i64 0):=cK.cell_of rfl;have f0:=cK.frozen 0;have f1:=cK.frozen 1;clear cK dQ;go_wp2_with fail;have q1:=HE.out.1.cell_of (i:=0) rfl;have q2:=HE.out.1.cell_of (i:=1) rfl;exact cR (v:=.tuple #[.pointer p,.agg #[.int .i64 3,.int .i64 0]]) (by simp [results,results375,go_sem,q1,q2]) rfl ⟨_,_,rfl,HE.out.2.1,HE.out.2.2⟩
    ·have e:r=(s,⟨4,0⟩):=by rw [nA.out];simp [xG,c1,c2,c3]
     subst e;clear nA;go_wp2_with fail;refine (zC _).mono ?_;rintro e w4 ⟨rfl,dQ⟩;have HE:=aA (wP hI (by omega) hlt fG.out DF.out HQ.out (aT w2.heap.size w2) dQ 4 0);have cK:=DF.out.old (aS (aT w2.heap.size w2) dQ (aT w2.heap.size w2).size);have a0:w4.cell? ⟨w.heap.size+1+1,0,none⟩=some (.int .i64 0):=cK.cell_of rfl;have a1:w4.cell? ⟨w.heap.size+1+1,1,none⟩=some (.int .i64 0):=cK.cell_of rfl;have f0:=cK.frozen 0;have f1:=cK.frozen 1;clear cK dQ;go_wp2_with fail;have q1:=HE.out.1.cell_of (i:=0) rfl;have q2:=HE.out.1.cell_of (i:=1) rfl;exact cR (v:=.tuple #[.pointer p,.agg #[.int .i64 4,.int .i64 0]]) (by simp [results,results375,go_sem,q1,q2]) rfl ⟨_,_,rfl,HE.out.2.1,HE.out.2.2⟩
end
theorem YY {w:World} {B:Nat} {e:TypeId} {size:Nat} {v:Value} {n:Nat} {xs:List Value} (h:w.ownsRow 0 e size v n xs) (hb:∀ k,v.ownBlock=some k→B≤k):w.ownsRow B e size v n xs:=by
 refine ⟨h.1,?_⟩
 rcases h.2 with h2|⟨g,cap,cur,rfl,-,h4⟩
 ·exact .inl h2
 ·exact .inr ⟨g,cap,cur,rfl,hb g rfl,h4⟩
theorem wz {I:Nat→Prop} {w:World} {p:Option Addr} {s:gX} {h:Nat} (q:Tr I w p s h) (hI:∀ k,I k→k<w.heap.size) (hz:s.length≤500000000000) :
  Calls prog 376 #[.agg #[],.pointer p] w fun e w'=>∃ v,e = .returned v∧w'.ownsRow w.heap.size 3 1 v (flat s).length (ints (flat s))∧Below w.heap.size w w':=by
 obtain ⟨d,q⟩:=q;have HQ:=aA q;clear q;go_enter func376,ntmps376;go_wp2_with fail;generalize hW:World.alloc w _=W;have hb0:Below w.heap.size w W:=by rw [←hW];exact aB _ _
 have HB:=aA hb0;clear hW;refine (SE (I:=I) (N:=w.heap.size) hI d W p s h (.slice none 0 0) [] (HQ.out.stay fun k hk hl=>⟨hk,hb0.block k hl⟩) hb0.size (by simp;omega) (jZ _ _ _ _) (fun k e=>by cases e)).mono ?_;clear hb0;rintro e w3 ⟨v,rfl,hG⟩;have HG:=aA hG;clear hG;go_wp2_with fail;go_ret;have hf:=HG.out.fr;have ho:=HG.out.own;rw [List.nil_append] at ho;have z:=HB.out.size;refine ⟨v,rfl,YY ho (fun k e=>(HG.out.at' k e).elim (fun c=>by cases c) (fun c=>by omega)),?_⟩;exact aS HB.out ⟨hf.os,hf.tape,hf.output,hf.size,fun k hk=>hf.block k hk (fun c=>by cases c)⟩ z
def aFn:tree.SR gX where
 sz s:=2*s.length
 rep I w s c:=∃ p h,c=[.pointer p]∧Tr I w p s h∧vJ s
 len h:=by obtain ⟨p,h,e,-⟩:=h;rw [e];rfl
 shape h v hv:=by obtain ⟨p,h,e,-⟩:=h;rw [e] at hv;exact ⟨_,oP.mp hv⟩
 stay hk h:=by obtain ⟨p,h,e,q,a⟩:=h;exact ⟨p,h,e,q.stay hk,a⟩
theorem aC6 {s:gX} (h:vJ s) (o:M.Op):vJ (xG.apply s o).1:=by
 show vJ (Prod.fst (if _ then _ else _))
 split
 ·exact lz h _ _
 ·split
  ·exact h
  ·split
   ·exact lp h _
   ·exact h
theorem CN:M.xP (fun s:gX=>2*s.length) xG:=by
 refine ⟨aW _,fun s o=>?_⟩;show 2*List.length (Prod.fst (if _ then _ else _))≤_;have:=US s o.a o.b;have:=TS s o.a
 split
 ·dsimp only;omega
 ·split
  ·dsimp only;omega
  ·split<;>dsimp only<;>omega
theorem iu (w:World):(method 553 150 (.agg #[]) "Apply").run prog w = .ok (375,.agg #[]) w:=by kernel_rfl
theorem ir (s o:Value) (w:World):(callFunc 375 #[.agg #[],s,o]).run prog w = .ok (.enter 375 #[.agg #[],s,o]) w:=by kernel_rfl
theorem jb (w:World):(method 553 150 (.agg #[]) "Tell").run prog w = .ok (376,.agg #[]) w:=by kernel_rfl
theorem ja (s:Value) (w:World):(callFunc 376 #[.agg #[],s]).run prog w = .ok (.enter 376 #[.agg #[],s]) w:=by kernel_rfl
theorem aH4 (L:int.Lt) (ho:L.oT=150) (hv:L.ov = .agg #[]):tree.bG aFn xG L 375 (.agg #[]):=by
 refine ⟨CN,fun W=>by rw [ho,hv];exact iu W,fun s o W=>ir s o W,fun I W s x op hr hsz hI=>?_⟩;obtain ⟨p,h,e,q,ha⟩:=hr;have hx:x = .pointer p:=by simpa using e
 subst hx;have hz:2*s.length≤1000000000000:=hsz;obtain ⟨c,a,b⟩:=op;refine (iw q hI ha (by omega)).mono ?_;rintro e' w' ⟨p',h',rfl,t',hb⟩;exact ⟨.pointer p',rfl,⟨p',h',rfl,t',aC6 ha _⟩,hb⟩
theorem aH5 (L:int.Lt) (ho:L.oT=150) (hv:L.ov = .agg #[]):tree.tR aFn L flat 376 (.agg #[]) where
 m W:=by rw [ho,hv];exact jb W
 c s W:=ja s W
 f I W s x hr hsz hI:=by
  obtain ⟨p,h,e,q,ha⟩:=hr;have hx:x=p:=by simpa using e
  subst hx;have hz:2*s.length≤1000000000000:=hsz;exact wz q hI (by omega)
end Go.Proofs.YtefjhnhdagolhaaGreat
