import Derived.Test.YtefjhnhdagolhaaGreatA19
set_option maxHeartbeats 8000000
set_option maxRecDepth 20000
namespace Go.Proofs.YtefjhnhdagolhaaGreat
open Tryz
open Go.RowKit
open M (aM aC aD aR bJ cnt marks tagged num)
attribute [local go_sem ↓] Go.wp_at_zero Go.wp_at_succ
theorem ij {w1 w2:World} {b1 o1 b2 o2 b3 o3 b4 o4 b5 o5 b6 o6:Nat} {v1 v2 v3 v4 v5:Value} {xs:List Value}
  (h:w1.cell? ⟨b1,o1,none⟩=some v1∧w1.cell? ⟨b2,o2,none⟩=some v2∧w1.cell? ⟨b3,o3,none⟩=some v3∧w1.cell? ⟨b4,o4,none⟩=some v4∧w1.cell? ⟨b5,o5,none⟩=some v5∧w1.rangeAt b6 o6 xs)
  {K:Nat→Prop} (hK:K b1∧K b2∧K b3∧K b4∧K b5∧K b6) (hk:∀ k,K k→w2.heap[k]?=w1.heap[k]?) :
  w2.cell? ⟨b1,o1,none⟩=some v1∧w2.cell? ⟨b2,o2,none⟩=some v2∧w2.cell? ⟨b3,o3,none⟩=some v3∧w2.cell? ⟨b4,o4,none⟩=some v4∧w2.cell? ⟨b5,o5,none⟩=some v5∧w2.rangeAt b6 o6 xs :=
 ⟨cV h.1 (hk _ hK.1),cV h.2.1 (hk _ hK.2.1),cV h.2.2.1 (hk _ hK.2.2.1),cV h.2.2.2.1 (hk _ hK.2.2.2.1),cV h.2.2.2.2.1 (hk _ hK.2.2.2.2.1),fun j v hv=>cV (h.2.2.2.2.2 j v hv) (hk _ hK.2.2.2.2.2)⟩
def KR (wr:World) (b8:Nat) (vh:Value) (x:Nat):Prop:=x<wr.heap.size∧x≠b8∧vh.ownBlock≠some x
def aCk {σ:Type} (P:M.Plain σ) (Y:aR) (tq q:Int) (u:Nat) (an:M.az):Prop:=∀ t0:Nat,tq=t0→(((Y.bs.flatten.take u).count t0:Nat):Int)=q+1→an=(gU P Y u).an t0
def RpL {σ:Type} (L:DL) (P:M.Plain σ) (HM:World→Value→σ→Prop) (sz:σ→Nat) (Y:aR) (w:World) (b8:Nat) (vl:Value) (tq q:Int) (i:Value) (w':World):Prop :=
 ∃ (u:Nat) (vh:Value) (an:M.az),u≤Y.order.length∧i = .int .i64 (u:Int)∧JH L HM Y w b8 vl (gU P Y u).st vh an w'∧sz (gU P Y u).st≤2+2*u∧aCk P Y tq q u an
theorem RO {σ:Type} {L:DL} {P:M.Plain σ} {tell:σ→List Int} {sz:σ→Nat} {HM:World→Value→σ→Prop} {Au:Nat→World→Prop} {S:Nat→Prop} {Y:aR} {w:World} {bZ:Nat→Nat} {vo vp:Nat→Value} {vb:Value} {bv:Nat→Value}
  (hD:qi L P tell sz HM Au) (h:DR L S Y w bZ vo vp vb bv) (hmem:∀ b∈Y.bs,∀ k∈b,k<L.n) (aHG:∀ t,t<L.n→cnt Y.bs t≤(Y.th t).ops.length) (hA:Y.bs.flatten.length≤100000000000) (B:Nat) (hB:B≤w.heap.size) (hAu:Au B w) (a1 a2:Option Addr) (l1 c1 l2 c2:Nat) (RT:L.vn = .slice a1 l1 c1) (hvo:L.vo = .slice a2 l2 c2) (tq q:Int) :
  Calls prog 88 #[.pointer (some ⟨L.b,0,none⟩),.int .i64 tq,.int .i64 q] w fun e w'=>∃ vh an,e = .returned (.tuple #[.agg (yH L vh).toArray,.agg #[.int .i64 an.s,.int .i64 an.v]])∧HM w' vh (gU P Y Y.order.length).st∧(∀ k,vh.ownBlock=some k→w.heap.size≤k)∧Below w.heap.size w w'∧aCk P Y tq q Y.order.length an:=by
 have HR:=aA h;obtain ⟨-,k0,k1,k2,k3,k4,k5,k6⟩:True∧w.cell? ⟨L.b,0,none⟩=some (.int .i64 L.kind)∧w.cell? ⟨L.b,1,none⟩=some (.int .i64 (L.n:Int))∧w.cell? ⟨L.b,2,none⟩=some (.int .i64 (L.cap:Int))∧w.cell? ⟨L.b,3,none⟩=some (.int .i64 L.st)∧w.cell? ⟨L.b,4,none⟩=some (.int .i64 L.co)∧w.cell? ⟨L.b,5,none⟩=some (.slice a1 l1 c1)∧w.cell? ⟨L.b,6,none⟩=some (.slice a2 l2 c2) :=
  ⟨trivial,h.dV rfl,h.dV rfl,h.dV rfl,h.dV rfl,h.dV rfl,by rw [←RT];exact h.dV rfl,by rw [←hvo];exact h.dV rfl⟩
 have hlt:L.b<w.heap.size:=mX w _ k0;have aE4:¬L.b=w.heap.size:=by omega
 have aHC:¬L.b=w.heap.size+1:=by omega
 have HF:=aA (fun W=>hD.first W);rw [RT,hvo] at HF;have HD:=aA hD;have HAU:=aA hAu;have aCt:=aA hmem;have aJ3:=aA aHG;clear h hD hAu hmem aHG;go_enter func88,ntmps88;go_wp2_with fail;refine (HF.out _).mono ?_;rintro e w1 ⟨vh0,rfl,hM0,aHt,eN⟩;obtain ⟨ha,hl,hc,rfl⟩:=HD.out.form _ _ _ hM0;have hN:Row w1 w.heap.size 159 [.int .i64 0,.int .i64 0,.int .i64 0,.slice none 0 0,.slice none 0 0,.slice none 0 0]:=((aV rfl).alloc _).old eN;have hM:Row w1 (w.heap.size+1) 94 [.int .i64 0,.int .i64 0]:=(aV (by simp)).old eN;have oU:=aA (aS (((aT w.heap.size w).alloc (bQ _) _).alloc (by simp) _) eN (by simp;omega));have hz1:w.heap.size+1<w1.heap.size:=hM.lt;have HN:=aA hN;have HMM:=aA hM;have HM0:=aA hM0;have HFR:=aA aHt;have e9:yH L (.slice ha hl hc)=[.int .i64 L.kind,.int .i64 L.st,.int .i64 L.co,.slice a1 l1 c1,.slice a2 l2 c2,.slice ha hl hc]:=by unfold yH;rw [RT,hvo]
 rw [e9];clear hN hM eN hM0 aHt k0 k1 k2 k3 k4 k5 k6;go_wp2_with fail;generalize mU:World.alloc (World.alloc w1 _) _=W3;have cP:Below w1.heap.size w1 W3:=by rw [←mU];exact ((aT _ _).alloc (bQ _) _).alloc (by simp) _
 have hP:Row W3 w1.heap.size 159 (yH L (.slice ha hl hc)):=by rw [←mU,e9];exact (aV rfl).alloc _
 have hA9:Row W3 (w1.heap.size+1) 94 [.int .i64 0,.int .i64 0]:=by rw [←mU];exact aV (by simp)
 have hz3:w1.heap.size+1<W3.heap.size:=hA9.lt;have HW3:=aA (aP cP (aP hP hA9));have hB3:Below w.heap.size w W3:=aS oU.out cP oU.out.size;have HOr:=aA (XQ (HR.out.stay (w':=W3) (S':=S) (fun k hS=>hB3.block k (HR.out.lt k hS)) (fun _ h=>h) (fun k hS=>cH (HR.out.lt k hS) hB3.size)) (by omega));have oV:=aA hB3;clear mU hP hA9 cP hB3;refine HOr.out.mono ?_;rintro e w4 ⟨vl,rfl,hO4,dQ⟩;have hJ:JH L HM Y w w1.heap.size vl (gU P Y 0).st (.slice ha hl hc) ⟨0,0⟩ w4:=by
  have hz4:=dQ.size;refine ⟨aS oV.out dQ oV.out.size,HW3.out.2.1.old dQ,?_,fun k e=>?_,by omega,HW3.out.2.2.old dQ,(HN.out.old HW3.out.1).old dQ,(HMM.out.old HW3.out.1).old dQ,dW hO4 (by omega)⟩
  ·refine HD.out.stay _ _ _ _ HM0.out fun k e=>?_
   have:=HD.out.lt _ _ _ HM0.out k e;rw [dQ.block k (by omega),HW3.out.1.block k this]
  ·have q1:=HFR.out k e
   have q2:=HD.out.lt _ _ _ HM0.out k e;refine ⟨by simpa using q1,by omega,by omega,fun c=>?_⟩;have:=(hO4.lt k c).1;omega
 have HJ:=aA hJ;obtain ⟨⟨la,lc,rfl⟩,-⟩:=bM hO4;clear hO4 dQ hJ HOr HM0 HFR e9;have aRk:Y.order.length≤Y.bs.flatten.length:=Nat.le_of_eq (lD Y);have aRl:Y.bs.flatten.length≤Y.order.length:=Nat.le_of_eq (lD Y).symm;have aRj:Y.order.length≤100000000000:=by omega
 generalize hb8:w1.heap.size=b8 at *;go_wp2_with fail
 go_loopw [11] (fun i w'=>RpL L P HM sz Y w b8 (.slice la Y.order.length lc) tq q i w') (fun i _=>Y.order.length-(intOf i).toNat)
 case atStart =>
  refine ⟨0,_,_,aW _,rfl,HJ.out,HD.out.sz0,fun t0 _ _=>rfl⟩
 case round =>
  obtain ⟨u,vh,an,hu,rfl,hJ,hsz,aj⟩:=hrel;have hB:=hJ.below;have c7:wr.cell? ⟨L.b,7,none⟩=some (.slice (some ⟨L.g,0,none⟩) L.n L.gc):=aI hB (HR.out.dV rfl);have zm:=aA hJ;have HAn:=aA aj
  by_cases yx:u<Y.order.length
  ·have aFg:(u:Int)<(Y.order.length:Int):=by omega
   have hu0:(0:Int)≤(u:Int):=by omega
   have huf:u<Y.bs.flatten.length:=by omega
   obtain ⟨o1,o2⟩:=SH Y u yx huf;obtain ⟨k,hk⟩:∃ k,k=Y.bs.flatten[u]:=⟨_,rfl⟩;obtain ⟨sq,hsq⟩:∃ sq,sq=(Y.bs.flatten.take u).count k:=⟨_,rfl⟩;rw [←hk] at o1;rw [←hk,←hsq] at o2;have hkn:k<L.n:=by
    have:k∈Y.bs.flatten:=by rw [hk];exact AA huf
    obtain ⟨b,hb,hkb⟩:=List.mem_flatten.1 this;exact aCt.out b hb k hkb
   have hcs:=EO Y.bs.flatten u huf k;rw [←hk,aJ rfl,←hsq] at hcs;have WV:sq<(Y.th k).ops.length:=by
    have h1:=DQ Y.bs.flatten (u+1) k;have h2:=aJ3.out k hkn;unfold cnt at h2;omega
   obtain ⟨op,hop⟩:∃ op,op=(Y.th k).ops[sq]:=⟨_,rfl⟩;have aE5:((Y.th k).ops).getD sq ⟨0,0,0⟩=op:=by rw [hop];simp [List.getD,eT WV]
   obtain ⟨ap,hap⟩:∃ ap,ap=P.apply (gU P Y u).st op:=⟨_,rfl⟩;have hnx:=SJ P Y u huf;rw [←hk] at hnx;have hc9:(gU P Y u).c k=sq:=by rw [aFw,←hsq]
   have yh:=aA (show (gU P Y (u+1)).st=ap.1 by rw [hnx];simp only [M.Rp.next,hc9,aE5,←hap]);have aHc:(gU P Y (u+1)).an k=ap.2:=by rw [hnx];simp only [M.Rp.next,hc9,aE5,←hap,aC]
   have aHd:∀ t0,t0≠k→(gU P Y (u+1)).an t0=(gU P Y u).an t0:=fun t0 mP=>by rw [hnx];simp only [M.Rp.next,aD _ _ mP]
   have HSZ:=aA (show sz (gU P Y (u+1)).st≤2+2*u+2 by rw [yh.out,hap];have:=HD.out.LA (gU P Y u).st op;omega);have HN1:=aA (show (k:Int)=tq→(sq:Int)=q→aCk P Y tq q (u+1) ap.2 from fun h1 h2 t0 mP _=>by
    have:t0=k:=by omega
    rw [this,aHc])
   have HN2:=aA (show ¬((k:Int)=tq∧(sq:Int)=q)→aCk P Y tq q (u+1) an from fun hn t0 mP hct=>by
    by_cases e:t0=k
    ·subst e
     rw [hcs] at hct;exact absurd ⟨mP.symm,by omega⟩ hn
    ·rw [aHd t0 e]
     refine HAn.out t0 mP ?_;have h9:=EO Y.bs.flatten u huf t0;rw [←hk,aN (fun c=>e c.symm)] at h9;rw [←hct,h9];rfl)
   have HOG:=aA (aP o1 o2);obtain ⟨gl,cl,el,m1⟩:=nH hJ.ml (mF Y.order u yx).2.1;obtain ⟨gl',cl',el',m2⟩:=nH hJ.ml (mF Y.order u yx).2.2;injection el with el1 _ el2
   subst el1 el2;injection el' with el1 _ el2
   injection el1 with el1
   injection el1 with el1
   subst el1;clear el2;rw [o1] at m1;rw [o2] at m2;have cp:=aI hB (HR.out.ptr k hkn);have og:=aBz (Y.th k).ops sq WV;obtain ⟨go,oc,eo,g0⟩:=nH (HR.out.ops k hkn) og.1;have g1:=(HR.out.ops k hkn).cells (g:=go) (by rw [eo];rfl) (sq*3+1) _ og.2.1;have g2:=(HR.out.ops k hkn).cells (g:=go) (by rw [eo];rfl) (sq*3+2) _ og.2.2;rw [gS,nJ] at g1 g2;rw [←hop] at g0 g1 g2;have co:wr.cell? ⟨L.bT k,0,none⟩=some (.slice (some ⟨go,0,none⟩) (Y.th k).ops.length oc):=by rw [←eo];exact aI hB (HR.out.dR hkn rfl)
   have opr:wr.rangeAt go (sq*3) [.int .i64 op.c,.int .i64 op.a,.int .i64 op.b]:=fun j v hv=>by
    match j,hv with
    |0,hv=>injection hv with hv;subst hv;exact aI hB g0
    |1,hv=>injection hv with hv;subst hv;exact aI hB g1
    |2,hv=>injection hv with hv;subst hv;exact aI hB g2
   have aRq:(sq:Int)<((Y.th k).ops.length:Int):=by omega
   have aRr:(0:Int)≤(sq:Int):=by omega
   have aLK:(k:Int)<(L.n:Int):=by omega
   have WU:(0:Int)≤(k:Int):=by omega
   have aFf:(prog.info? 36).map (·.size)=some 3:=by kernel_rfl
   have HS0:=aA (aP c7 (aP m1 (aP m2 (aP cp (aP co opr)))));have aBl:∀ x,x<w.heap.size→x<wr.heap.size∧x≠b8∧vh.ownBlock≠some x:=fun x hx=>⟨cH hx hB.size,by have:=hJ.b8w;omega,fun c=>by have:=(hJ.WW x c).1;omega⟩
   have HK:=aA (show KR wr b8 vh L.b∧KR wr b8 vh gl∧KR wr b8 vh gl∧KR wr b8 vh L.g∧KR wr b8 vh (L.bT k)∧KR wr b8 vh go from by
    have uL:gl<wr.heap.size∧gl≠b8∧vh.ownBlock≠some gl:=⟨(hJ.ml.lt gl rfl).2,by have:=(hJ.ml.lt gl rfl).1;omega,fun c=>(hJ.WW gl c).2.2.2 rfl⟩;exact ⟨aBl _ (HR.out.lt _ HR.out.PV.1),uL,uL,aBl _ (HR.out.lt _ HR.out.av.1),aBl _ (HR.out.lt _ (HR.out.PW k hkn).1),aBl _ (mX w _ g0)⟩)
   have aCZ:sz (gU P Y u).st≤1000000000000:=by omega
   obtain ⟨ha5,hl5,ve,e5⟩:=HD.out.form _ _ _ hJ.hm;have aKl:=aA aCZ;have zi:=aA hap;have HDo:=aA (show ∀ W,Below wr.heap.size wr W→Calls prog 114 #[.pointer (some ⟨b8,0,none⟩),.agg #[.int .i64 op.c,.int .i64 op.a,.int .i64 op.b]] W fun e w'=>e = .returned (.agg #[.int .i64 ap.2.s,.int .i64 ap.2.v])∧∃ kU,JH L HM Y w b8 (.slice (some ⟨gl,0,none⟩) Y.order.length lc) ap.1 kU an w'∧(∀ k,kU.ownBlock=some k→vh.ownBlock=some k∨W.heap.size≤k)∧Fr (fun k=>k=b8∨vh.ownBlock=some k) W w' from fun W hW=>by
    have hJw:=JH.later HD.out zm.out hW;refine (HD.out.does B W b8 vh (gU P Y u).st op (HD.out.au _ w _ HAU.out (fun x hx=>hJw.below.block x (by omega))) (by have:=zm.out.b8w;omega) hJw.pl hJw.hm (fun x hx=>⟨by have:=(zm.out.WW x hx).1;omega,(zm.out.WW x hx).2.1⟩) aKl.out).mono ?_;rintro e w5 ⟨rfl,kU,GD,hm5,hv5,sP⟩;rw [←hap] at hm5 ⊢;exact ⟨rfl,kU,hJw.does GD hm5 hv5 sP,fun k e=>(hv5 k e).2,sP⟩)
   clear hJ aj o1 o2 hk hsq hcs hop aE5 hap hnx hc9 aHc aHd m1 m2 og g0 g1 g2 aBl hsz aCZ c7 cp co opr hB eo;have RNX:=aA (show ¬(wr.heap.size=b8∨vh.ownBlock=some wr.heap.size) from by
    rintro (c|c)
    ·have:=zm.out.pl.lt;omega
    ·have:=HD.out.lt _ _ _ zm.out.hm _ c;omega)
   have RNA:=aA (show ∀ w5,Fr (fun k=>k=b8∨vh.ownBlock=some k) (wr.alloc (.cells #[.int .i64 0,.int .i64 0] 94)).drew w5→Row w5 wr.heap.size 94 [.int .i64 0,.int .i64 0] from fun w5 hf=>(show Row (wr.alloc (.cells #[.int .i64 0,.int .i64 0] 94)).drew wr.heap.size 94 [.int .i64 0,.int .i64 0] from dH wr [.int .i64 0,.int .i64 0] _).of_block (hf.block _ (by simp) RNX.out));have HJA:=aA (show ∀ w5 kU,JH L HM Y w b8 (.slice (some ⟨gl,0,none⟩) Y.order.length lc) ap.1 kU an w5→(∀ k,kU.ownBlock=some k→vh.ownBlock=some k∨wr.heap.size+1≤k)→Row w5 wr.heap.size 94 [.int .i64 0,.int .i64 0]→JH L HM Y w b8 (.slice (some ⟨gl,0,none⟩) Y.order.length lc) ap.1 kU an (w5.setCells wr.heap.size 0 [.int .i64 ap.2.s,.int .i64 ap.2.v])∧(w5.setCells wr.heap.size 0 [.int .i64 ap.2.s,.int .i64 ap.2.v]).rangeAt wr.heap.size 0 [.int .i64 ap.2.s,.int .i64 ap.2.v] from fun w5 kU hJ hv hr=>by
    have hz:=zm.out.lt HD.out;refine ⟨hJ.stay HD.out (fun x hx=>?_) ⟨rfl,rfl,rfl⟩ (by simp [World.setCells,World.setCell]),pO _ _ _ _ (hr.there (by simp))⟩;have hne:x≠wr.heap.size:=by
     rcases hx with q|q|q|q|q
     ·have:=hz x (.inl q);omega
     ·have:=hz x (.inr (.inl q));omega
     ·have:=hz x (.inr (.inr (.inl q)));omega
     ·rcases hv x q with q|q
      ·have:=hz x (.inr (.inr (.inr (.inl q))));omega
      ·omega
     ·have:=hz x (.inr (.inr (.inr (.inr q))));omega
    simp only [World.setCells];rw [cZ _ _ _ x hne,cZ _ _ _ x hne])
   have HJB:=aA (show ∀ w5 kU,JH L HM Y w b8 (.slice (some ⟨gl,0,none⟩) Y.order.length lc) ap.1 kU an w5→JH L HM Y w b8 (.slice (some ⟨gl,0,none⟩) Y.order.length lc) ap.1 kU an ((w5.alloc (.cells #[.int .i64 0,.int .i64 0] 94)).setCells w5.heap.size 0 [.int .i64 ap.2.s,.int .i64 ap.2.v])∧((w5.alloc (.cells #[.int .i64 0,.int .i64 0] 94)).setCells w5.heap.size 0 [.int .i64 ap.2.s,.int .i64 ap.2.v]).rangeAt w5.heap.size 0 [.int .i64 ap.2.s,.int .i64 ap.2.v] from fun w5 kU hJ =>
    ⟨hJ.later HD.out (cO (bQ _) _ _ _ (aB _ _)),pO _ _ _ _ ((dH w5 [.int .i64 0,.int .i64 0] 94).there (by simp))⟩)
   go_upto_region 7 with fail;refine fH (S:=(fun w'=>w'.cell? ⟨L.b,7,none⟩=some (.slice (some ⟨L.g,0,none⟩) L.n L.gc)∧w'.cell? ⟨gl,u*3+1,none⟩=some (.int .i64 (k:Int))∧w'.cell? ⟨gl,u*3+2,none⟩=some (.int .i64 (sq:Int))∧w'.cell? ⟨L.g,k,none⟩=some (.pointer (some ⟨L.bT k,0,none⟩))∧w'.cell? ⟨L.bT k,0,none⟩=some (.slice (some ⟨go,0,none⟩) (Y.th k).ops.length oc)∧w'.rangeAt go (sq*3) [.int .i64 op.c,.int .i64 op.a,.int .i64 op.b])) 24 rfl (by kernel_rfl) ?_ (fun hHeld=>?_)
   ·exact HS0.out
   repeat' first
    |(
     (first|refine ZY [20,21,22,23] 23 (by rfl) (by decide +kernel) ?_)
     refine ⟨_,by exact fun _ _ _ h=>h,.inl ⟨by rfl,fun w hS=>by (try dsimp only at hS);go_simp;(try with_reducible rfl)⟩,by assumption,?_⟩
     (try go_frame)
     )
    |(
     (first|refine pF 22 (by rfl) (by decide +kernel) (fun K hK PY=>?_)|refine pF 23 (by rfl) (by decide +kernel) (fun K hK PY=>?_)|refine pF 21 (by rfl) (by decide +kernel) (fun K hK PY=>?_)|refine pF 20 (by rfl) (by decide +kernel) (fun K hK PY=>?_)|refine fC (rs:=[20,22]) (by decide +kernel) (by simp) (JF (by rfl) (fun K hK PY=>?_) (JF (by rfl) (fun K hK PY=>?_) AllReadyH.nil))|refine fC (rs:=[21,22]) (by decide +kernel) (by simp) (JF (by rfl) (fun K hK PY=>?_) (JF (by rfl) (fun K hK PY=>?_) AllReadyH.nil)))
     all_goals first
      |(
       have _:On 20:=PY;rw [aJ (by rfl)];refine wp_load_mid 36 (.tmp 45) rfl go (sq*3) rfl [.int .i64 op.c,.int .i64 op.a,.int .i64 op.b] _ ?_ underlying36 rfl ?_ ?_
       ·exact hHeld.2.2.2.2.2
       ·exact aFf
       refine hK.out _ _ ?_ (fun hHeld=>?_)
       ·exact hHeld
       clear hK K PY
       (try go_frame)
       )
      |(
       have _:On 22:=PY;go_simp;refine hK.out _ _ ?_ (fun hHeld=>?_)
       ·exact ij (K:=KR wr b8 vh) hHeld HK.out (fun x hx=>(aB _ _).block x (by have:=hx.1;first|exact this|(simp;omega)|(have q:=sP.size;simp at q;omega)))
       clear hK K PY
       (try go_frame)
       )
      |(
       have _:On 21:=PY;go_simp;refine (HDo.out _ (by repeat (first|exact aT _ _|refine dU ?_|refine cI ?_ (by first|(simp;done)|(simp;omega)) _))).mono ?_;rintro e w5 ⟨rfl,kU,hJ5,hv5,sP⟩;have HJ5:=aA hJ5;have HV5:=aA hv5;clear hJ5 hv5;go_wp2_with fail;refine hK.out _ _ ?_ (fun hHeld=>?_)
       ·exact ij (K:=KR wr b8 vh) hHeld HK.out (fun x hx=>sP.block x (by have:=hx.1;first|exact this|(simp;omega)|(have q:=sP.size;simp at q;omega)) (by rintro (c|c);exact hx.2.1 c;exact hx.2.2 c))
       clear hK K PY
       (try go_frame)
       )
      |(
       rw [aJ (by rfl)];refine nK _ _ _ rfl _ 0 #[.int .i64 ap.2.s,.int .i64 ap.2.v] rfl rfl ?_ (by kernel_rfl) (by simp [Value.oneCell']) ?_
       ·first|exact Row.there (dH _ [_,_] _) (by simp)|exact Row.there (RNA.out _ sP) (by simp)
       refine hK.out _ _ ?_ (fun hHeld=>?_)
       ·exact ij (K:=KR wr b8 vh) hHeld HK.out (fun x hx=>(cO (B:=wr.heap.size) (by first|exact bQ _|(have:=sP.size;simp at this;omega)) _ _ _ (aT _ _)).block x hx.1)
       clear hK K PY
       (try go_frame)
       )
     )
    |(
     refine cC (by decide +kernel) ?_ _
     first
      |have hq9:=HJA.out w5 kU HJ5.out (fun x hx=>(HV5.out x hx).imp_right (fun q=>by simp at q;omega)) (RNA.out _ sP)
       have HJ6:=aA hq9.1;have hbx:=hq9.2;clear hq9;generalize (w5.setCells wr.heap.size 0 [.int .i64 ap.2.s,.int .i64 ap.2.v])=W6 at *;have gu:=HJ6.out;have n1:W6.cell? ⟨gl,u*3+1,none⟩=some (.int .i64 (k:Int)):=by obtain ⟨g',c',e',q'⟩:=nH gu.ml (mF Y.order u yx).2.1;injection e' with e1 _ _;injection e1 with e1;injection e1 with e1;subst e1;rw [q',HOG.out.1]
       have n2:W6.cell? ⟨gl,u*3+2,none⟩=some (.int .i64 (sq:Int)):=by obtain ⟨g',c',e',q'⟩:=nH gu.ml (mF Y.order u yx).2.2;injection e' with e1 _ _;injection e1 with e1;injection e1 with e1;subst e1;rw [q',HOG.out.2]
       have y0:=gu.ar.cell_of (i:=0) rfl;have y1:=gu.ar.cell_of (i:=1) rfl;have z0:=gu.ar.frozen 0;have z1:=gu.ar.frozen 1;have x0:=hbx 0 _ rfl;have x1:=hbx 1 _ rfl;clear gu hbx hHeld
       by_cases AE:(k:Int)=tq
       ·have aEY:((k:Int) == tq)=true:=by simp [AE]
        by_cases hk2:(sq:Int)=q
        ·have aEZ:((sq:Int) == q)=true:=by simp [hk2]
         have bp:=aA (HN1.out AE hk2);clear AE hk2;go_wp2_with fail;go_roundw
         case rel=>exact ⟨u+1,_,ap.2,by omega,by go_num,by rw [yh.out];exact JH.write HD.out HJ6.out ap.2,by have:=HSZ.out;omega,bp.out⟩
         case measure=>simp [intOf];omega
        ·have aEZ:((sq:Int) == q)=false:=by simp [hk2]
         have bp:=aA (HN2.out (fun c=>hk2 c.2));clear AE hk2;go_wp2_with fail;go_roundw
         case rel=>exact ⟨u+1,_,an,by omega,by go_num,by rw [yh.out];exact HJ6.out,by have:=HSZ.out;omega,bp.out⟩
         case measure=>simp [intOf];omega
       ·have aEY:((k:Int) == tq)=false:=by simp [AE]
        have bp:=aA (HN2.out (fun c=>AE c.1));clear AE;go_wp2_with fail;go_roundw
        case rel=>exact ⟨u+1,_,an,by omega,by go_num,by rw [yh.out];exact HJ6.out,by have:=HSZ.out;omega,bp.out⟩
        case measure=>simp [intOf];omega
      |have hq9:=HJB.out w5 kU HJ5.out
       have HJ6:=aA hq9.1;have hbx:=hq9.2;clear hq9;generalize ((w5.alloc (.cells #[.int .i64 0,.int .i64 0] 94)).setCells w5.heap.size 0 [.int .i64 ap.2.s,.int .i64 ap.2.v])=W6 at *;have gu:=HJ6.out;have n1:W6.cell? ⟨gl,u*3+1,none⟩=some (.int .i64 (k:Int)):=by obtain ⟨g',c',e',q'⟩:=nH gu.ml (mF Y.order u yx).2.1;injection e' with e1 _ _;injection e1 with e1;injection e1 with e1;subst e1;rw [q',HOG.out.1]
       have n2:W6.cell? ⟨gl,u*3+2,none⟩=some (.int .i64 (sq:Int)):=by obtain ⟨g',c',e',q'⟩:=nH gu.ml (mF Y.order u yx).2.2;injection e' with e1 _ _;injection e1 with e1;injection e1 with e1;subst e1;rw [q',HOG.out.2]
       have y0:=gu.ar.cell_of (i:=0) rfl;have y1:=gu.ar.cell_of (i:=1) rfl;have z0:=gu.ar.frozen 0;have z1:=gu.ar.frozen 1;have x0:=hbx 0 _ rfl;have x1:=hbx 1 _ rfl;clear gu hbx hHeld
       by_cases AE:(k:Int)=tq
       ·have aEY:((k:Int) == tq)=true:=by simp [AE]
        by_cases hk2:(sq:Int)=q
        ·have aEZ:((sq:Int) == q)=true:=by simp [hk2]
         have bp:=aA (HN1.out AE hk2);clear AE hk2;go_wp2_with fail;go_roundw
         case rel=>exact ⟨u+1,_,ap.2,by omega,by go_num,by rw [yh.out];exact JH.write HD.out HJ6.out ap.2,by have:=HSZ.out;omega,bp.out⟩
         case measure=>simp [intOf];omega
        ·have aEZ:((sq:Int) == q)=false:=by simp [hk2]
         have bp:=aA (HN2.out (fun c=>hk2 c.2));clear AE hk2;go_wp2_with fail;go_roundw
         case rel=>exact ⟨u+1,_,an,by omega,by go_num,by rw [yh.out];exact HJ6.out,by have:=HSZ.out;omega,bp.out⟩
         case measure=>simp [intOf];omega
       ·have aEY:((k:Int) == tq)=false:=by simp [AE]
        have bp:=aA (HN2.out (fun c=>AE c.1));clear AE;go_wp2_with fail;go_roundw
        case rel=>exact ⟨u+1,_,an,by omega,by go_num,by rw [yh.out];exact HJ6.out,by have:=HSZ.out;omega,bp.out⟩
        case measure=>simp [intOf];omega
     )
  ·have aFg:¬(u:Int)<(Y.order.length:Int):=by omega
   have HUE:=aA (show u=Y.order.length by omega);obtain ⟨va,zb,vc,rfl⟩:=HD.out.form _ _ _ hJ.hm;have e9:yH L (.slice va zb vc)=[.int .i64 L.kind,.int .i64 L.st,.int .i64 L.co,.slice a1 l1 c1,.slice a2 l2 c2,.slice va zb vc]:=by unfold yH;rw [RT,hvo]
   have HE9:=aA e9;have aQN:=hJ.b8w;have rP:wr.rangeAt b8 0 [.int .i64 L.kind,.int .i64 L.st,.int .i64 L.co,.slice a1 l1 c1,.slice a2 l2 c2,.slice va zb vc]:=fun j v hv=>by rw [nJ];exact hJ.pl.cell_of (by rw [e9];exact hv)
   have rA:wr.rangeAt (b8+1) 0 [.int .i64 an.s,.int .i64 an.v]:=fun j v hv=>by rw [nJ];exact hJ.ar.cell_of hv
   have n0:wr.there w.heap.size 0 6:=hJ.r6.there (by simp);have n1:wr.there (w.heap.size+1) 0 2:=hJ.r7.there (by simp);have hi1:(prog.info? 159).map (·.size)=some 6:=by kernel_rfl
   have hi2:(prog.info? 94).map (·.size)=some 2:=by kernel_rfl
   clear hJ aj hB c7 e9 hsz;go_upto_region 10 with fail;refine fH (S:=(fun w'=>w'.rangeAt b8 0 [.int .i64 L.kind,.int .i64 L.st,.int .i64 L.co,.slice a1 l1 c1,.slice a2 l2 c2,.slice va zb vc]∧w'.rangeAt (b8+1) 0 [.int .i64 an.s,.int .i64 an.v]∧w'.there w.heap.size 0 6∧w'.there (w.heap.size+1) 0 2)) 4 rfl (by kernel_rfl) ?_ (fun hHeld=>?_)
   ·exact ⟨rP,rA,n0,n1⟩
   repeat' first
    |(
     (first|refine pF 2 (by rfl) (by decide +kernel) (fun K hK PY=>?_)|refine pF 3 (by rfl) (by decide +kernel) (fun K hK PY=>?_)|refine pF 1 (by rfl) (by decide +kernel) (fun K hK PY=>?_)|refine pF 0 (by rfl) (by decide +kernel) (fun K hK PY=>?_)|refine fC (rs:=[0,1]) (by decide +kernel) (by simp) (JF (by rfl) (fun K hK PY=>?_) (JF (by rfl) (fun K hK PY=>?_) AllReadyH.nil))|refine fC (rs:=[1,2]) (by decide +kernel) (by simp) (JF (by rfl) (fun K hK PY=>?_) (JF (by rfl) (fun K hK PY=>?_) AllReadyH.nil)))
     all_goals first
      |(
       have _:On 0:=PY;rw [aJ (by rfl)];refine wp_load_mid 159 (.tmp 8) rfl b8 0 rfl [.int .i64 L.kind,.int .i64 L.st,.int .i64 L.co,.slice a1 l1 c1,.slice a2 l2 c2,.slice va zb vc] _ ?_ underlying159 rfl ?_ ?_
       ·exact hHeld.1
       ·exact hi1
       refine hK.out _ _ ?_ (fun hHeld=>?_)
       ·exact hHeld
       clear hK K PY
       (try go_frame)
       )
      |(
       have _:On 1:=PY
       (try (have e1':=e1;clear e1';generalize hWs:World.setCells wr.drew w.heap.size 0 [.int .i64 L.kind,.int .i64 L.st,.int .i64 L.co,.slice a1 l1 c1,.slice a2 l2 c2,.slice va zb vc]=W4 at hHeld e1 ⊢;have HWS:=aA hWs;clear hWs))
       rw [aJ (by rfl)];refine wp_load_mid 94 (.tmp 9) rfl (b8+1) 0 rfl [.int .i64 an.s,.int .i64 an.v] _ ?_ underlying94 rfl ?_ ?_
       ·exact hHeld.2.1
       ·exact hi2
       refine hK.out _ _ ?_ (fun hHeld=>?_)
       ·exact hHeld
       clear hK K PY
       (try go_frame)
       )
      |(
       have _:On 2:=PY;rw [aJ (by rfl)];have e1:=pO _ w.heap.size 0 [.int .i64 L.kind,.int .i64 L.st,.int .i64 L.co,.slice a1 l1 c1,.slice a2 l2 c2,.slice va zb vc] hHeld.2.2.1;refine nK 159 (.tmp 6) (.tmp 65) rfl w.heap.size 0 (List.toArray [.int .i64 L.kind,.int .i64 L.st,.int .i64 L.co,.slice a1 l1 c1,.slice a2 l2 c2,.slice va zb vc]) rfl rfl ?_ ?_ ?_ ?_
       ·exact hHeld.2.2.1
       ·exact hi1
       ·exact all_oneCell_toArray (by simp [Value.oneCell'])
       refine hK.out _ _ ?_ (fun hHeld=>?_)
       ·exact ⟨DZ hHeld.1 _ _ _ (.inl (by omega)),DZ hHeld.2.1 _ _ _ (.inl (by omega)),EA hHeld.2.2.1 _ _ _,EA hHeld.2.2.2 _ _ _⟩
       clear hK K PY
       (try go_frame)
       )
      |(
       first|(have h9:=HWS;clear h9)|(generalize hWs:World.setCells wr.drew w.heap.size 0 [.int .i64 L.kind,.int .i64 L.st,.int .i64 L.co,.slice a1 l1 c1,.slice a2 l2 c2,.slice va zb vc]=W4 at hHeld e1 ⊢;have HWS:=aA hWs;clear hWs)
       rw [aJ (by rfl)];have e2:=pO W4 (w.heap.size+1) 0 [.int .i64 an.s,.int .i64 an.v] hHeld.2.2.2;refine nK 94 (.tmp 7) (.tmp 66) rfl (w.heap.size+1) 0 (List.toArray [.int .i64 an.s,.int .i64 an.v]) rfl rfl ?_ ?_ ?_ ?_
       ·exact hHeld.2.2.2
       ·exact hi2
       ·exact all_oneCell_toArray (by simp [Value.oneCell'])
       refine hK.out _ _ ?_ (fun hHeld=>?_)
       ·exact ⟨DZ hHeld.1 _ _ _ (.inl (by omega)),DZ hHeld.2.1 _ _ _ (.inl (by omega)),EA hHeld.2.2.1 _ _ _,EA hHeld.2.2.2 _ _ _⟩
       clear hK K PY
       (try go_frame)
       )
     )
    |(
     refine cC (by decide +kernel) ?_ _;generalize hWt:World.setCells W4 (w.heap.size+1) 0 [.int .i64 an.s,.int .i64 an.v]=W5 at hHeld e2 ⊢;have e1':W5.rangeAt w.heap.size 0 [.int .i64 L.kind,.int .i64 L.st,.int .i64 L.co,.slice a1 l1 c1,.slice a2 l2 c2,.slice va zb vc]:=by rw [←hWt];exact DZ e1 _ _ _ (.inl (by omega))
     have HWT:=aA hWt;clear hWt
     (try go_wp2_with fail)
     have hold:∀ x,w.heap.size+2≤x→W5.heap[x]?=wr.heap[x]?:=fun x hx=>by
      rw [←HWT.out,←HWS.out];simp only [World.setCells];rw [cZ _ _ _ x (by simp;omega),cZ _ _ _ x (by simp;omega),cZ _ _ _ x (by simp;omega),cZ _ _ _ x (by simp;omega),cZ _ _ _ x (by simp;omega),cZ _ _ _ x (by simp;omega),cZ _ _ _ x (by simp;omega),cZ _ _ _ x (by simp;omega)];rfl
     refine cR (v:=.tuple #[.agg (List.toArray [.int .i64 L.kind,.int .i64 L.st,.int .i64 L.co,.slice a1 l1 c1,.slice a2 l2 c2,.slice va zb vc]),.agg (List.toArray [.int .i64 an.s,.int .i64 an.v])]) (VE rfl rfl rfl e1' e2 underlying159 rfl hi1 underlying94 rfl hi2) rfl ⟨.slice va zb vc,an,?_,?_,?_,?_,?_⟩
     ·rw [HE9.out]
     ·rw [←HUE.out]
      exact HD.out.stay _ _ _ _ zm.out.hm fun x hx=>hold x (zm.out.WW x hx).1
     ·exact fun x hx=>by have:=(zm.out.WW x hx).1;omega
     ·rw [←HWT.out,←HWS.out]
      exact cO (by omega) _ _ _ (cO (by omega) _ _ _ (dU zm.out.below))
     ·rw [←HUE.out];exact HAn.out
     )
structure kj {σ:Type} (L:DL) (P:M.Plain σ) (tell:σ→List Int) (sz:σ→Nat) (HM:World→Value→σ→Prop) (Au:Nat→World→Prop) (Y:aR) (w:World):Prop where
 d:qi L P tell sz HM Au
 mem:∀ b∈Y.bs,∀ k∈b,k<L.n
 ops:∀ t,t<L.n→cnt Y.bs t≤(Y.th t).ops.length
 all:Y.bs.flatten.length≤100000000000
 au:∃ B,B≤w.heap.size∧Au B w
 vn:∃ a l c,L.vn = .slice a l c
 vo:∃ a l c,L.vo = .slice a l c
section
variable {σ:Type} {L:DL} {P:M.Plain σ} {tell:σ→List Int} {sz:σ→Nat} {HM:World→Value→σ→Prop} {Au:Nat→World→Prop} {S:Nat→Prop} {Y:aR} {w:World} {bZ:Nat→Nat} {vo vp:Nat→Value} {vb:Value} {bv:Nat→Value} {t:Nat}
theorem aDS (hD:qi L P tell sz HM Au) (Y:aR):∀ u,u≤Y.bs.flatten.length→sz (gU P Y u).st≤2+2*u
 |0,_=>hD.sz0
 |u+1,h=>by
  have:=aDS hD Y u (by omega);rw [SJ P Y u (by omega)];have h2:=hD.LA (gU P Y u).st (((Y.th (Y.bs.flatten[u])).ops).getD ((gU P Y u).c (Y.bs.flatten[u])) ⟨0,0,0⟩);exact bK h2 (by omega)
theorem docState (o:kj L P tell sz HM Au Y w) (h:DR L S Y w bZ vo vp vb bv) :
  Calls prog 56 #[.pointer (some ⟨L.b,0,none⟩)] w fun e w'=>∃ v,e = .returned v∧w'.ownsRow w.heap.size 3 1 v (tell (gU P Y Y.order.length).st).length (ints (tell (gU P Y Y.order.length).st))∧Below w.heap.size w w':=by
 obtain ⟨a1,l1,c1,RT⟩:=o.vn;obtain ⟨a2,l2,c2,hvo⟩:=o.vo;obtain ⟨B,hB,hAu⟩:=o.au;have HRp:=aA (RO o.d h o.mem o.ops o.all B hB hAu a1 a2 l1 c1 l2 c2 RT hvo (-1) 0);have HSZ:=aA (show sz (gU P Y Y.order.length).st≤1000000000000 by have:=aDS o.d Y Y.order.length (Nat.le_of_eq (lD Y));have:=o.all;rw [lD] at *;omega);have HD:=aA o.d;clear o h;go_enter func56,ntmps56;go_wp2_with fail;refine HRp.out.mono ?_;rintro e w1 ⟨vh,an,rfl,hM,hfr,eN,-⟩;obtain ⟨va,vl,vc,rfl⟩:=HD.out.form _ _ _ hM;have e9:yH L (.slice va vl vc)=[.int .i64 L.kind,.int .i64 L.st,.int .i64 L.co,.slice a1 l1 c1,.slice a2 l2 c2,.slice va vl vc]:=by unfold yH;rw [RT,hvo]
 have HE9:=aA e9;have kq:=aA hM;have oU:=aA eN;rw [e9];clear hM hfr eN e9;go_wp2_with fail;generalize mU:World.alloc (World.alloc w1 _) _=W3;have cP:Below w1.heap.size w1 W3:=by rw [←mU];exact ((aT _ _).alloc (bQ _) _).alloc (by simp) _
 have hP:Row W3 w1.heap.size 159 (yH L (.slice va vl vc)):=by rw [←mU,HE9.out];exact (aV rfl).alloc _
 refine (HD.out.tells W3 w1.heap.size _ _ hP (HD.out.stay _ _ _ _ kq.out (fun k e=>cP.block k (HD.out.lt _ _ _ kq.out k e))) HSZ.out).mono ?_;rintro e w2 ⟨v,rfl,QL,bI⟩;have TE:=aA QL;have pW:=aA (aS (aS oU.out cP oU.out.size) bI (bK oU.out.size cP.size));have hz3:w.heap.size≤W3.heap.size:=bK oU.out.size cP.size;clear QL bI mU cP hP;go_wp2_with fail;go_ret;exact ⟨v,rfl,dW TE.out hz3,pW.out⟩
theorem QC (h:DR L S Y w bZ vo vp vb bv) (x:Int) (hx:¬(0≤x∧x<L.n)) :
  Calls prog 54 #[.pointer (some ⟨L.b,0,none⟩),.int .i64 x] w fun e w'=>e = .returned (.tuple #[.agg #[.int .i64 0,.int .i64 0],.int .i64 3])∧Below w.heap.size w w':=by
 have c7:w.cell? ⟨L.b,7,none⟩=some (.slice (some ⟨L.g,0,none⟩) L.n L.gc):=h.dV rfl;have c7':=fun ob=>bO c7 ob
 have hn:=h.n64;clear h
 by_cases h0:x<0
 ·go_enter func54,ntmps54
  go_wp2;exact cR (v:=.tuple #[.agg #[.int .i64 0,.int .i64 0],.int .i64 3]) (by simp [results,results54,go_sem]) rfl ⟨rfl,(by repeat (first|exact aT _ _|assumption|refine aX ?_ _|refine cI ?_ (by simp) _))⟩
 ·have h1:(L.n:Int)≤x:=by omega
  clear hx;go_enter func54,ntmps54;go_wp2;exact cR (v:=.tuple #[.agg #[.int .i64 0,.int .i64 0],.int .i64 3]) (by simp [results,results54,go_sem]) rfl ⟨rfl,(by repeat (first|exact aT _ _|assumption|refine aX ?_ _|refine cI ?_ (by simp) _))⟩
theorem NR (h:DR L S Y w bZ vo vp vb bv) (ht:t<L.n) (hp:(Y.th t).part≠0) :
  Calls prog 54 #[.pointer (some ⟨L.b,0,none⟩),.int .i64 (t:Int)] w fun e w'=>e = .returned (.tuple #[.agg #[.int .i64 0,.int .i64 0],.int .i64 4])∧Below w.heap.size w w':=by
 have c7':=fun ob=>bO (show w.cell? ⟨L.b,7,none⟩=some (.slice (some ⟨L.g,0,none⟩) L.n L.gc) from h.dV rfl) ob
 have hn:=h.n64;have cp:=fun ob=>bO (h.ptr t ht) ob
 have t3:=fun ob=>bO (show w.cell? ⟨L.bT t,3,none⟩=some (.int .i64 ((Y.th t).part:Int)) from h.dR ht rfl) ob
 have hp0:¬((Y.th t).part:Int)=0:=by omega
 have mP:(0:Int)≤(t:Int):=by omega
 have fM:(t:Int)<(L.n:Int):=by omega
 have xW:¬(L.n:Int)≤(t:Int):=by omega
 clear h;go_enter func54,ntmps54;go_wp2;exact cR (v:=.tuple #[.agg #[.int .i64 0,.int .i64 0],.int .i64 4]) (by simp [results,results54,go_sem]) rfl ⟨rfl,(by repeat (first|exact aT _ _|assumption|refine aX ?_ _|refine cI ?_ (by simp) _))⟩
theorem NT (h:DR L S Y w bZ vo vp vb bv) (ht:t<L.n) (hp:(Y.th t).part=0) (he:(Y.th t).ended=0) :
  Calls prog 54 #[.pointer (some ⟨L.b,0,none⟩),.int .i64 (t:Int)] w fun e w'=>e = .returned (.tuple #[.agg #[.int .i64 0,.int .i64 0],.int .i64 5])∧Below w.heap.size w w':=by
 have c7':=fun ob=>bO (show w.cell? ⟨L.b,7,none⟩=some (.slice (some ⟨L.g,0,none⟩) L.n L.gc) from h.dV rfl) ob
 have hn:=h.n64;have cp:=fun ob=>bO (h.ptr t ht) ob
 have t3:=fun ob=>bO (show w.cell? ⟨L.bT t,3,none⟩=some (.int .i64 ((Y.th t).part:Int)) from h.dR ht rfl) ob
 have t1:=fun ob=>bO (show w.cell? ⟨L.bT t,1,none⟩=some (.int .i64 ((Y.th t).ended:Int)) from h.dR ht rfl) ob
 rw [hp] at t3;rw [he] at t1;have mP:(0:Int)≤(t:Int):=by omega
 have fM:(t:Int)<(L.n:Int):=by omega
 have xW:¬(L.n:Int)≤(t:Int):=by omega
 clear h;go_enter func54,ntmps54;go_wp2;exact cR (v:=.tuple #[.agg #[.int .i64 0,.int .i64 0],.int .i64 5]) (by simp [results,results54,go_sem]) rfl ⟨rfl,(by repeat (first|exact aT _ _|assumption|refine aX ?_ _|refine cI ?_ (by simp) _))⟩
theorem NS (o:kj L P tell sz HM Au Y w) (h:DR L S Y w bZ vo vp vb bv) (ht:t<L.n) (hp:(Y.th t).part=0) (he:(Y.th t).ended≠0) (hc:(Y.th t).ended=cnt Y.bs t) (hb:(Y.th t).ended≤1000000000) :
  Calls prog 54 #[.pointer (some ⟨L.b,0,none⟩),.int .i64 (t:Int)] w fun e w'=>e = .returned (.tuple #[.agg #[.int .i64 ((gU P Y Y.order.length).an t).s,.int .i64 ((gU P Y Y.order.length).an t).v],.int .i64 0])∧Below w.heap.size w w':=by
 obtain ⟨a1,l1,c1,RT⟩:=o.vn;obtain ⟨a2,l2,c2,hvo⟩:=o.vo;obtain ⟨B,hB,hAu⟩:=o.au;have hn:=h.n64;have he0:¬((Y.th t).ended:Int)=0:=by omega
 have mP:(0:Int)≤(t:Int):=by omega
 have fM:(t:Int)<(L.n:Int):=by omega
 have xW:¬(L.n:Int)≤(t:Int):=by omega
 have HCT:=aA (show (((Y.bs.flatten.take Y.order.length).count t:Nat):Int)=((Y.th t).ended:Int)-1+1 by rw [lD,List.take_length,hc];unfold cnt;omega);have HH:=aA h;have HD:=aA o.d;have HO:=aA o;go_enter func54,ntmps54;go_upto_region 1 with fail;generalize pT:World.alloc w _=W0 at *;have hb0:Below w.heap.size w W0:=by rw [←pT];exact aB _ _
 have hR0:Row W0 w.heap.size 94 [.int .i64 0,.int .i64 0]:=by rw [←pT];exact aV (by simp)
 have q0:DR L S Y W0 bZ vo vp vb bv:=h.stay (fun k hS=>hb0.block k (h.lt k hS)) (fun _ h=>h) (fun k hS=>cH (h.lt k hS) hb0.size);have o0:kj L P tell sz HM Au Y W0:=⟨o.d,o.mem,o.ops,o.all,⟨B,bK hB hb0.size,o.d.au B w W0 hAu (fun k hk=>hb0.block k (by omega))⟩,o.vn,o.vo⟩;have HRp:=aA (RO o0.d q0 o0.mem o0.ops o0.all B (bK hB hb0.size) (o.d.au B w W0 hAu (fun k hk=>hb0.block k (by omega))) a1 a2 l1 c1 l2 c2 RT hvo (t:Int) (((Y.th t).ended:Int)-1));have c7:W0.cell? ⟨L.b,7,none⟩=some (.slice (some ⟨L.g,0,none⟩) L.n L.gc):=q0.dV rfl;have cp:=q0.ptr t ht;have t3:W0.cell? ⟨L.bT t,3,none⟩=some (.int .i64 ((Y.th t).part:Int)):=q0.dR ht rfl;have t1:W0.cell? ⟨L.bT t,1,none⟩=some (.int .i64 ((Y.th t).ended:Int)):=q0.dR ht rfl;rw [hp] at t3;have HR0:=aA hR0;have fG:=aA hb0;have hz0:w.heap.size<W0.heap.size:=hR0.lt;clear pT h o q0 o0 hb0 hR0 hc he;go_wp2_with fail;refine HRp.out.mono ?_;rintro e w1 ⟨vh,an,rfl,hM,hfr,eN,aj⟩;obtain ⟨va,vl,vc,rfl⟩:=HD.out.form _ _ _ hM;have e9:yH L (.slice va vl vc)=[.int .i64 L.kind,.int .i64 L.st,.int .i64 L.co,.slice a1 l1 c1,.slice a2 l2 c2,.slice va vl vc]:=by unfold yH;rw [RT,hvo]
 have hAN:=aj t rfl HCT.out;subst hAN;have yG:=HR0.out.old eN;have y0:=yG.cell_of (i:=0) rfl;have y1:=yG.cell_of (i:=1) rfl;have z0:=yG.frozen 0;have z1:=yG.frozen 1;have pX:=aA yG;have oU:=aA (aS fG.out eN fG.out.size);have hz1:w.heap.size<w1.heap.size:=yG.lt;rw [e9];clear hM hfr eN e9 aj yG;go_wp2_with fail;have q2:=(((pX.out.set 0 (.int .i64 ((gU P Y Y.order.length).an t).s)).set 1 (.int .i64 ((gU P Y Y.order.length).an t).v)).alloc (.cells #[.int .i64 L.kind,.int .i64 L.st,.int .i64 L.co,.slice a1 l1 c1,.slice a2 l2 c2,.slice va vl vc] 159)).alloc (.cells #[.int .i64 ((gU P Y Y.order.length).an t).s,.int .i64 ((gU P Y Y.order.length).an t).v] 94);have x1:=q2.cell_of (i:=0) rfl;have x2:=q2.cell_of (i:=1) rfl;refine cR (v:=.tuple #[.agg #[.int .i64 ((gU P Y Y.order.length).an t).s,.int .i64 ((gU P Y Y.order.length).an t).v],.int .i64 0]) (by simp [results,results54,go_sem,x1,x2]) rfl ⟨rfl,?_⟩;exact (((oU.out.setCell (by simp) _).setCell (by simp) _).alloc (by simp;omega) _).alloc (by simp;omega) _
end
end Go.Proofs.YtefjhnhdagolhaaGreat
