import Derived.Test.YtefjhnhdagolhaaGreatA25
import Derived.Test.YtefjhnhdagolhaaGreatA22
import Derived.Test.YtefjhnhdagolhaaGreatA13
set_option maxHeartbeats 2000000
set_option maxRecDepth 20000
namespace Go.Proofs.YtefjhnhdagolhaaGreat
open Tryz
open Go.RowKit
open M (aM aC aD aR bJ cnt marks tagged num YI)
attribute [local go_sem ↓] Go.wp_at_zero Go.wp_at_succ
def MA (x:Int):Prop:=-9223372036854775808≤x∧x≤9223372036854775807
structure AK where
 k:Int
 t:Int
 n:Int
 c:Int
 a:Int
 b:Int
def AK.val (x:AK):Value:=.agg #[.int .i64 x.k,.int .i64 x.t,.int .i64 x.n,.int .i64 x.c,.int .i64 x.a,.int .i64 x.b]
section
variable {σ:Type} {P:M.Plain σ} {tell:σ→List Int} {sz:σ→Nat} {HM:World→Value→σ→Prop} {D:DL} {X:(Nat→Prop)→aR→World→Prop} {A:LL} {Y:aR} {w:World} {sJ sN sI sL sM sO sK Z K:Nat} {U:Nat→Prop}
def pE (P:M.Plain σ) (tell:σ→List Int) (D:DL):Prop:=∀ Y,YI P D.n D.cap Y→jM D 1000000000 Y→(tell (gU P Y Y.order.length).st).length≤1000000000000
theorem aCA (xo:BZ P tell D A.tE A.bN X sJ sN sI sL sM sO sK) (ds:DS P tell sz HM oR D) (tf:pE P tell D) (h:AD P D X A Z U Y w) (hK:jM D K Y) (KN:K+10000≤900000000) (hZ:Z≤100000000000) (x:AK) (ht:MA x.t) (hn:MA x.n) :
  Calls prog 18 #[.pointer (some ⟨A.bL,0,none⟩),x.val] w fun e w'=>e = .returned (.bool true)∧∃ Y',yO P D X A (Z+4) U w Y' w'∧jM D (K+4000) Y':=by
 have hT:(tell (gU P Y Y.order.length).st).length≤1000000000000:=by
  obtain ⟨SX,SD,T,bZ,ms,is,qD,qE,hl,-⟩:=h.ex;exact tf Y hl.d.yi (hK.mono (by omega))
 have same:∀ {e:Ending} {w':World},(e = .returned (.bool true)∧yO P D X A Z U w Y w')→e = .returned (.bool true)∧∃ Y',yO P D X A (Z+4) U w Y' w'∧jM D (K+4000) Y':=fun q=>⟨q.1,_,q.2.more (by omega),hK.mono (by omega)⟩
 have aDT:∀ {e:Ending} {w':World},(e = .returned (.bool true)∧yO P D X A (Z+4) U w Y w')→e = .returned (.bool true)∧∃ Y',yO P D X A (Z+4) U w Y' w'∧jM D (K+4000) Y':=fun q=>⟨q.1,_,q.2,hK.mono (by omega)⟩
 have more:∀ {e:Ending} {w':World},(e = .returned (.bool true)∧∃ Y',yO P D X A Z U w Y' w'∧jM D (K+4000) Y')→e = .returned (.bool true)∧∃ Y',yO P D X A (Z+4) U w Y' w'∧jM D (K+4000) Y':=fun q=>by
  obtain ⟨q1,Y',q2,q3⟩:=q;exact ⟨q1,Y',q2.more (by omega),q3⟩
 obtain ⟨k,t,n,c,a,b⟩:=x;unfold AK.val
 by_cases k0:k<1∨8<k
 ·exact (aAh xo h t n c a b k k0).mono fun _ _=>same
 ·have hk:k=1∨k=2∨k=3∨k=4∨k=5∨k=6∨k=7∨k=8:=by omega
  rcases hk with rfl|rfl|rfl|rfl|rfl|rfl|rfl|rfl
  ·exact (qx xo ds h hK KN t n c a b).mono fun _ _=>more
  ·exact (rj xo ds h hK KN t n c a b ht.1 ht.2 hn.1 hn.2).mono fun _ _=>more
  ·exact (rm xo ds h hK KN t n c a b ht.1 ht.2 hn.1 hn.2).mono fun _ _=>more
  ·exact (aEo xo ds h hK KN t n c a b).mono fun _ _=>more
  ·exact (cy xo ds h hK KN t n c a b).mono fun _ _=>same
  ·exact (qz xo ds h hK KN t n c a b hZ).mono fun _ _=>aDT
  ·exact (ri xo ds h hK KN t n c a b hZ hT).mono fun _ _=>aDT
  ·exact (qy xo h t n c a b).mono fun _ _=>same
theorem YP (h:AD P D X A Z U Y w) (hZ:Z≤100000000000) :
  Calls prog 19 #[.pointer (some ⟨A.bL,0,none⟩)] w fun e w'=>e = .returned (.bool true)∧Below w.heap.size w w':=by
 obtain ⟨SX,SD,T,bZ,ms,is,qD,qE,hl,-,z1,z2⟩:=h.ex;exact wo A.bL _ _ ms is qD qE 1099511627776 (bQ _) w hl.row hl.m.entries hl.i.entries (by omega) (by omega) (fun s k hs=>⟨by have:=(hl.m.LR _ hs).1;dsimp only at this;omega,(hl.m.LR _ hs).2.1⟩) (fun s k hs=>⟨by have:=(hl.i.LR _ hs).1;dsimp only at this;omega,(hl.i.LR _ hs).2.1⟩)
theorem aBm (xo:BZ P tell D A.tE A.bN X sJ sN sI sL sM sO sK) (ds:DS P tell sz HM oR D) (tf:pE P tell D) (h:AD P D X A Z U Y w) (hK:jM D 1000000000 Y) (hZ:Z≤90000000000) :
  Calls prog 20 #[.pointer (some ⟨A.bL,0,none⟩)] w fun e w'=>e = .returned (.bool true)∧yO P D X A (Z+8) U w Y w':=by
 obtain ⟨SX,SD,T,bZ,ms,is,qD,qE,hl,-⟩:=h.ex;obtain ⟨xV,LN,-⟩:=hl.d.n;have hT:=tf Y hl.d.yi hK;have c1:w.cell? ⟨A.bL,1,none⟩=some (.pointer (some ⟨D.b,0,none⟩)):=hl.row.cell_of rfl;have c7:w.cell? ⟨D.b,7,none⟩=some (.slice (some ⟨D.g,0,none⟩) D.n D.gc):=by obtain ⟨_,_,_,_,_,q⟩:=hl.d.doc;exact q.dV rfl
 have HC:=aA (aP c1 c7);have HA:=aA (fun (W:World) (hb:Below w.heap.size w W) (x:Int)=>RZ xo ds (h.at xo hb) hK x);have HO:=aA (fun (W:World) (hb:Below w.heap.size w W)=>SB xo ds (h.at xo hb) hK (by omega));have HS:=aA (fun (W:World) (U':Nat→Prop) (hw:AD P D X A (Z+4) U' Y W)=>SC xo ds hw hK (by omega) hT);have HX:=aA xo;clear hl h c1 c7 xo ds tf hK hT;go_enter func20,ntmps20;go_wp2
 go_loopw [3] (fun i w'=>∃ k:Nat,k≤D.n+2∧i = .int .i64 ((k:Int)-1)∧Below w.heap.size w w') (fun i _=>D.n+2-(intOf i+1).toNat)
 case atStart=>exact ⟨0,aW _,rfl,aT _ _⟩
 case round =>
  obtain ⟨k,hk,rfl,hB⟩:=hrel;have c1:=aI hB HC.out.1;have c7:=aI hB HC.out.2
  by_cases hlt:k<D.n+2
  ·have hlt':(k:Int)-1≤(D.n:Int):=by omega
   have HAk:=aA (HA.out _ hB ((k:Int)-1));have HB:=aA hB;clear hB;go_wp2_with fail;refine HAk.out.mono ?_;rintro e w1 ⟨rfl,eN⟩;have oU:=aA (aS HB.out eN HB.out.size);clear eN c1 c7;go_wp2;go_roundw
   case rel=>exact ⟨k+1,by omega,by go_num,oU.out⟩
   case measure=>simp [intOf];omega
  ·have hlt':¬(k:Int)-1≤(D.n:Int):=by omega
   have HOk:=aA (HO.out _ hB);have HB:=aA hB;clear hB;go_wp2_with fail;refine HOk.out.mono ?_;rintro e w1 ⟨rfl,g1⟩;go_wp2_with fail;refine (HS.out _ _ g1.law).mono ?_;rintro e w2 ⟨rfl,g2⟩;have g12:=g1.next g2;go_wp2_with fail;refine (SA HX.out g12.law).mono ?_;rintro e w3 ⟨rfl,b3⟩;have l3:=g12.law.at HX.out b3;go_wp2_with fail;refine (YP l3 (by omega)).mono ?_;rintro e w4 ⟨rfl,b4⟩;have b34:=aS b3 b4 b3.size;have HF:=aA ((g12.next (g12.law.below HX.out b34)).made HB.out);clear g1 g2 g12 b3 l3 b4 b34;go_wp2_with fail;go_ret;exact ⟨rfl,HF.out⟩
end
end Go.Proofs.YtefjhnhdagolhaaGreat
namespace Go.Proofs.YtefjhnhdagolhaaGreat
open Tryz
open Go.RowKit
open M (aM aC aD aR bJ cnt marks tagged num YI)
theorem yf {w:World} {b:Nat} {t:TypeId} {m:Nat} (h:Row w b t (zeros (.int .i64 0) m)):Fn w b t m (fun _=>.int .i64 0):=by
 have e:zeros (.int .i64 0) m=(List.range m).map (fun _=>Value.int .i64 0):=by
  apply List.ext_getElem
  ·simp [zeros]
  ·intro i h1 h2;simp [zeros]
 unfold Fn;rw [←e];exact h
theorem aMq {n g b:Nat} {bT bF:Nat→Nat} (hiT:∀ s t,s<n→t<n→bT s=bT t→s=t) (hiF:∀ s t,s<n→t<n→bF s=bF t→s=t) (hx:∀ s t,s<n→t<n→bT s≠bF t)
  (h1:∀ t,t<n→bT t≠g) (h2:∀ t,t<n→bF t≠g) (h3:∀ t,t<n→bT t≠b) (h4:∀ t,t<n→bF t≠b) (h5:b≠g) :
  ∃ bZ:Nat→Nat,bZ b=0∧bZ g=1∧(∀ t,t<n→bZ (bT t)=4*t+4)∧∀ t,t<n→bZ (bF t)=4*t+5:=by
 classical
 refine ⟨fun k=>if h:∃ t,t<n∧k=bT t then 4*h.choose+4 else if h:∃ t,t<n∧k=bF t then 4*h.choose+5 else if k=g then 1 else 0,?_,?_,fun t ht=>?_,fun t ht=>?_⟩
 ·dsimp only
  rw [dif_neg (fun ⟨s,hs,e⟩=>h3 s hs e.symm),dif_neg (fun ⟨s,hs,e⟩=>h4 s hs e.symm),aN h5]
 ·dsimp only
  rw [dif_neg (fun ⟨s,hs,e⟩=>h1 s hs e.symm),dif_neg (fun ⟨s,hs,e⟩=>h2 s hs e.symm),aJ rfl]
 ·dsimp only
  have h:∃ s,s<n∧bT t=bT s:=⟨t,ht,rfl⟩;rw [dif_pos h];have:=hiT _ _ ht h.choose_spec.1 h.choose_spec.2;omega
 ·dsimp only
  have h:∃ s,s<n∧bF t=bF s:=⟨t,ht,rfl⟩;rw [dif_neg (fun ⟨s,hs,e⟩=>hx s t hs ht e.symm),dif_pos h];have:=hiF _ _ ht h.choose_spec.1 h.choose_spec.2;omega
theorem DW.new {σ:Type} (P:M.Plain σ) {w0 w:World} {kind:Int} {n cap:Nat} {st co:Int} {nx ou:List Int} {vn vo:Value} {b:Nat} (h:tP w0 kind n (cap:Int) st co nx ou vn vo b w) (hn:1≤n) (vO:n≤64) (hc:cap≤64) :
  ∃ (D:DL) (S:Nat→Prop),D.b=b∧D.n=n∧D.cap=cap∧D.kind=kind∧D.st=st∧D.co=co∧D.nx=nx∧D.ou=ou∧((kind≠5∧D.vn=vn∧D.vo=vo)∨(kind=5∧∃ g1 g2,D.vn = .slice (some ⟨g1,0,none⟩) nx.length nx.length∧D.vo = .slice (some ⟨g2,0,none⟩) ou.length ou.length)) ∧
   (∀ k,S k→w0.heap.size≤k∧k<w.heap.size)∧DW P oR D S M.Y0 w:=by
 obtain ⟨W1,ax,PN,v,bT,bF,rfl,hb,hI,hv⟩:=h;obtain ⟨hE,hO,hT,hD,hB⟩:=hI;obtain ⟨hl,⟨rfl,hn0⟩|⟨g,gc,cur,rfl,DU,hg,hnc,hcm,hcs,yw⟩⟩:=hO
 ·omega
 ·have lg:g<w.heap.size:=by have:=Array.getElem?_eq_some_iff.mp hg;exact this.1
  have hz:=hb.size;have hiT:∀ s t,s<n→t<n→bT s=bT t→s=t:=fun s t hs ht q=>by
   rcases Nat.lt_trichotomy s t with c|c|c
   ·exact absurd q (hD s t c ht).1
   ·exact c
   ·exact absurd q.symm (hD t s c hs).1
  have hiF:∀ s t,s<n→t<n→bF s=bF t→s=t:=fun s t hs ht q=>by
   rcases Nat.lt_trichotomy s t with c|c|c
   ·exact absurd q (hD s t c ht).2.2.2
   ·exact c
   ·exact absurd q.symm (hD t s c hs).2.2.2
  have hx:∀ s t,s<n→t<n→bT s≠bF t:=fun s t hs ht q=>by
   rcases Nat.lt_trichotomy s t with c|c|c
   ·exact absurd q (hD s t c ht).2.1
   ·subst c;exact (hT s hs).2.2.2.2.2.2 q
   ·exact absurd q.symm (hD t s c hs).2.2.1
  have hgT:∀ t,t<n→bT t≠g:=fun t ht q=>(hT t ht).2.2.2.2.1 (by rw [q];rfl)
  have hgF:∀ t,t<n→bF t≠g:=fun t ht q=>(hT t ht).2.2.2.2.2.1 (by rw [q];rfl)
  obtain ⟨bZ,q0,q1,q2,q3⟩:=aMq (b:=W1.heap.size) hiT hiF hx hgT hgF (fun t ht=>by have:=(hT t ht).2.2.1;omega) (fun t ht=>by have:=(hT t ht).2.2.2.1;omega) (by omega)
  let D:DL:={b:=W1.heap.size,n:=n,cap:=cap,g:=g,gc:=gc,bT:=bT,bF:=bF,kind:=kind,st:=st,co:=co,vn:=ax,vo:=PN,nx:=nx,ou:=ou}
  have dr:DR D (fun k=>w0.heap.size≤k∧k<w.heap.size) M.Y0 w (fun k=>if k<W1.heap.size then 7 else bZ k) (fun _=>.slice none 0 0) (fun _=>.slice none 0 0) (.slice none 0 0) (fun _=>.slice none 0 0):={
   n1:=hn
   n64:=vO
   RK:=hc
   obj:=hE
   PV:=⟨⟨hz,hE.lt⟩,(aN (Nat.lt_irrefl _)).trans q0⟩
   ptr:=fun t ht=>by
    rw [cell_of_row w g _ cur _ _ hg];have:(ptrs bT n)[t]?=some (.pointer (some ⟨bT t,0,none⟩)):=by simp [ptrs,zY (show t<n from ht)]
    rw [←yw,IZ] at this
    split at this
    ·simpa using this
    ·cases this
   av:=⟨⟨by show w0.heap.size≤g;omega,lg⟩,(aN (show ¬g<W1.heap.size by omega)).trans q1⟩
   th:=fun t ht=>(hT t ht).1
   PW:=fun t ht=>⟨⟨by have:=(hT t ht).2.2.1;show w0.heap.size≤bT t;omega,(hT t ht).1.lt⟩,(aN (show ¬bT t<W1.heap.size by have:=(hT t ht).2.2.1;omega)).trans (q2 t ht)⟩
   fl:=fun t ht=>yf (hT t ht).2.1
   PT:=fun t ht=>⟨⟨by have:=(hT t ht).2.2.2.1;show w0.heap.size≤bF t;omega,(hT t ht).2.1.lt⟩,(aN (show ¬bF t<W1.heap.size by have:=(hT t ht).2.2.2.1;omega)).trans (q3 t ht)⟩
   ops:=fun t ht=>jZ _ _ _ _
   BB:=fun t ht k e=>by cases e
   TL:=jZ _ _ _ _
   CA:=fun k e=>by cases e
   ez:=fun i hi=>absurd hi (pY _)
   FB:=fun i hi=>absurd hi (pY _)
   MP:=fun t ht=>bx.nil _
   JV:=fun t ht k e=>by cases e
   lt:=fun k hk=>hk.2
   au:=fun k5=>by
    rcases hv with ⟨h1,-⟩|⟨-,g1,g2,h2,h3,h4,h5,h6,h7⟩
    ·exact absurd k5 h1
    ·have z6:=h6.lt
     have z7:=h7.lt;have z:=hB.size;exact ⟨g1,g2,h2,h3,h6.old hB,h7.old hB,⟨⟨h4,by omega⟩,aJ z6⟩,⟨h5,by omega⟩,aJ z7⟩}
  refine ⟨D,fun k=>w0.heap.size≤k∧k<w.heap.size,rfl,rfl,rfl,rfl,rfl,rfl,rfl,rfl,?_,fun k hk=>hk,⟨_,_,_,_,_,dr⟩,YI.new P n cap,0,fun _ _=>aW _,aW _,trivial⟩
  rcases hv with ⟨h1,rfl,rfl⟩|⟨h1,g1,g2,h2,h3,h4,h5,h6,h7⟩
  ·exact .inl ⟨h1,rfl,rfl⟩
  ·exact .inr ⟨h1,g1,g2,h2,h3⟩
theorem AD.new {σ:Type} {P:M.Plain σ} {tell:σ→List Int} {D:DL} {X:(Nat→Prop)→aR→World→Prop} {A:LL} {SX SD:Nat→Prop} {Y:aR} {sJ sN sI sL sM sO sK:Nat} (xo:BZ P tell D A.tE A.bN X sJ sN sI sL sM sO sK) {B:Nat} {w1 wr w:World}
  (hd:DW P oR D SD Y w1) (hdB:∀ k,SD k→B≤k∧k<w1.heap.size) (hx:X SX Y wr) (hxB:∀ k,SX k→w1.heap.size≤k∧k<wr.heap.size∧k≠A.bX) (hbX:w1.heap.size≤A.bX) (hB:B≤w1.heap.size) (eN:Below w1.heap.size w1 wr) (hb:Below wr.heap.size wr w)
  (hoX:Row wr A.bX 74 [.iface A.tE (.pointer (some ⟨A.bN,0,none⟩))]) (hL:A.bL=wr.heap.size) (hrow:Row w A.bL 90 [.pointer (some ⟨A.bX,0,none⟩),.pointer (some ⟨D.b,0,none⟩),.slice none 0 0,.slice none 0 0]) :
  AD P D X A 0 (fun k=>B≤k∧k<w.heap.size) Y w:=by
 have z1:=eN.size;have z2:=hb.size;have lX:=hoX.lt;have lL:=hrow.lt;have bI:=aS eN hb z1;refine ⟨⟨SX,SD,fun _=>False,fun _=>0,.slice none 0 0,.slice none 0 0,[],[],?_,?_,bQ _,bQ _⟩,fun k hk=>hk.2⟩
 ·exact {
   row:=hrow
   obj:=hoX.old hb
   x:=xo.stay _ _ _ _ _ hx (fun k hk=>hb.block k (hxB k hk).2.1) (fun _ q=>q) (fun k hk=>by have:=hxB k hk;omega)
   xl:=fun k hk=>by have:=hxB k hk;omega
   d:=hd.SN (fun k hk=>bI.block k (hdB k hk).2) (by omega)
   m:=⟨jZ _ _ _ _,fun k e=>(by cases e),fun e he=>(by cases he)⟩
   i:=⟨jZ _ _ _ _,fun k e=>(by cases e),fun e he=>(by cases he)⟩
   tl:=fun k hk=>hk.elim
   dx:=fun k hk=>by have:=hxB k hk;exact ⟨fun c=>by have:=hdB k c;omega,fun c=>c,by omega,by omega⟩
   dd:=fun k hk=>by have:=hdB k hk;exact ⟨fun c=>c,by omega,by omega⟩
   dt:=fun k hk=>hk.elim
   ne:=by omega}
 ·rintro k (c|c|c|c|c)
  ·have:=hxB k c;exact ⟨by omega,by omega⟩
  ·have:=hdB k c;exact ⟨by omega,by omega⟩
  ·exact c.elim
  ·exact ⟨by omega,by omega⟩
  ·exact ⟨by omega,by omega⟩
theorem jM.new (D:DL):jM D 0 M.Y0:=⟨fun _ _=>bQ _,bQ _⟩
attribute [local go_sem ↓] Go.wp_at_zero Go.wp_at_succ
def Scr (w:World) (v:Value) (l:List AK):Prop :=
 ∃ a c,v = .slice a l.length c∧(0<l.length→∃ g off,a=some ⟨g,off,none⟩∧∀ (i:Nat) (x:AK),l[i]?=some x →
  w.cell? ⟨g,off+i*6,none⟩=some (.int .i64 x.k)∧w.cell? ⟨g,off+i*6+1,none⟩=some (.int .i64 x.t)∧w.cell? ⟨g,off+i*6+2,none⟩=some (.int .i64 x.n)∧w.cell? ⟨g,off+i*6+3,none⟩=some (.int .i64 x.c)∧w.cell? ⟨g,off+i*6+4,none⟩=some (.int .i64 x.a)∧w.cell? ⟨g,off+i*6+5,none⟩=some (.int .i64 x.b))
theorem AR {w0 w w':World} {U:Nat→Prop} (h:Below w0.heap.size w0 w) (hf:Fr U w w') (hU:∀ k,U k→w0.heap.size≤k):Below w0.heap.size w0 w' :=
 ⟨hf.os.trans h.os,hf.tape.trans h.tape,hf.output.trans h.output,bK h.size hf.size,fun k hk=>(hf.block k (cH hk h.size) (fun c=>by have:=hU k c;omega)).trans (h.block k hk)⟩
section
variable {σ:Type} {P:M.Plain σ} {tell:σ→List Int} {sz:σ→Nat} {HM:World→Value→σ→Prop} {D:DL} {X:(Nat→Prop)→aR→World→Prop} {A:LL} {Y:aR} {w w0:World} {sJ sN sI sL sM sO sK Z K:Nat} {U:Nat→Prop}
end
end Go.Proofs.YtefjhnhdagolhaaGreat
