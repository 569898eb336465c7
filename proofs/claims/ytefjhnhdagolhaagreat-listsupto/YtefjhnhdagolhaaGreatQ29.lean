import Derived.Test.YtefjhnhdagolhaaGreatQ28
namespace Go.Proofs.YtefjhnhdagolhaaGreat
open Go.RowKit
open M (aI aC aD aR aT cnt marks tagged num)
attribute [local go_sem ↓] Go.wp_at_zero Go.wp_at_succ
theorem nI {w1 w2:World} {b1 o1 b2 o2 b3 o3 b4 o4 b5 o5 b6 o6:Nat} {v1 v2 v3 v4 v5:Value} {xs:List Value}
  (h:w1.cell? ⟨b1,o1,none⟩=some v1∧w1.cell? ⟨b2,o2,none⟩=some v2∧w1.cell? ⟨b3,o3,none⟩=some v3∧w1.cell? ⟨b4,o4,none⟩=some v4∧w1.cell? ⟨b5,o5,none⟩=some v5∧w1.rangeAt b6 o6 xs)
  {K:Nat→Prop} (hK:K b1∧K b2∧K b3∧K b4∧K b5∧K b6) (hk:∀ k,K k→w2.heap[k]?=w1.heap[k]?) :
  w2.cell? ⟨b1,o1,none⟩=some v1∧w2.cell? ⟨b2,o2,none⟩=some v2∧w2.cell? ⟨b3,o3,none⟩=some v3∧w2.cell? ⟨b4,o4,none⟩=some v4∧w2.cell? ⟨b5,o5,none⟩=some v5∧w2.rangeAt b6 o6 xs :=
 ⟨bM h.1 (hk _ hK.1),bM h.2.1 (hk _ hK.2.1),bM h.2.2.1 (hk _ hK.2.2.1),bM h.2.2.2.1 (hk _ hK.2.2.2.1),bM h.2.2.2.2.1 (hk _ hK.2.2.2.2.1),fun j v hv=>bM (h.2.2.2.2.2 j v hv) (hk _ hK.2.2.2.2.2)⟩
def KR (wr:World) (b8:Nat) (vh:Value) (x:Nat):Prop:=x<wr.heap.size∧x≠b8∧vh.ownBlock≠some x
def XM {σ:Type} (P:M.Plain σ) (Y:aR) (tq q:Int) (u:Nat) (an:M.MD):Prop:=∀ t0:Nat,tq=t0→(((Y.bs.flatten.take u).count t0:Nat):Int)=q+1→an=(eK P Y u).an t0
def RpL {σ:Type} (L:DL) (P:M.Plain σ) (HM:World→Value→σ→Prop) (sz:σ→Nat) (Y:aR) (w:World) (b8:Nat) (vl:Value) (tq q:Int) (i:Value) (w':World):Prop :=
 ∃ (u:Nat) (vh:Value) (an:M.MD),u≤Y.order.length∧i = .int .i64 (u:Int)∧rR L HM Y w b8 vl (eK P Y u).st vh an w'∧sz (eK P Y u).st≤2+2*u∧XM P Y tq q u an
set_option maxRecDepth 20000 in
set_option maxHeartbeats 8000000 in
theorem AZ {σ:Type} {L:DL} {P:M.Plain σ} {tell:σ→List Int} {sz:σ→Nat} {HM:World→Value→σ→Prop} {Au:Nat→World→Prop} {S:Nat→Prop} {Y:aR} {w:World} {bC:Nat→Nat} {vo vp:Nat→Value} {vb:Value} {bv:Nat→Value}
  (hD:VX L P tell sz HM Au) (h:DR L S Y w bC vo vp vb bv) (hmem:∀ b∈Y.bs,∀ k∈b,k<L.n) (aDk:∀ t,t<L.n→cnt Y.bs t≤(Y.th t).ops.length) (hA:Y.bs.flatten.length≤100000000000) (B:Nat) (hB:B≤w.heap.size) (hAu:Au B w) (a1 a2:Option Addr) (l1 c1 l2 c2:Nat) (PN:L.vn = .slice a1 l1 c1) (VY:L.vo = .slice a2 l2 c2) (tq q:Int) :
  Calls Tryz.prog 88 #[.pointer (some ⟨L.b,0,none⟩),.int .i64 tq,.int .i64 q] w fun e w'=>∃ vh an,e = .returned (.tuple #[.agg (vM L vh).toArray,.agg #[.int .i64 an.s,.int .i64 an.v]])∧HM w' vh (eK P Y Y.order.length).st∧(∀ k,vh.ownBlock=some k→w.heap.size≤k)∧Below w.heap.size w w'∧XM P Y tq q Y.order.length an:=by
 have HR:=aA h
 obtain ⟨-,k0,k1,k2,k3,k4,k5,k6⟩:True∧w.cell? ⟨L.b,0,none⟩=some (.int .i64 L.kind)∧w.cell? ⟨L.b,1,none⟩=some (.int .i64 (L.n:Int))∧w.cell? ⟨L.b,2,none⟩=some (.int .i64 (L.cap:Int))∧w.cell? ⟨L.b,3,none⟩=some (.int .i64 L.st)∧w.cell? ⟨L.b,4,none⟩=some (.int .i64 L.co)∧w.cell? ⟨L.b,5,none⟩=some (.slice a1 l1 c1)∧w.cell? ⟨L.b,6,none⟩=some (.slice a2 l2 c2) :=
  ⟨trivial,h.cS rfl,h.cS rfl,h.cS rfl,h.cS rfl,h.cS rfl,by rw [←PN];exact h.cS rfl,by rw [←VY];exact h.cS rfl⟩
 have hlt:L.b<w.heap.size:=World.block_lt_of_cell? w _ k0
 have OW:¬L.b=w.heap.size:=by omega
 have XN:¬L.b=w.heap.size+1:=by omega
 have HF:=aA (fun W=>hD.first W)
 rw [PN,VY] at HF
 have HD:=aA hD
 have HAU:=aA hAu
 have LD:=aA hmem
 have aGg:=aA aDk
 clear h hD hAu hmem aDk
 go_enter Tryz.func88,Tryz.ntmps88
 go_wp2_with fail
 refine (HF.out _).mono ?_
 rintro e w1 ⟨vh0,rfl,hM0,aDl,dU⟩
 obtain ⟨ha,hl,hc,rfl⟩:=HD.out.form _ _ _ hM0
 have hN:Row w1 w.heap.size 159 [.int .i64 0,.int .i64 0,.int .i64 0,.slice none 0 0,.slice none 0 0,.slice none 0 0]:=((Row.new' rfl).alloc _).old dU
 have hM:Row w1 (w.heap.size+1) 94 [.int .i64 0,.int .i64 0]:=(Row.new' (by simp)).old dU
 have jW:=aA (Below.next (((Below.refl w.heap.size w).alloc (Nat.le_refl _) _).alloc (by simp) _) dU (by simp;omega))
 have hz1:w.heap.size+1<w1.heap.size:=hM.lt
 have HN:=aA hN
 have HMM:=aA hM
 have HM0:=aA hM0
 have HFR:=aA aDl
 have e9:vM L (.slice ha hl hc)=[.int .i64 L.kind,.int .i64 L.st,.int .i64 L.co,.slice a1 l1 c1,.slice a2 l2 c2,.slice ha hl hc]:=by unfold vM;rw [PN,VY]
 rw [e9]
 clear hN hM dU hM0 aDl k0 k1 k2 k3 k4 k5 k6
 go_wp2_with fail
 generalize nV:World.alloc (World.alloc w1 _) _=W3
 have cH:Below w1.heap.size w1 W3:=by rw [←nV];exact ((Below.refl _ _).alloc (Nat.le_refl _) _).alloc (by simp) _
 have hP:Row W3 w1.heap.size 159 (vM L (.slice ha hl hc)):=by rw [←nV,e9];exact (Row.new' rfl).alloc _
 have hA9:Row W3 (w1.heap.size+1) 94 [.int .i64 0,.int .i64 0]:=by rw [←nV];exact Row.new' (by simp)
 have VL:w1.heap.size+1<W3.heap.size:=hA9.lt
 have HW3:=aA (And.intro cH (And.intro hP hA9))
 have hB3:Below w.heap.size w W3:=Below.next jW.out cH jW.out.size
 have HOr:=aA (GI (HR.out.stay (w':=W3) (S':=S) (fun k hS=>hB3.block k (HR.out.lt k hS)) (fun _ h=>h) (fun k hS=>Nat.lt_of_lt_of_le (HR.out.lt k hS) hB3.size)) (by omega))
 have pY:=aA hB3
 clear nV hP hA9 cH hB3
 refine HOr.out.mono ?_
 rintro e w4 ⟨vl,rfl,hO4,eF⟩
 have hJ:rR L HM Y w w1.heap.size vl (eK P Y 0).st (.slice ha hl hc) ⟨0,0⟩ w4:=by
  have hz4:=eF.size
  refine ⟨Below.next pY.out eF pY.out.size,HW3.out.2.1.old eF,?_,fun k e=>?_,by omega,HW3.out.2.2.old eF,(HN.out.old HW3.out.1).old eF,(HMM.out.old HW3.out.1).old eF,dV hO4 (by omega)⟩
  ·refine HD.out.stay _ _ _ _ HM0.out fun k e=>?_
   have:=HD.out.lt _ _ _ HM0.out k e
   rw [eF.block k (by omega),HW3.out.1.block k this]
  ·have q1:=HFR.out k e
   have q2:=HD.out.lt _ _ _ HM0.out k e
   refine ⟨by simpa using q1,by omega,by omega,fun c=>?_⟩
   have:=(hO4.lt k c).1
   omega
 have HJ:=aA hJ
 obtain ⟨⟨la,lc,rfl⟩,-⟩:=bG hO4
 clear hO4 eF hJ HOr HM0 HFR e9
 have aJT:Y.order.length≤Y.bs.flatten.length:=Nat.le_of_eq (gA Y)
 have aJU:Y.bs.flatten.length≤Y.order.length:=Nat.le_of_eq (gA Y).symm
 have aJV:Y.order.length≤100000000000:=by omega
 generalize hb8:w1.heap.size=b8 at *
 go_wp2_with fail
 go_loopw [11] (fun i w'=>RpL L P HM sz Y w b8 (.slice la Y.order.length lc) tq q i w') (fun i _=>Y.order.length-(intOf i).toNat)
 case atStart =>
  refine ⟨0,_,_,Nat.zero_le _,rfl,HJ.out,HD.out.sz0,fun t0 _ _=>rfl⟩
 case round =>
  obtain ⟨u,vh,an,hu,rfl,hJ,hsz,AP⟩:=hrel
  have hB:=hJ.below
  have c7:wr.cell? ⟨L.b,7,none⟩=some (.slice (some ⟨L.g,0,none⟩) L.n L.gc):=cell_later hB (HR.out.cS rfl)
  have DQ:=aA hJ
  have VZ:=aA AP
  by_cases AX:u<Y.order.length
  ·have aBe:(u:Int)<(Y.order.length:Int):=by omega
   have hu0:(0:Int)≤(u:Int):=by omega
   have huf:u<Y.bs.flatten.length:=by omega
   obtain ⟨o1,o2⟩:=PM Y u AX huf
   obtain ⟨k,hk⟩:∃ k,k=Y.bs.flatten[u]:=⟨_,rfl⟩
   obtain ⟨sq,hsq⟩:∃ sq,sq=(Y.bs.flatten.take u).count k:=⟨_,rfl⟩
   rw [←hk] at o1
   rw [←hk,←hsq] at o2
   have hkn:k<L.n:=by
    have:k∈Y.bs.flatten:=by rw [hk];exact List.getElem_mem huf
    obtain ⟨b,hb,hkb⟩:=List.mem_flatten.1 this
    exact LD.out b hb k hkb
   have hcs:=rO Y.bs.flatten u huf k
   rw [←hk,if_pos rfl,←hsq] at hcs
   have rW:sq<(Y.th k).ops.length:=by
    have h1:=qN Y.bs.flatten (u+1) k
    have h2:=aGg.out k hkn
    unfold cnt at h2
    omega
   obtain ⟨op,hop⟩:∃ op,op=(Y.th k).ops[sq]:=⟨_,rfl⟩
   have aBh:((Y.th k).ops).getD sq ⟨0,0,0⟩=op:=by rw [hop];simp [List.getD,List.getElem?_eq_getElem rW]
   obtain ⟨ap,hap⟩:∃ ap,ap=P.apply (eK P Y u).st op:=⟨_,rfl⟩
   have hnx:=AY P Y u huf
   rw [←hk] at hnx
   have hc9:(eK P Y u).c k=sq:=by rw [aBf,←hsq]
   have sS:=aA (show (eK P Y (u+1)).st=ap.1 by rw [hnx];simp only [M.Rp.next,hc9,aBh,←hap])
   have aDq:(eK P Y (u+1)).an k=ap.2:=by rw [hnx];simp only [M.Rp.next,hc9,aBh,←hap,aC]
   have aDr:∀ t0,t0≠k→(eK P Y (u+1)).an t0=(eK P Y u).an t0:=fun t0 fG=>by rw [hnx];simp only [M.Rp.next,aD _ _ fG]
   have yB:=aA (show sz (eK P Y (u+1)).st≤2+2*u+2 by rw [sS.out,hap];have:=HD.out.vU (eK P Y u).st op;omega)
   have ZD:=aA (show (k:Int)=tq→(sq:Int)=q→XM P Y tq q (u+1) ap.2 from fun h1 h2 t0 fG _=>by
    have:t0=k:=by omega
    rw [this,aDq])
   have QN:=aA (show ¬((k:Int)=tq∧(sq:Int)=q)→XM P Y tq q (u+1) an from fun hn t0 fG hct=>by
    by_cases e:t0=k
    ·subst e
     rw [hcs] at hct
     exact absurd ⟨fG.symm,by omega⟩ hn
    ·rw [aDr t0 e]
     refine VZ.out t0 fG ?_
     have h9:=rO Y.bs.flatten u huf t0
     rw [←hk,if_neg (fun c=>e c.symm)] at h9
     rw [←hct,h9]
     rfl)
   have QO:=aA (And.intro o1 o2)
   obtain ⟨gl,cl,el,m1⟩:=dS hJ.ml (cZ Y.order u AX).2.1
   obtain ⟨gl',cl',el',m2⟩:=dS hJ.ml (cZ Y.order u AX).2.2
   injection el with el1 _ el2
   subst el1 el2
   injection el' with el1 _ el2
   injection el1 with el1
   injection el1 with el1
   subst el1
   clear el2
   rw [o1] at m1
   rw [o2] at m2
   have cp:=cell_later hB (HR.out.ptr k hkn)
   have og:=TQ (Y.th k).ops sq rW
   obtain ⟨go,oc,eo,g0⟩:=dS (HR.out.ops k hkn) og.1
   have g1:=(HR.out.ops k hkn).cells (g:=go) (by rw [eo];rfl) (sq*3+1) _ og.2.1
   have g2:=(HR.out.ops k hkn).cells (g:=go) (by rw [eo];rfl) (sq*3+2) _ og.2.2
   rw [eM,Nat.zero_add] at g1 g2
   rw [←hop] at g0 g1 g2
   have co:wr.cell? ⟨L.bT k,0,none⟩=some (.slice (some ⟨go,0,none⟩) (Y.th k).ops.length oc):=by rw [←eo];exact cell_later hB (HR.out.cR hkn rfl)
   have opr:wr.rangeAt go (sq*3) [.int .i64 op.c,.int .i64 op.a,.int .i64 op.b]:=fun j v hv=>by
    match j,hv with
    |0,hv=>injection hv with hv;subst hv;exact cell_later hB g0
    |1,hv=>injection hv with hv;subst hv;exact cell_later hB g1
    |2,hv=>injection hv with hv;subst hv;exact cell_later hB g2
   have aJX:(sq:Int)<((Y.th k).ops.length:Int):=by omega
   have aJY:(0:Int)≤(sq:Int):=by omega
   have aC6:(k:Int)<(L.n:Int):=by omega
   have EW:(0:Int)≤(k:Int):=by omega
   have UA:(Tryz.prog.info? 36).map (·.size)=some 3:=by kernel_rfl
   have HS0:=aA (And.intro c7 (And.intro m1 (And.intro m2 (And.intro cp (And.intro co opr)))))
   have UC:∀ x,x<w.heap.size→x<wr.heap.size∧x≠b8∧vh.ownBlock≠some x:=fun x hx=>⟨Nat.lt_of_lt_of_le hx hB.size,by have:=hJ.UB;omega,fun c=>by have:=(hJ.zG x c).1;omega⟩
   have HK:=aA (show KR wr b8 vh L.b∧KR wr b8 vh gl∧KR wr b8 vh gl∧KR wr b8 vh L.g∧KR wr b8 vh (L.bT k)∧KR wr b8 vh go from by
    have FB:gl<wr.heap.size∧gl≠b8∧vh.ownBlock≠some gl:=⟨(hJ.ml.lt gl rfl).2,by have:=(hJ.ml.lt gl rfl).1;omega,fun c=>(hJ.zG gl c).2.2.2 rfl⟩
    exact ⟨UC _ (HR.out.lt _ HR.out.zD.1),FB,FB,UC _ (HR.out.lt _ HR.out.IP.1),UC _ (HR.out.lt _ (HR.out.zE k hkn).1),UC _ (World.block_lt_of_cell? w _ g0)⟩)
   have aDs:sz (eK P Y u).st≤1000000000000:=by omega
   obtain ⟨ha5,hl5,OL,e5⟩:=HD.out.form _ _ _ hJ.hm
   have aGl:=aA aDs
   have TE:=aA hap
   have HDo:=aA (show ∀ W,Below wr.heap.size wr W→Calls Tryz.prog 114 #[.pointer (some ⟨b8,0,none⟩),.agg #[.int .i64 op.c,.int .i64 op.a,.int .i64 op.b]] W fun e w'=>e = .returned (.agg #[.int .i64 ap.2.s,.int .i64 ap.2.v])∧∃ jT,rR L HM Y w b8 (.slice (some ⟨gl,0,none⟩) Y.order.length lc) ap.1 jT an w'∧(∀ k,jT.ownBlock=some k→vh.ownBlock=some k∨W.heap.size≤k)∧Fr (fun k=>k=b8∨vh.ownBlock=some k) W w' from fun W hW=>by
    have hJw:=rR.later HD.out DQ.out hW
    refine (HD.out.does B W b8 vh (eK P Y u).st op (HD.out.au _ w _ HAU.out (fun x hx=>hJw.below.block x (by omega))) (by have:=DQ.out.UB;omega) hJw.pl hJw.hm (fun x hx=>⟨by have:=(DQ.out.zG x hx).1;omega,(DQ.out.zG x hx).2.1⟩) aGl.out).mono ?_
    rintro e w5 ⟨rfl,jT,jJ,hm5,UD,eP⟩
    rw [←hap] at hm5 ⊢
    exact ⟨rfl,jT,hJw.does jJ hm5 UD eP,fun k e=>(UD k e).2,eP⟩)
   clear hJ AP o1 o2 hk hsq hcs hop aBh hap hnx hc9 aDq aDr m1 m2 og g0 g1 g2 UC hsz aDs c7 cp co opr hB eo
   have RNX:=aA (show ¬(wr.heap.size=b8∨vh.ownBlock=some wr.heap.size) from by
    rintro (c|c)
    ·have:=DQ.out.pl.lt;omega
    ·have:=HD.out.lt _ _ _ DQ.out.hm _ c;omega)
   have IQ:=aA (show ∀ w5,Fr (fun k=>k=b8∨vh.ownBlock=some k) (wr.alloc (.cells #[.int .i64 0,.int .i64 0] 94)).drew w5→Row w5 wr.heap.size 94 [.int .i64 0,.int .i64 0] from fun w5 hf=>(show Row (wr.alloc (.cells #[.int .i64 0,.int .i64 0] 94)).drew wr.heap.size 94 [.int .i64 0,.int .i64 0] from Row.new wr [.int .i64 0,.int .i64 0] _).of_block (hf.block _ (by simp) RNX.out))
   have HJA:=aA (show ∀ w5 jT,rR L HM Y w b8 (.slice (some ⟨gl,0,none⟩) Y.order.length lc) ap.1 jT an w5→(∀ k,jT.ownBlock=some k→vh.ownBlock=some k∨wr.heap.size+1≤k)→Row w5 wr.heap.size 94 [.int .i64 0,.int .i64 0]→rR L HM Y w b8 (.slice (some ⟨gl,0,none⟩) Y.order.length lc) ap.1 jT an (w5.setCells wr.heap.size 0 [.int .i64 ap.2.s,.int .i64 ap.2.v])∧(w5.setCells wr.heap.size 0 [.int .i64 ap.2.s,.int .i64 ap.2.v]).rangeAt wr.heap.size 0 [.int .i64 ap.2.s,.int .i64 ap.2.v] from fun w5 jT hJ hv hr=>by
    have hz:=DQ.out.lt HD.out
    refine ⟨hJ.stay HD.out (fun x hx=>?_) ⟨rfl,rfl,rfl⟩ (by simp [World.setCells,World.setCell]),World.rangeAt_setCells_same _ _ _ _ (hr.there (by simp))⟩
    have hne:x≠wr.heap.size:=by
     rcases hx with q|q|q|q|q
     ·have:=hz x (.inl q);omega
     ·have:=hz x (.inr (.inl q));omega
     ·have:=hz x (.inr (.inr (.inl q)));omega
     ·rcases hv x q with q|q
      ·have:=hz x (.inr (.inr (.inr (.inl q))));omega
      ·omega
     ·have:=hz x (.inr (.inr (.inr (.inr q))));omega
    simp only [World.setCells]
    rw [Below.heap_setCell _ _ _ x hne,Below.heap_setCell _ _ _ x hne])
   have HJB:=aA (show ∀ w5 jT,rR L HM Y w b8 (.slice (some ⟨gl,0,none⟩) Y.order.length lc) ap.1 jT an w5→rR L HM Y w b8 (.slice (some ⟨gl,0,none⟩) Y.order.length lc) ap.1 jT an ((w5.alloc (.cells #[.int .i64 0,.int .i64 0] 94)).setCells w5.heap.size 0 [.int .i64 ap.2.s,.int .i64 ap.2.v])∧((w5.alloc (.cells #[.int .i64 0,.int .i64 0] 94)).setCells w5.heap.size 0 [.int .i64 ap.2.s,.int .i64 ap.2.v]).rangeAt w5.heap.size 0 [.int .i64 ap.2.s,.int .i64 ap.2.v] from fun w5 jT hJ =>
    ⟨hJ.later HD.out (bA (Nat.le_refl _) _ _ _ (aB _ _)),World.rangeAt_setCells_same _ _ _ _ ((Row.new w5 [.int .i64 0,.int .i64 0] 94).there (by simp))⟩)
   go_upto_region 7 with fail
   refine gO (S:=(fun w'=>w'.cell? ⟨L.b,7,none⟩=some (.slice (some ⟨L.g,0,none⟩) L.n L.gc)∧w'.cell? ⟨gl,u*3+1,none⟩=some (.int .i64 (k:Int))∧w'.cell? ⟨gl,u*3+2,none⟩=some (.int .i64 (sq:Int))∧w'.cell? ⟨L.g,k,none⟩=some (.pointer (some ⟨L.bT k,0,none⟩))∧w'.cell? ⟨L.bT k,0,none⟩=some (.slice (some ⟨go,0,none⟩) (Y.th k).ops.length oc)∧w'.rangeAt go (sq*3) [.int .i64 op.c,.int .i64 op.a,.int .i64 op.b])) 24 rfl (by kernel_rfl) ?_ (fun hHeld=>?_)
   ·exact HS0.out
   iterate 20 (refine tk 23 (by rfl) (by kernel_rfl) (by exact fun _ _ _ h=>h) (.inl ⟨by rfl,fun w hS=>by (try dsimp only at hS);go_simp;(try with_reducible rfl)⟩) (by assumption) ?_;try go_frame)
   refine wpAnyH_ready (rs:=[20,22]) (by kernel_rfl) (by simp) (rc (by rfl) (fun K hK=>?_) (rc (by rfl) (fun K hK=>?_) AllReadyH.nil))
   ·rw [if_pos (by rfl)]
    refine wp_load_mid 36 (.tmp 45) rfl go (sq*3) rfl [.int .i64 op.c,.int .i64 op.a,.int .i64 op.b] _ ?_ Tryz.underlying36 rfl ?_ ?_
    ·exact hHeld.2.2.2.2.2
    ·exact UA
    refine hK.out _ _ ?_ (fun hHeld=>?_)
    ·exact hHeld
    clear hK K
    (try go_frame)
    refine wpAnyH_ready (rs:=[21,22]) (by kernel_rfl) (by simp) (rc (by rfl) (fun K hK=>?_) (rc (by rfl) (fun K hK=>?_) AllReadyH.nil))
    ·go_simp
     refine (HDo.out _ (by repeat (first|exact Below.refl _ _|refine Below.drew ?_|refine Below.alloc ?_ (by first|(simp;done)|(simp;omega)) _))).mono ?_
     rintro e w5 ⟨rfl,jT,ZE,UD,eP⟩
     have ZF:=aA ZE
     have HV5:=aA UD
     clear ZE UD
     go_wp2_with fail
     refine hK.out _ _ ?_ (fun hHeld=>?_)
     ·exact nI (K:=KR wr b8 vh) hHeld HK.out (fun x hx=>eP.block x (by have:=hx.1;first|exact this|(simp;omega)|(have q:=eP.size;simp at q;omega)) (by rintro (c|c);exact hx.2.1 c;exact hx.2.2 c))
     clear hK K
     (try go_frame)
     refine aU 22 (by rfl) (by kernel_rfl) (fun K hK=>?_)
     go_simp
     refine hK.out _ _ ?_ (fun hHeld=>?_)
     ·exact nI (K:=KR wr b8 vh) hHeld HK.out (fun x hx=>(aB _ _).block x (by have:=hx.1;first|exact this|(simp;omega)|(have q:=eP.size;simp at q;omega)))
     clear hK K
     (try go_frame)
     refine aU 23 (by rfl) (by kernel_rfl) (fun K hK=>?_)
     rw [if_pos (by rfl)]
     refine wp_store_mid _ _ _ rfl _ 0 #[.int .i64 ap.2.s,.int .i64 ap.2.v] rfl rfl ?_ (by kernel_rfl) (by simp [Value.oneCell']) ?_
     ·first|exact Row.there (Row.new _ [_,_] _) (by simp)|exact Row.there (IQ.out _ eP) (by simp)
     refine hK.out _ _ ?_ (fun hHeld=>?_)
     ·exact nI (K:=KR wr b8 vh) hHeld HK.out (fun x hx=>(bA (B:=wr.heap.size) (by first|exact Nat.le_refl _|(have:=eP.size;simp at this;omega)) _ _ _ (Below.refl _ _)).block x hx.1)
     clear hK K
     (try go_frame)
     refine wpAnyH_done (by kernel_rfl) ?_ _
     first
      |have yC:=HJA.out w5 jT ZF.out (fun x hx=>(HV5.out x hx).imp_right (fun q=>by simp at q;omega)) (IQ.out _ eP)
       have tC:=aA yC.1
       have uD:=yC.2
       clear yC
       generalize (w5.setCells wr.heap.size 0 [.int .i64 ap.2.s,.int .i64 ap.2.v])=W6 at *
       have kT:=tC.out
       have n1:W6.cell? ⟨gl,u*3+1,none⟩=some (.int .i64 (k:Int)):=by obtain ⟨g',c',e',q'⟩:=dS kT.ml (cZ Y.order u AX).2.1;injection e' with e1 _ _;injection e1 with e1;injection e1 with e1;subst e1;rw [q',QO.out.1]
       have n2:W6.cell? ⟨gl,u*3+2,none⟩=some (.int .i64 (sq:Int)):=by obtain ⟨g',c',e',q'⟩:=dS kT.ml (cZ Y.order u AX).2.2;injection e' with e1 _ _;injection e1 with e1;injection e1 with e1;subst e1;rw [q',QO.out.2]
       have y0:=kT.ar.cell_of (i:=0) rfl
       have y1:=kT.ar.cell_of (i:=1) rfl
       have z0:=kT.ar.frozen 0
       have z1:=kT.ar.frozen 1
       have x0:=uD 0 _ rfl
       have x1:=uD 1 _ rfl
       clear kT uD hHeld
       by_cases fZ:(k:Int)=tq
       ·have yD:((k:Int) == tq)=true:=by simp [fZ]
        by_cases hk2:(sq:Int)=q
        ·have yE:((sq:Int) == q)=true:=by simp [hk2]
         have pN:=aA (ZD.out fZ hk2)
         clear fZ hk2
         go_wp2_with fail
         go_roundw
         case rel=>exact ⟨u+1,_,ap.2,by omega,by go_num,by rw [sS.out];exact rR.write HD.out tC.out ap.2,by have:=yB.out;omega,pN.out⟩
         case measure=>simp [intOf];omega
        ·have yE:((sq:Int) == q)=false:=by simp [hk2]
         have pN:=aA (QN.out (fun c=>hk2 c.2))
         clear fZ hk2
         go_wp2_with fail
         go_roundw
         case rel=>exact ⟨u+1,_,an,by omega,by go_num,by rw [sS.out];exact tC.out,by have:=yB.out;omega,pN.out⟩
         case measure=>simp [intOf];omega
       ·have yD:((k:Int) == tq)=false:=by simp [fZ]
        have pN:=aA (QN.out (fun c=>fZ c.1))
        clear fZ
        go_wp2_with fail
        go_roundw
        case rel=>exact ⟨u+1,_,an,by omega,by go_num,by rw [sS.out];exact tC.out,by have:=yB.out;omega,pN.out⟩
        case measure=>simp [intOf];omega
      |have yC:=HJB.out w5 jT ZF.out
       have tC:=aA yC.1
       have uD:=yC.2
       clear yC
       generalize ((w5.alloc (.cells #[.int .i64 0,.int .i64 0] 94)).setCells w5.heap.size 0 [.int .i64 ap.2.s,.int .i64 ap.2.v])=W6 at *
       have kT:=tC.out
       have n1:W6.cell? ⟨gl,u*3+1,none⟩=some (.int .i64 (k:Int)):=by obtain ⟨g',c',e',q'⟩:=dS kT.ml (cZ Y.order u AX).2.1;injection e' with e1 _ _;injection e1 with e1;injection e1 with e1;subst e1;rw [q',QO.out.1]
       have n2:W6.cell? ⟨gl,u*3+2,none⟩=some (.int .i64 (sq:Int)):=by obtain ⟨g',c',e',q'⟩:=dS kT.ml (cZ Y.order u AX).2.2;injection e' with e1 _ _;injection e1 with e1;injection e1 with e1;subst e1;rw [q',QO.out.2]
       have y0:=kT.ar.cell_of (i:=0) rfl
       have y1:=kT.ar.cell_of (i:=1) rfl
       have z0:=kT.ar.frozen 0
       have z1:=kT.ar.frozen 1
       have x0:=uD 0 _ rfl
       have x1:=uD 1 _ rfl
       clear kT uD hHeld
       by_cases fZ:(k:Int)=tq
       ·have yD:((k:Int) == tq)=true:=by simp [fZ]
        by_cases hk2:(sq:Int)=q
        ·have yE:((sq:Int) == q)=true:=by simp [hk2]
         have pN:=aA (ZD.out fZ hk2)
         clear fZ hk2
         go_wp2_with fail
         go_roundw
         case rel=>exact ⟨u+1,_,ap.2,by omega,by go_num,by rw [sS.out];exact rR.write HD.out tC.out ap.2,by have:=yB.out;omega,pN.out⟩
         case measure=>simp [intOf];omega
        ·have yE:((sq:Int) == q)=false:=by simp [hk2]
         have pN:=aA (QN.out (fun c=>hk2 c.2))
         clear fZ hk2
         go_wp2_with fail
         go_roundw
         case rel=>exact ⟨u+1,_,an,by omega,by go_num,by rw [sS.out];exact tC.out,by have:=yB.out;omega,pN.out⟩
         case measure=>simp [intOf];omega
       ·have yD:((k:Int) == tq)=false:=by simp [fZ]
        have pN:=aA (QN.out (fun c=>fZ c.1))
        clear fZ
        go_wp2_with fail
        go_roundw
        case rel=>exact ⟨u+1,_,an,by omega,by go_num,by rw [sS.out];exact tC.out,by have:=yB.out;omega,pN.out⟩
        case measure=>simp [intOf];omega
    ·go_simp
     refine hK.out _ _ ?_ (fun hHeld=>?_)
     ·exact nI (K:=KR wr b8 vh) hHeld HK.out (fun x hx=>(aB _ _).block x (by have:=hx.1;first|exact this|(simp;omega)|(have q:=eP.size;simp at q;omega)))
     clear hK K
     (try go_frame)
     refine aU 21 (by rfl) (by kernel_rfl) (fun K hK=>?_)
     go_simp
     refine (HDo.out _ (by repeat (first|exact Below.refl _ _|refine Below.drew ?_|refine Below.alloc ?_ (by first|(simp;done)|(simp;omega)) _))).mono ?_
     rintro e w5 ⟨rfl,jT,ZE,UD,eP⟩
     have ZF:=aA ZE
     have HV5:=aA UD
     clear ZE UD
     go_wp2_with fail
     refine hK.out _ _ ?_ (fun hHeld=>?_)
     ·exact nI (K:=KR wr b8 vh) hHeld HK.out (fun x hx=>eP.block x (by have:=hx.1;first|exact this|(simp;omega)|(have q:=eP.size;simp at q;omega)) (by rintro (c|c);exact hx.2.1 c;exact hx.2.2 c))
     clear hK K
     (try go_frame)
     refine aU 23 (by rfl) (by kernel_rfl) (fun K hK=>?_)
     rw [if_pos (by rfl)]
     refine wp_store_mid _ _ _ rfl _ 0 #[.int .i64 ap.2.s,.int .i64 ap.2.v] rfl rfl ?_ (by kernel_rfl) (by simp [Value.oneCell']) ?_
     ·first|exact Row.there (Row.new _ [_,_] _) (by simp)|exact Row.there (IQ.out _ eP) (by simp)
     refine hK.out _ _ ?_ (fun hHeld=>?_)
     ·exact nI (K:=KR wr b8 vh) hHeld HK.out (fun x hx=>(bA (B:=wr.heap.size) (by first|exact Nat.le_refl _|(have:=eP.size;simp at this;omega)) _ _ _ (Below.refl _ _)).block x hx.1)
     clear hK K
     (try go_frame)
     refine wpAnyH_done (by kernel_rfl) ?_ _
     first
      |have yC:=HJA.out w5 jT ZF.out (fun x hx=>(HV5.out x hx).imp_right (fun q=>by simp at q;omega)) (IQ.out _ eP)
       have tC:=aA yC.1
       have uD:=yC.2
       clear yC
       generalize (w5.setCells wr.heap.size 0 [.int .i64 ap.2.s,.int .i64 ap.2.v])=W6 at *
       have kT:=tC.out
       have n1:W6.cell? ⟨gl,u*3+1,none⟩=some (.int .i64 (k:Int)):=by obtain ⟨g',c',e',q'⟩:=dS kT.ml (cZ Y.order u AX).2.1;injection e' with e1 _ _;injection e1 with e1;injection e1 with e1;subst e1;rw [q',QO.out.1]
       have n2:W6.cell? ⟨gl,u*3+2,none⟩=some (.int .i64 (sq:Int)):=by obtain ⟨g',c',e',q'⟩:=dS kT.ml (cZ Y.order u AX).2.2;injection e' with e1 _ _;injection e1 with e1;injection e1 with e1;subst e1;rw [q',QO.out.2]
       have y0:=kT.ar.cell_of (i:=0) rfl
       have y1:=kT.ar.cell_of (i:=1) rfl
       have z0:=kT.ar.frozen 0
       have z1:=kT.ar.frozen 1
       have x0:=uD 0 _ rfl
       have x1:=uD 1 _ rfl
       clear kT uD hHeld
       by_cases fZ:(k:Int)=tq
       ·have yD:((k:Int) == tq)=true:=by simp [fZ]
        by_cases hk2:(sq:Int)=q
        ·have yE:((sq:Int) == q)=true:=by simp [hk2]
         have pN:=aA (ZD.out fZ hk2)
         clear fZ hk2
         go_wp2_with fail
         go_roundw
         case rel=>exact ⟨u+1,_,ap.2,by omega,by go_num,by rw [sS.out];exact rR.write HD.out tC.out ap.2,by have:=yB.out;omega,pN.out⟩
         case measure=>simp [intOf];omega
        ·have yE:((sq:Int) == q)=false:=by simp [hk2]
         have pN:=aA (QN.out (fun c=>hk2 c.2))
         clear fZ hk2
         go_wp2_with fail
         go_roundw
         case rel=>exact ⟨u+1,_,an,by omega,by go_num,by rw [sS.out];exact tC.out,by have:=yB.out;omega,pN.out⟩
         case measure=>simp [intOf];omega
       ·have yD:((k:Int) == tq)=false:=by simp [fZ]
        have pN:=aA (QN.out (fun c=>fZ c.1))
        clear fZ
        go_wp2_with fail
        go_roundw
        case rel=>exact ⟨u+1,_,an,by omega,by go_num,by rw [sS.out];exact tC.out,by have:=yB.out;omega,pN.out⟩
        case measure=>simp [intOf];omega
      |have yC:=HJB.out w5 jT ZF.out
       have tC:=aA yC.1
       have uD:=yC.2
       clear yC
       generalize ((w5.alloc (.cells #[.int .i64 0,.int .i64 0] 94)).setCells w5.heap.size 0 [.int .i64 ap.2.s,.int .i64 ap.2.v])=W6 at *
       have kT:=tC.out
       have n1:W6.cell? ⟨gl,u*3+1,none⟩=some (.int .i64 (k:Int)):=by obtain ⟨g',c',e',q'⟩:=dS kT.ml (cZ Y.order u AX).2.1;injection e' with e1 _ _;injection e1 with e1;injection e1 with e1;subst e1;rw [q',QO.out.1]
       have n2:W6.cell? ⟨gl,u*3+2,none⟩=some (.int .i64 (sq:Int)):=by obtain ⟨g',c',e',q'⟩:=dS kT.ml (cZ Y.order u AX).2.2;injection e' with e1 _ _;injection e1 with e1;injection e1 with e1;subst e1;rw [q',QO.out.2]
       have y0:=kT.ar.cell_of (i:=0) rfl
       have y1:=kT.ar.cell_of (i:=1) rfl
       have z0:=kT.ar.frozen 0
       have z1:=kT.ar.frozen 1
       have x0:=uD 0 _ rfl
       have x1:=uD 1 _ rfl
       clear kT uD hHeld
       by_cases fZ:(k:Int)=tq
       ·have yD:((k:Int) == tq)=true:=by simp [fZ]
        by_cases hk2:(sq:Int)=q
        ·have yE:((sq:Int) == q)=true:=by simp [hk2]
         have pN:=aA (ZD.out fZ hk2)
         clear fZ hk2
         go_wp2_with fail
         go_roundw
         case rel=>exact ⟨u+1,_,ap.2,by omega,by go_num,by rw [sS.out];exact rR.write HD.out tC.out ap.2,by have:=yB.out;omega,pN.out⟩
         case measure=>simp [intOf];omega
        ·have yE:((sq:Int) == q)=false:=by simp [hk2]
         have pN:=aA (QN.out (fun c=>hk2 c.2))
         clear fZ hk2
         go_wp2_with fail
         go_roundw
         case rel=>exact ⟨u+1,_,an,by omega,by go_num,by rw [sS.out];exact tC.out,by have:=yB.out;omega,pN.out⟩
         case measure=>simp [intOf];omega
       ·have yD:((k:Int) == tq)=false:=by simp [fZ]
        have pN:=aA (QN.out (fun c=>fZ c.1))
        clear fZ
        go_wp2_with fail
        go_roundw
        case rel=>exact ⟨u+1,_,an,by omega,by go_num,by rw [sS.out];exact tC.out,by have:=yB.out;omega,pN.out⟩
        case measure=>simp [intOf];omega
   ·go_simp
    refine hK.out _ _ ?_ (fun hHeld=>?_)
    ·exact nI (K:=KR wr b8 vh) hHeld HK.out (fun x hx=>(aB _ _).block x (by have:=hx.1;first|exact this|(simp;omega)|(have q:=eP.size;simp at q;omega)))
    clear hK K
    (try go_frame)
    refine aU 20 (by rfl) (by kernel_rfl) (fun K hK=>?_)
    rw [if_pos (by rfl)]
    refine wp_load_mid 36 (.tmp 45) rfl go (sq*3) rfl [.int .i64 op.c,.int .i64 op.a,.int .i64 op.b] _ ?_ Tryz.underlying36 rfl ?_ ?_
    ·exact hHeld.2.2.2.2.2
    ·exact UA
    refine hK.out _ _ ?_ (fun hHeld=>?_)
    ·exact hHeld
    clear hK K
    (try go_frame)
    refine aU 21 (by rfl) (by kernel_rfl) (fun K hK=>?_)
    go_simp
    refine (HDo.out _ (by repeat (first|exact Below.refl _ _|refine Below.drew ?_|refine Below.alloc ?_ (by first|(simp;done)|(simp;omega)) _))).mono ?_
    rintro e w5 ⟨rfl,jT,ZE,UD,eP⟩
    have ZF:=aA ZE
    have HV5:=aA UD
    clear ZE UD
    go_wp2_with fail
    refine hK.out _ _ ?_ (fun hHeld=>?_)
    ·exact nI (K:=KR wr b8 vh) hHeld HK.out (fun x hx=>eP.block x (by have:=hx.1;first|exact this|(simp;omega)|(have q:=eP.size;simp at q;omega)) (by rintro (c|c);exact hx.2.1 c;exact hx.2.2 c))
    clear hK K
    (try go_frame)
    refine aU 23 (by rfl) (by kernel_rfl) (fun K hK=>?_)
    rw [if_pos (by rfl)]
    refine wp_store_mid _ _ _ rfl _ 0 #[.int .i64 ap.2.s,.int .i64 ap.2.v] rfl rfl ?_ (by kernel_rfl) (by simp [Value.oneCell']) ?_
    ·first|exact Row.there (Row.new _ [_,_] _) (by simp)|exact Row.there (IQ.out _ eP) (by simp)
    refine hK.out _ _ ?_ (fun hHeld=>?_)
    ·exact nI (K:=KR wr b8 vh) hHeld HK.out (fun x hx=>(bA (B:=wr.heap.size) (by first|exact Nat.le_refl _|(have:=eP.size;simp at this;omega)) _ _ _ (Below.refl _ _)).block x hx.1)
    clear hK K
    (try go_frame)
    refine wpAnyH_done (by kernel_rfl) ?_ _
    first
     |have yC:=HJA.out w5 jT ZF.out (fun x hx=>(HV5.out x hx).imp_right (fun q=>by simp at q;omega)) (IQ.out _ eP)
      have tC:=aA yC.1
      have uD:=yC.2
      clear yC
      generalize (w5.setCells wr.heap.size 0 [.int .i64 ap.2.s,.int .i64 ap.2.v])=W6 at *
      have kT:=tC.out
      have n1:W6.cell? ⟨gl,u*3+1,none⟩=some (.int .i64 (k:Int)):=by obtain ⟨g',c',e',q'⟩:=dS kT.ml (cZ Y.order u AX).2.1;injection e' with e1 _ _;injection e1 with e1;injection e1 with e1;subst e1;rw [q',QO.out.1]
      have n2:W6.cell? ⟨gl,u*3+2,none⟩=some (.int .i64 (sq:Int)):=by obtain ⟨g',c',e',q'⟩:=dS kT.ml (cZ Y.order u AX).2.2;injection e' with e1 _ _;injection e1 with e1;injection e1 with e1;subst e1;rw [q',QO.out.2]
      have y0:=kT.ar.cell_of (i:=0) rfl
      have y1:=kT.ar.cell_of (i:=1) rfl
      have z0:=kT.ar.frozen 0
      have z1:=kT.ar.frozen 1
      have x0:=uD 0 _ rfl
      have x1:=uD 1 _ rfl
      clear kT uD hHeld
      by_cases fZ:(k:Int)=tq
      ·have yD:((k:Int) == tq)=true:=by simp [fZ]
       by_cases hk2:(sq:Int)=q
       ·have yE:((sq:Int) == q)=true:=by simp [hk2]
        have pN:=aA (ZD.out fZ hk2)
        clear fZ hk2
        go_wp2_with fail
        go_roundw
        case rel=>exact ⟨u+1,_,ap.2,by omega,by go_num,by rw [sS.out];exact rR.write HD.out tC.out ap.2,by have:=yB.out;omega,pN.out⟩
        case measure=>simp [intOf];omega
       ·have yE:((sq:Int) == q)=false:=by simp [hk2]
        have pN:=aA (QN.out (fun c=>hk2 c.2))
        clear fZ hk2
        go_wp2_with fail
        go_roundw
        case rel=>exact ⟨u+1,_,an,by omega,by go_num,by rw [sS.out];exact tC.out,by have:=yB.out;omega,pN.out⟩
        case measure=>simp [intOf];omega
      ·have yD:((k:Int) == tq)=false:=by simp [fZ]
       have pN:=aA (QN.out (fun c=>fZ c.1))
       clear fZ
       go_wp2_with fail
       go_roundw
       case rel=>exact ⟨u+1,_,an,by omega,by go_num,by rw [sS.out];exact tC.out,by have:=yB.out;omega,pN.out⟩
       case measure=>simp [intOf];omega
     |have yC:=HJB.out w5 jT ZF.out
      have tC:=aA yC.1
      have uD:=yC.2
      clear yC
      generalize ((w5.alloc (.cells #[.int .i64 0,.int .i64 0] 94)).setCells w5.heap.size 0 [.int .i64 ap.2.s,.int .i64 ap.2.v])=W6 at *
      have kT:=tC.out
      have n1:W6.cell? ⟨gl,u*3+1,none⟩=some (.int .i64 (k:Int)):=by obtain ⟨g',c',e',q'⟩:=dS kT.ml (cZ Y.order u AX).2.1;injection e' with e1 _ _;injection e1 with e1;injection e1 with e1;subst e1;rw [q',QO.out.1]
      have n2:W6.cell? ⟨gl,u*3+2,none⟩=some (.int .i64 (sq:Int)):=by obtain ⟨g',c',e',q'⟩:=dS kT.ml (cZ Y.order u AX).2.2;injection e' with e1 _ _;injection e1 with e1;injection e1 with e1;subst e1;rw [q',QO.out.2]
      have y0:=kT.ar.cell_of (i:=0) rfl
      have y1:=kT.ar.cell_of (i:=1) rfl
      have z0:=kT.ar.frozen 0
      have z1:=kT.ar.frozen 1
      have x0:=uD 0 _ rfl
      have x1:=uD 1 _ rfl
      clear kT uD hHeld
      by_cases fZ:(k:Int)=tq
      ·have yD:((k:Int) == tq)=true:=by simp [fZ]
       by_cases hk2:(sq:Int)=q
       ·have yE:((sq:Int) == q)=true:=by simp [hk2]
        have pN:=aA (ZD.out fZ hk2)
        clear fZ hk2
        go_wp2_with fail
        go_roundw
        case rel=>exact ⟨u+1,_,ap.2,by omega,by go_num,by rw [sS.out];exact rR.write HD.out tC.out ap.2,by have:=yB.out;omega,pN.out⟩
        case measure=>simp [intOf];omega
       ·have yE:((sq:Int) == q)=false:=by simp [hk2]
        have pN:=aA (QN.out (fun c=>hk2 c.2))
        clear fZ hk2
        go_wp2_with fail
        go_roundw
        case rel=>exact ⟨u+1,_,an,by omega,by go_num,by rw [sS.out];exact tC.out,by have:=yB.out;omega,pN.out⟩
        case measure=>simp [intOf];omega
      ·have yD:((k:Int) == tq)=false:=by simp [fZ]
       have pN:=aA (QN.out (fun c=>fZ c.1))
       clear fZ
       go_wp2_with fail
       go_roundw
       case rel=>exact ⟨u+1,_,an,by omega,by go_num,by rw [sS.out];exact tC.out,by have:=yB.out;omega,pN.out⟩
       case measure=>simp [intOf];omega
  ·have aBe:¬(u:Int)<(Y.order.length:Int):=by omega
   have HUE:=aA (show u=Y.order.length by omega)
   obtain ⟨va,uE,vc,rfl⟩:=HD.out.form _ _ _ hJ.hm
   have e9:vM L (.slice va uE vc)=[.int .i64 L.kind,.int .i64 L.st,.int .i64 L.co,.slice a1 l1 c1,.slice a2 l2 c2,.slice va uE vc]:=by unfold vM;rw [PN,VY]
   have HE9:=aA e9
   have aJ1:=hJ.UB
   have rP:wr.rangeAt b8 0 [.int .i64 L.kind,.int .i64 L.st,.int .i64 L.co,.slice a1 l1 c1,.slice a2 l2 c2,.slice va uE vc]:=fun j v hv=>by rw [Nat.zero_add];exact hJ.pl.cell_of (by rw [e9];exact hv)
   have rA:wr.rangeAt (b8+1) 0 [.int .i64 an.s,.int .i64 an.v]:=fun j v hv=>by rw [Nat.zero_add];exact hJ.ar.cell_of hv
   have n0:wr.there w.heap.size 0 6:=hJ.r6.there (by simp)
   have n1:wr.there (w.heap.size+1) 0 2:=hJ.r7.there (by simp)
   have hi1:(Tryz.prog.info? 159).map (·.size)=some 6:=by kernel_rfl
   have hi2:(Tryz.prog.info? 94).map (·.size)=some 2:=by kernel_rfl
   clear hJ AP hB c7 e9 hsz
   go_upto_region 10 with fail
   refine gO (S:=(fun w'=>w'.rangeAt b8 0 [.int .i64 L.kind,.int .i64 L.st,.int .i64 L.co,.slice a1 l1 c1,.slice a2 l2 c2,.slice va uE vc]∧w'.rangeAt (b8+1) 0 [.int .i64 an.s,.int .i64 an.v]∧w'.there w.heap.size 0 6∧w'.there (w.heap.size+1) 0 2)) 4 rfl (by kernel_rfl) ?_ (fun hHeld=>?_)
   ·exact ⟨rP,rA,n0,n1⟩
   refine wpAnyH_ready (rs:=[0,1]) (by kernel_rfl) (by simp) (rc (by rfl) (fun K hK=>?_) (rc (by rfl) (fun K hK=>?_) AllReadyH.nil))
   ·rw [if_pos (by rfl)]
    refine wp_load_mid 159 (.tmp 8) rfl b8 0 rfl [.int .i64 L.kind,.int .i64 L.st,.int .i64 L.co,.slice a1 l1 c1,.slice a2 l2 c2,.slice va uE vc] _ ?_ Tryz.underlying159 rfl ?_ ?_
    ·exact hHeld.1
    ·exact hi1
    refine hK.out _ _ ?_ (fun hHeld=>?_)
    ·exact hHeld
    clear hK K
    (try go_frame)
    refine wpAnyH_ready (rs:=[1,2]) (by kernel_rfl) (by simp) (rc (by rfl) (fun K hK=>?_) (rc (by rfl) (fun K hK=>?_) AllReadyH.nil))
    ·(try (have IM:=e1;clear IM;generalize GJ:World.setCells wr.drew w.heap.size 0 [.int .i64 L.kind,.int .i64 L.st,.int .i64 L.co,.slice a1 l1 c1,.slice a2 l2 c2,.slice va uE vc]=W4 at hHeld e1 ⊢;have NF:=aA GJ;clear GJ))
     rw [if_pos (by rfl)]
     refine wp_load_mid 94 (.tmp 9) rfl (b8+1) 0 rfl [.int .i64 an.s,.int .i64 an.v] _ ?_ Tryz.underlying94 rfl ?_ ?_
     ·exact hHeld.2.1
     ·exact hi2
     refine hK.out _ _ ?_ (fun hHeld=>?_)
     ·exact hHeld
     clear hK K
     (try go_frame)
     refine aU 2 (by rfl) (by kernel_rfl) (fun K hK=>?_)
     rw [if_pos (by rfl)]
     have e1:=World.rangeAt_setCells_same _ w.heap.size 0 [.int .i64 L.kind,.int .i64 L.st,.int .i64 L.co,.slice a1 l1 c1,.slice a2 l2 c2,.slice va uE vc] hHeld.2.2.1
     refine wp_store_mid 159 (.tmp 6) (.tmp 65) rfl w.heap.size 0 (List.toArray [.int .i64 L.kind,.int .i64 L.st,.int .i64 L.co,.slice a1 l1 c1,.slice a2 l2 c2,.slice va uE vc]) rfl rfl ?_ ?_ ?_ ?_
     ·exact hHeld.2.2.1
     ·exact hi1
     ·exact all_oneCell_toArray (by simp [Value.oneCell'])
     refine hK.out _ _ ?_ (fun hHeld=>?_)
     ·exact ⟨World.rangeAt_setCells_apart hHeld.1 _ _ _ (.inl (by omega)),World.rangeAt_setCells_apart hHeld.2.1 _ _ _ (.inl (by omega)),World.there_setCells hHeld.2.2.1 _ _ _,World.there_setCells hHeld.2.2.2 _ _ _⟩
     clear hK K
     (try go_frame)
     refine aU 3 (by rfl) (by kernel_rfl) (fun K hK=>?_)
     first|(have h9:=NF;clear h9)|(generalize GJ:World.setCells wr.drew w.heap.size 0 [.int .i64 L.kind,.int .i64 L.st,.int .i64 L.co,.slice a1 l1 c1,.slice a2 l2 c2,.slice va uE vc]=W4 at hHeld e1 ⊢;have NF:=aA GJ;clear GJ)
     rw [if_pos (by rfl)]
     have e2:=World.rangeAt_setCells_same W4 (w.heap.size+1) 0 [.int .i64 an.s,.int .i64 an.v] hHeld.2.2.2
     refine wp_store_mid 94 (.tmp 7) (.tmp 66) rfl (w.heap.size+1) 0 (List.toArray [.int .i64 an.s,.int .i64 an.v]) rfl rfl ?_ ?_ ?_ ?_
     ·exact hHeld.2.2.2
     ·exact hi2
     ·exact all_oneCell_toArray (by simp [Value.oneCell'])
     refine hK.out _ _ ?_ (fun hHeld=>?_)
     ·exact ⟨World.rangeAt_setCells_apart hHeld.1 _ _ _ (.inl (by omega)),World.rangeAt_setCells_apart hHeld.2.1 _ _ _ (.inl (by omega)),World.there_setCells hHeld.2.2.1 _ _ _,World.there_setCells hHeld.2.2.2 _ _ _⟩
     clear hK K
     (try go_frame)
     refine wpAnyH_done (by kernel_rfl) ?_ _
     generalize UE:World.setCells W4 (w.heap.size+1) 0 [.int .i64 an.s,.int .i64 an.v]=W5 at hHeld e2 ⊢
     have IM:W5.rangeAt w.heap.size 0 [.int .i64 L.kind,.int .i64 L.st,.int .i64 L.co,.slice a1 l1 c1,.slice a2 l2 c2,.slice va uE vc]:=by rw [←UE];exact World.rangeAt_setCells_apart e1 _ _ _ (.inl (by omega))
     have ZG:=aA UE
     clear UE
     (try go_wp2_with fail)
     have hold:∀ x,w.heap.size+2≤x→W5.heap[x]?=wr.heap[x]?:=fun x hx=>by
      rw [←ZG.out,←NF.out]
      simp only [World.setCells]
      rw [Below.heap_setCell _ _ _ x (by simp;omega),Below.heap_setCell _ _ _ x (by simp;omega),Below.heap_setCell _ _ _ x (by simp;omega),Below.heap_setCell _ _ _ x (by simp;omega),Below.heap_setCell _ _ _ x (by simp;omega),Below.heap_setCell _ _ _ x (by simp;omega),Below.heap_setCell _ _ _ x (by simp;omega),Below.heap_setCell _ _ _ x (by simp;omega)]
      rfl
     refine bodyPost_ret (v:=.tuple #[.agg (List.toArray [.int .i64 L.kind,.int .i64 L.st,.int .i64 L.co,.slice a1 l1 c1,.slice a2 l2 c2,.slice va uE vc]),.agg (List.toArray [.int .i64 an.s,.int .i64 an.v])]) (nE rfl rfl rfl IM e2 Tryz.underlying159 rfl hi1 Tryz.underlying94 rfl hi2) rfl ⟨.slice va uE vc,an,?_,?_,?_,?_,?_⟩
     ·rw [HE9.out]
     ·rw [←HUE.out]
      exact HD.out.stay _ _ _ _ DQ.out.hm fun x hx=>hold x (DQ.out.zG x hx).1
     ·exact fun x hx=>by have:=(DQ.out.zG x hx).1;omega
     ·rw [←ZG.out,←NF.out]
      exact bA (by omega) _ _ _ (bA (by omega) _ _ _ (Below.drew DQ.out.below))
     ·rw [←HUE.out];exact VZ.out
    ·rw [if_pos (by rfl)]
     have e1:=World.rangeAt_setCells_same _ w.heap.size 0 [.int .i64 L.kind,.int .i64 L.st,.int .i64 L.co,.slice a1 l1 c1,.slice a2 l2 c2,.slice va uE vc] hHeld.2.2.1
     refine wp_store_mid 159 (.tmp 6) (.tmp 65) rfl w.heap.size 0 (List.toArray [.int .i64 L.kind,.int .i64 L.st,.int .i64 L.co,.slice a1 l1 c1,.slice a2 l2 c2,.slice va uE vc]) rfl rfl ?_ ?_ ?_ ?_
     ·exact hHeld.2.2.1
     ·exact hi1
     ·exact all_oneCell_toArray (by simp [Value.oneCell'])
     refine hK.out _ _ ?_ (fun hHeld=>?_)
     ·exact ⟨World.rangeAt_setCells_apart hHeld.1 _ _ _ (.inl (by omega)),World.rangeAt_setCells_apart hHeld.2.1 _ _ _ (.inl (by omega)),World.there_setCells hHeld.2.2.1 _ _ _,World.there_setCells hHeld.2.2.2 _ _ _⟩
     clear hK K
     (try go_frame)
     refine aU 1 (by rfl) (by kernel_rfl) (fun K hK=>?_)
     (try (have IM:=e1;clear IM;generalize GJ:World.setCells wr.drew w.heap.size 0 [.int .i64 L.kind,.int .i64 L.st,.int .i64 L.co,.slice a1 l1 c1,.slice a2 l2 c2,.slice va uE vc]=W4 at hHeld e1 ⊢;have NF:=aA GJ;clear GJ))
     rw [if_pos (by rfl)]
     refine wp_load_mid 94 (.tmp 9) rfl (b8+1) 0 rfl [.int .i64 an.s,.int .i64 an.v] _ ?_ Tryz.underlying94 rfl ?_ ?_
     ·exact hHeld.2.1
     ·exact hi2
     refine hK.out _ _ ?_ (fun hHeld=>?_)
     ·exact hHeld
     clear hK K
     (try go_frame)
     refine aU 3 (by rfl) (by kernel_rfl) (fun K hK=>?_)
     first|(have h9:=NF;clear h9)|(generalize GJ:World.setCells wr.drew w.heap.size 0 [.int .i64 L.kind,.int .i64 L.st,.int .i64 L.co,.slice a1 l1 c1,.slice a2 l2 c2,.slice va uE vc]=W4 at hHeld e1 ⊢;have NF:=aA GJ;clear GJ)
     rw [if_pos (by rfl)]
     have e2:=World.rangeAt_setCells_same W4 (w.heap.size+1) 0 [.int .i64 an.s,.int .i64 an.v] hHeld.2.2.2
     refine wp_store_mid 94 (.tmp 7) (.tmp 66) rfl (w.heap.size+1) 0 (List.toArray [.int .i64 an.s,.int .i64 an.v]) rfl rfl ?_ ?_ ?_ ?_
     ·exact hHeld.2.2.2
     ·exact hi2
     ·exact all_oneCell_toArray (by simp [Value.oneCell'])
     refine hK.out _ _ ?_ (fun hHeld=>?_)
     ·exact ⟨World.rangeAt_setCells_apart hHeld.1 _ _ _ (.inl (by omega)),World.rangeAt_setCells_apart hHeld.2.1 _ _ _ (.inl (by omega)),World.there_setCells hHeld.2.2.1 _ _ _,World.there_setCells hHeld.2.2.2 _ _ _⟩
     clear hK K
     (try go_frame)
     refine wpAnyH_done (by kernel_rfl) ?_ _
     generalize UE:World.setCells W4 (w.heap.size+1) 0 [.int .i64 an.s,.int .i64 an.v]=W5 at hHeld e2 ⊢
     have IM:W5.rangeAt w.heap.size 0 [.int .i64 L.kind,.int .i64 L.st,.int .i64 L.co,.slice a1 l1 c1,.slice a2 l2 c2,.slice va uE vc]:=by rw [←UE];exact World.rangeAt_setCells_apart e1 _ _ _ (.inl (by omega))
     have ZG:=aA UE
     clear UE
     (try go_wp2_with fail)
     have hold:∀ x,w.heap.size+2≤x→W5.heap[x]?=wr.heap[x]?:=fun x hx=>by
      rw [←ZG.out,←NF.out]
      simp only [World.setCells]
      rw [Below.heap_setCell _ _ _ x (by simp;omega),Below.heap_setCell _ _ _ x (by simp;omega),Below.heap_setCell _ _ _ x (by simp;omega),Below.heap_setCell _ _ _ x (by simp;omega),Below.heap_setCell _ _ _ x (by simp;omega),Below.heap_setCell _ _ _ x (by simp;omega),Below.heap_setCell _ _ _ x (by simp;omega),Below.heap_setCell _ _ _ x (by simp;omega)]
      rfl
     refine bodyPost_ret (v:=.tuple #[.agg (List.toArray [.int .i64 L.kind,.int .i64 L.st,.int .i64 L.co,.slice a1 l1 c1,.slice a2 l2 c2,.slice va uE vc]),.agg (List.toArray [.int .i64 an.s,.int .i64 an.v])]) (nE rfl rfl rfl IM e2 Tryz.underlying159 rfl hi1 Tryz.underlying94 rfl hi2) rfl ⟨.slice va uE vc,an,?_,?_,?_,?_,?_⟩
     ·rw [HE9.out]
     ·rw [←HUE.out]
      exact HD.out.stay _ _ _ _ DQ.out.hm fun x hx=>hold x (DQ.out.zG x hx).1
     ·exact fun x hx=>by have:=(DQ.out.zG x hx).1;omega
     ·rw [←ZG.out,←NF.out]
      exact bA (by omega) _ _ _ (bA (by omega) _ _ _ (Below.drew DQ.out.below))
     ·rw [←HUE.out];exact VZ.out
   ·(try (have IM:=e1;clear IM;generalize GJ:World.setCells wr.drew w.heap.size 0 [.int .i64 L.kind,.int .i64 L.st,.int .i64 L.co,.slice a1 l1 c1,.slice a2 l2 c2,.slice va uE vc]=W4 at hHeld e1 ⊢;have NF:=aA GJ;clear GJ))
    rw [if_pos (by rfl)]
    refine wp_load_mid 94 (.tmp 9) rfl (b8+1) 0 rfl [.int .i64 an.s,.int .i64 an.v] _ ?_ Tryz.underlying94 rfl ?_ ?_
    ·exact hHeld.2.1
    ·exact hi2
    refine hK.out _ _ ?_ (fun hHeld=>?_)
    ·exact hHeld
    clear hK K
    (try go_frame)
    refine aU 0 (by rfl) (by kernel_rfl) (fun K hK=>?_)
    rw [if_pos (by rfl)]
    refine wp_load_mid 159 (.tmp 8) rfl b8 0 rfl [.int .i64 L.kind,.int .i64 L.st,.int .i64 L.co,.slice a1 l1 c1,.slice a2 l2 c2,.slice va uE vc] _ ?_ Tryz.underlying159 rfl ?_ ?_
    ·exact hHeld.1
    ·exact hi1
    refine hK.out _ _ ?_ (fun hHeld=>?_)
    ·exact hHeld
    clear hK K
    (try go_frame)
    refine aU 2 (by rfl) (by kernel_rfl) (fun K hK=>?_)
    rw [if_pos (by rfl)]
    have e1:=World.rangeAt_setCells_same _ w.heap.size 0 [.int .i64 L.kind,.int .i64 L.st,.int .i64 L.co,.slice a1 l1 c1,.slice a2 l2 c2,.slice va uE vc] hHeld.2.2.1
    refine wp_store_mid 159 (.tmp 6) (.tmp 65) rfl w.heap.size 0 (List.toArray [.int .i64 L.kind,.int .i64 L.st,.int .i64 L.co,.slice a1 l1 c1,.slice a2 l2 c2,.slice va uE vc]) rfl rfl ?_ ?_ ?_ ?_
    ·exact hHeld.2.2.1
    ·exact hi1
    ·exact all_oneCell_toArray (by simp [Value.oneCell'])
    refine hK.out _ _ ?_ (fun hHeld=>?_)
    ·exact ⟨World.rangeAt_setCells_apart hHeld.1 _ _ _ (.inl (by omega)),World.rangeAt_setCells_apart hHeld.2.1 _ _ _ (.inl (by omega)),World.there_setCells hHeld.2.2.1 _ _ _,World.there_setCells hHeld.2.2.2 _ _ _⟩
    clear hK K
    (try go_frame)
    refine aU 3 (by rfl) (by kernel_rfl) (fun K hK=>?_)
    first|(have h9:=NF;clear h9)|(generalize GJ:World.setCells wr.drew w.heap.size 0 [.int .i64 L.kind,.int .i64 L.st,.int .i64 L.co,.slice a1 l1 c1,.slice a2 l2 c2,.slice va uE vc]=W4 at hHeld e1 ⊢;have NF:=aA GJ;clear GJ)
    rw [if_pos (by rfl)]
    have e2:=World.rangeAt_setCells_same W4 (w.heap.size+1) 0 [.int .i64 an.s,.int .i64 an.v] hHeld.2.2.2
    refine wp_store_mid 94 (.tmp 7) (.tmp 66) rfl (w.heap.size+1) 0 (List.toArray [.int .i64 an.s,.int .i64 an.v]) rfl rfl ?_ ?_ ?_ ?_
    ·exact hHeld.2.2.2
    ·exact hi2
    ·exact all_oneCell_toArray (by simp [Value.oneCell'])
    refine hK.out _ _ ?_ (fun hHeld=>?_)
    ·exact ⟨World.rangeAt_setCells_apart hHeld.1 _ _ _ (.inl (by omega)),World.rangeAt_setCells_apart hHeld.2.1 _ _ _ (.inl (by omega)),World.there_setCells hHeld.2.2.1 _ _ _,World.there_setCells hHeld.2.2.2 _ _ _⟩
    clear hK K
    (try go_frame)
    refine wpAnyH_done (by kernel_rfl) ?_ _
    generalize UE:World.setCells W4 (w.heap.size+1) 0 [.int .i64 an.s,.int .i64 an.v]=W5 at hHeld e2 ⊢
    have IM:W5.rangeAt w.heap.size 0 [.int .i64 L.kind,.int .i64 L.st,.int .i64 L.co,.slice a1 l1 c1,.slice a2 l2 c2,.slice va uE vc]:=by rw [←UE];exact World.rangeAt_setCells_apart e1 _ _ _ (.inl (by omega))
    have ZG:=aA UE
    clear UE
    (try go_wp2_with fail)
    have hold:∀ x,w.heap.size+2≤x→W5.heap[x]?=wr.heap[x]?:=fun x hx=>by
     rw [←ZG.out,←NF.out]
     simp only [World.setCells]
     rw [Below.heap_setCell _ _ _ x (by simp;omega),Below.heap_setCell _ _ _ x (by simp;omega),Below.heap_setCell _ _ _ x (by simp;omega),Below.heap_setCell _ _ _ x (by simp;omega),Below.heap_setCell _ _ _ x (by simp;omega),Below.heap_setCell _ _ _ x (by simp;omega),Below.heap_setCell _ _ _ x (by simp;omega),Below.heap_setCell _ _ _ x (by simp;omega)]
     rfl
    refine bodyPost_ret (v:=.tuple #[.agg (List.toArray [.int .i64 L.kind,.int .i64 L.st,.int .i64 L.co,.slice a1 l1 c1,.slice a2 l2 c2,.slice va uE vc]),.agg (List.toArray [.int .i64 an.s,.int .i64 an.v])]) (nE rfl rfl rfl IM e2 Tryz.underlying159 rfl hi1 Tryz.underlying94 rfl hi2) rfl ⟨.slice va uE vc,an,?_,?_,?_,?_,?_⟩
    ·rw [HE9.out]
    ·rw [←HUE.out]
     exact HD.out.stay _ _ _ _ DQ.out.hm fun x hx=>hold x (DQ.out.zG x hx).1
    ·exact fun x hx=>by have:=(DQ.out.zG x hx).1;omega
    ·rw [←ZG.out,←NF.out]
     exact bA (by omega) _ _ _ (bA (by omega) _ _ _ (Below.drew DQ.out.below))
    ·rw [←HUE.out];exact VZ.out
end Go.Proofs.YtefjhnhdagolhaaGreat
