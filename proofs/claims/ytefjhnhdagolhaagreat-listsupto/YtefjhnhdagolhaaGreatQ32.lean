import Derived.Test.YtefjhnhdagolhaaGreatQ24
import Derived.Test.YtefjhnhdagolhaaGreatQ28
import Derived.Deep.LoopGhost
import Derived.Test.YtefjhnhdagolhaaGreatQ31
namespace Go.Proofs.YtefjhnhdagolhaaGreat.list
open Go.RowKit
open M (aI aC aD dA aS cA aR aT aO aG aJ marks tagged num)
attribute [local go_sem ↓] Go.wp_at_zero Go.wp_at_succ
def chain (bs:List (Nat×List Nat)):List (Nat×List Nat):=bs++[(0,[])]
def AA (bs:List (Nat×List Nat)) (f:Nat→Nat) (i:Nat):Value:=if i<bs.length then .pointer (some ⟨f (i+1),0,none⟩) else .pointer none
structure At (w:World) (bs:List (Nat×List Nat)) (f:Nat→Nat) (u:Nat→Value) (i:Nat) (x:Nat×List Nat):Prop where
 row:Row w (f i) 306 [.int .i64 (x.1:Int),u i,AA bs f i]
 sl:Sl w (u i) (ints (x.2.map Int.ofNat))
theorem eJ.at {I:Nat→Prop} {w:World}:∀ {bs:List (Nat×List Nat)} {b:Nat},eJ I w bs b→∃ (f:Nat→Nat) (u:Nat→Value),f 0=b∧∀ i (h:i<(chain bs).length),At w bs f u i (chain bs)[i]
 |[],b,h=>⟨fun _=>b,fun _=>.slice none 0 0,rfl,fun i hi=>by
  have:i=0:=by simp [chain] at hi;omega
  subst this
  exact ⟨h.2,Sl.nil w⟩⟩
 |(q,p)::bs,b,h=>by
  obtain ⟨v,b',-,h2,⟨gp,-,g2,-⟩,h4⟩:=h
  obtain ⟨f,u,hf,hA⟩:=eJ.at h4
  refine ⟨fun i=>if i=0 then b else f (i-1),fun i=>if i=0 then v else u (i-1),rfl,fun i hi=>?_⟩
  cases i with
  |zero =>
   refine ⟨?_,g2⟩
   have e:AA ((q,p)::bs) (fun i=>if i=0 then b else f (i-1)) 0 = .pointer (some ⟨b',0,none⟩):=by unfold AA;simp [hf]
   rw [e]
   exact h2
  |succ i =>
   obtain ⟨r1,r3⟩:=hA i (by simpa [chain] using hi)
   have e:(chain ((q,p)::bs))[i+1]=(chain bs)[i]'(by simpa [chain] using hi):=rfl
   have e2:AA ((q,p)::bs) (fun i=>if i=0 then b else f (i-1)) (i+1)=AA bs f i:=by unfold AA;simp
   refine ⟨?_,?_⟩
   ·rw [e,e2]
    simpa using r1
   ·rw [e]
    simpa using r3
theorem At.later {w w':World} {bs:List (Nat×List Nat)} {f:Nat→Nat} {u:Nat→Value} {i:Nat} {x:Nat×List Nat} (h:At w bs f u i x) (hb:Below w.heap.size w w'):At w' bs f u i x:=by
 exact ⟨h.row.old hb,h.sl.below hb⟩
theorem nJ (bs:List (Nat×List Nat)):tagged (chain bs.reverse).reverse=tagged bs:=by
 unfold chain
 simp [tagged]
theorem pO (l:List (Nat×List Nat)) (m:Nat) (hm:m<l.length):tagged (l.take (m+1))=tagged (l.take m)++(l[m]).2.map fun t=>((l[m]).1,t):=by
 rw [List.take_succ_eq_append_getElem hm]
 exact M.oM _ _ _
theorem jQ (l:List (Nat×List Nat)) (m:Nat):(tagged (l.take m)).length≤(tagged l).length:=by
 have:tagged l=tagged (l.take m)++tagged (l.drop m):=by
  unfold tagged
  rw [←List.flatMap_append,List.take_append_drop]
 rw [this,List.length_append]
 omega
structure OI (W1:World) (gc n:Nat) (l:List (Nat×Nat)) (mv:Value) (w':World):Prop where
 below:Below W1.heap.size W1 w'
 cnt:Fn w' gc 3 n (fun k=>.int .i64 (((l.map Prod.snd).count k:Nat):Int))
 own:w'.ownsRow (gc+1) 81 3 mv (marks l).length (cU (marks l))
section
variable {w:World}
set_option maxRecDepth 20000 in
set_option maxHeartbeats 8000000 in
theorem DU (bS b n:Nat) (bs:List (Nat×List Nat)) {I:Nat→Prop} (c0:w.cell? ⟨bS,0,none⟩=some (.int .i64 (n:Int))) (hn:n≤64) (FV:eJ I w bs.reverse b) (hmem:∀ x∈bs,∀ k∈x.2,k<n) (pH:∀ x∈bs,x.1≤1000000000) (hlen:bs.length≤1000000000) (hA:(tagged bs).length≤1000000000000) :
  Calls Tryz.prog 260 #[.pointer (some ⟨bS,0,none⟩),.pointer (some ⟨b,0,none⟩)] w fun e w'=>∃ v,e = .returned v∧w'.ownsRow w.heap.size 81 3 v (marks (tagged bs)).length (cU (marks (tagged bs)))∧Below w.heap.size w w':=by
 obtain ⟨f,u,hf0,hAt⟩:=FV.at
 have hcl:(chain bs.reverse).length=bs.length+1:=by simp [chain]
 obtain ⟨N,hN⟩:∃ N,N=bs.length:=⟨_,rfl⟩
 obtain ⟨pi,YR,YS⟩:=Option.map_eq_some_iff.1 oN
 simp only [Prod.mk.injEq] at YS
 obtain ⟨fE,jK,YT⟩:=YS
 have YU:=aA YR
 have YV:=aA fE
 have YW:=aA jK
 have YY:=aA YT
 obtain ⟨mi,xK,xL⟩:=Option.map_eq_some_iff.1 rQ
 simp only [Prod.mk.injEq] at xL
 obtain ⟨kL,kM,kN⟩:=xL
 have KC:=aA xK
 have FA:=aA kL
 have FQ:=aA kM
 have FR:=aA kN
 clear YR fE jK YT xK kL kM kN
 have hmk:=dY (P:=Tryz.prog) 22 3 (.int .i64 0) 8 Tryz.underlying22 eH rfl (n:Int) n rfl (by omega) (by omega)
 have HAT:=aA (show ∀ i (h:i<(chain bs.reverse).length),At w bs.reverse f u i (chain bs.reverse)[i] from hAt)
 have HC0:=aA c0
 have LH:=aA hcl
 have GK:=aA hN
 have HF0:=aA hf0
 have LD:=aA hmem
 have UF:=aA pH
 have hNb:N≤1000000000:=by omega
 clear FV hAt c0 hcl hf0 hmem pH hN
 go_enter Tryz.func260,Tryz.ntmps260
 go_wp2
 go_loopg [5,6] (N+1) (fun g s p w'=>∃ i:Nat,i+g=N+1∧p=(if i≤N then Value.pointer (some ⟨f i,0,none⟩) else .pointer none)∧Below w.heap.size w w'∧w'.ownsRow w.heap.size 223 1 s i ((List.range i).map fun j=>Value.pointer (some ⟨f j,0,none⟩)))
 case atStart=>exact ⟨0,by omega,by rw [if_pos (Nat.zero_le _),HF0.out],Below.refl _ _,World.ownsRow_nil _ _ _ _⟩
 case round =>
  obtain ⟨i,hi,rfl,hB,hO⟩:=hrel
  have HB:=aA hB
  have HO:=aA hO
  have zS:=hB.size
  clear hB hO
  by_cases hle:i≤N
  ·rw [if_pos hle]
   go_wp2_with (at_builtin;refine bH _ rfl (.tmp 19) (.tmp 21) 384 rfl w.heap.size 223 pi (.pointer none) 1 8 Tryz.underlying384 YU.out YV.out YW.out YY.out rfl (by decide) _ i _ rfl (HO.out.alloc _) ⟨wr.heap.size,0,none⟩ 1 1 [.pointer (some ⟨f i,0,none⟩)] rfl rfl (World.news_of_block (Row.new _ _ _)) (by simp [Value.oneCell']) (by decide) (by unfold maxLen;omega) (by omega) (by simp;omega) ?_)
   intro g3 c3 w3 hown cG oW pZ
   have hvl:=HO.out.lt
   have cH:Below w.heap.size w w3:=(Below.next HB.out (aB _ _) zS).grown cG (by simp;omega) (fun q hq=>(hvl q hq).1)
   have FK:=((HAT.out i (by rw [LH.out,←GK.out];omega)).later cH).row
   have c2:w3.cell? ⟨f i,2,none⟩=some (AA bs.reverse f i):=FK.cell_of rfl
   have e2:AA bs.reverse f i=if i+1≤N then Value.pointer (some ⟨f (i+1),0,none⟩) else .pointer none:=by
    unfold AA
    rw [List.length_reverse,←GK.out]
    rfl
   have HR:=aA (And.intro cH hown)
   have XH:=aA e2
   clear hown cG oW pZ hvl FK cH e2
   generalize AA bs.reverse f i=nx at *
   go_wp2
   go_roundg (gk-1)
   case measure=>omega
   case rel =>
    refine ⟨i+1,by omega,XH.out,HR.out.1,?_⟩
    rw [List.range_succ,List.map_append]
    exact HR.out.2
  ·rw [if_neg hle]
   have hiN:i=N+1:=by omega
   subst hiN
   rename World=>W1
   obtain ⟨gb,sc,eb,-⟩:=sY HO.out (i:=0) (u:=.pointer (some ⟨f 0,0,none⟩)) (by simp)
   subst eb
   have OU:=aA (show ∀ j,j≤N→W1.cell? ⟨gb,j,none⟩=some (.pointer (some ⟨f j,0,none⟩)) from fun j hj=>by
    have:=HO.out.cells (g:=gb) rfl j (.pointer (some ⟨f j,0,none⟩)) (by simp [List.getElem?_range (show j<N+1 by omega)])
    rwa [eM,Nat.zero_add] at this)
   have aGw:gb<W1.heap.size:=(HO.out.lt gb rfl).2
   have c0:W1.cell? ⟨bS,0,none⟩=some (.int .i64 (n:Int)):=cell_later HB.out HC0.out
   go_wp2
   generalize xO:World.alloc W1 _=W2
   have HOI:=aA (show OI W1 W1.heap.size n [] (.slice none 0 0) W2 from by
    rw [←xO]
    refine ⟨aB _ _,?_,World.ownsRow_nil _ _ _ _⟩
    have:(List.range n).map (fun k=>Value.int .i64 ((((([]:List (Nat×Nat)).map Prod.snd).count k:Nat):Int)))=zeros (.int .i64 0) n:=by
     unfold zeros
     apply List.ext_getElem
     ·simp
     ·intro i h1 h2;simp
    unfold Fn
    rw [this]
    exact Row.new' rfl)
   have aBj:=aA (show ∀ m (hm:m≤N),(chain bs.reverse).reverse[m]'(by rw [List.length_reverse,LH.out,←GK.out];omega)=(chain bs.reverse)[N-m]'(by rw [LH.out,←GK.out];omega) from fun m hm=>by
    rw [List.getElem_reverse]
    congr 1
    rw [LH.out,←GK.out]
    omega)
   have XE:=aA (nJ bs)
   have HOL:=aA (show (chain bs.reverse).reverse.length=N+1 by rw [List.length_reverse,LH.out,←GK.out])
   have HXM:=aA (show ∀ x∈(chain bs.reverse).reverse,(∀ k∈x.2,k<n)∧x.1≤1000000000 from fun x hx=>by
    rw [List.mem_reverse] at hx
    unfold chain at hx
    rcases List.mem_append.1 hx with q|q
    ·rw [List.mem_reverse] at q
     exact ⟨LD.out x q,UF.out x q⟩
    ·rw [List.mem_singleton.1 q]
     exact ⟨fun k hk=>absurd hk List.not_mem_nil,by decide⟩)
   clear xO c0 LD UF
   obtain ⟨ord,ho⟩:∃ ord,ord=(chain bs.reverse).reverse:=⟨_,rfl⟩
   rw [←ho] at XE
   have HO':=aA ho
   go_loopw [7,9] (fun mv i w'=>∃ m:Nat,m≤N+1∧i = .int .i64 ((N:Int)-(m:Int))∧OI W1 W1.heap.size n (tagged (ord.take m)) mv w') (fun _ i _=>(intOf i+1).toNat)
   case atStart=>exact ⟨0,Nat.zero_le _,by go_num,HOI.out⟩
   case round =>
    obtain ⟨m,hm,rfl,hI⟩:=hrel
    by_cases hlt:m≤N
    ·have hlt':¬(N:Int)-(m:Int)<0:=by omega
     have hol:m<ord.length:=by rw [ho,HOL.out];omega
     have hx0:ord[m]=(chain bs.reverse)[N-m]'(by rw [LH.out,←GK.out];omega):=by
      have:=aBj.out m hlt
      simp only [ho]
      exact this
     have hat:=HAT.out (N-m) (by rw [LH.out,←GK.out];omega)
     have hBI:=Below.next HB.out hI.below HB.out.size
     rw [←hx0] at hat
     obtain ⟨VU,hxn⟩:=HXM.out ord[m] (by rw [←ho];exact List.getElem_mem hol)
     have AW:=pO ord m hol
     have UG:(tagged (ord.take m)).length+(ord[m]).2.length≤1000000000000:=by
      have h1:=jQ ord (m+1)
      rw [AW,List.length_append,List.length_map,XE.out] at h1
      omega
     obtain ⟨q,hq⟩:∃ q,q=(ord[m]).1:=⟨_,rfl⟩
     obtain ⟨p,hp⟩:∃ p,p=(ord[m]).2:=⟨_,rfl⟩
     rw [←hq,←hp] at AW
     rw [←hp] at UG VU
     rw [←hq] at hxn
     have hrow:=hat.row
     rw [←hq] at hrow
     have rW:=hat.sl
     rw [←hp] at rW
     obtain ⟨ua,uc,eu,hul,-,yJ⟩:=rW.open_ints
     rw [List.length_map] at eu hul
     have b0w:w.cell? ⟨f (N-m),0,none⟩=some (.int .i64 (q:Int)):=hrow.cell_of rfl
     have b0:=cell_later hBI b0w
     have b1:wr.cell? ⟨f (N-m),1,none⟩=some (.slice ua p.length uc):=by rw [←eu];exact cell_later hBI (hrow.cell_of rfl)
     have bt:wr.cell? ⟨gb,N-m,none⟩=some (.pointer (some ⟨f (N-m),0,none⟩)):=cell_later hI.below (OU.out _ (by omega))
     have hNm:((N-m:Nat):Int)=(N:Int)-(m:Int):=by omega
     have hx1:(N:Int)-(m:Int)<(N:Int)+1:=by omega
     have aGA:((N:Int)-(m:Int)).toNat=N-m:=by omega
     have HUC:=aA (show ∀ W,Below w.heap.size w W→∀ r (hr:r<p.length),∃ g off,ua=some ⟨g,off,none⟩∧W.cell? ⟨g,off+r,none⟩=some (.int .i64 ((p[r]:Nat):Int)) from fun W hW r hr=>by
      obtain ⟨g,off,e1,e2⟩:=yJ r (by simpa using hr)
      refine ⟨g,off,e1,?_⟩
      have:=cell_later hW e2
      simpa using this)
     have HTT:=aA AW
     have HPL:=aA VU
     have HI:=aA hI
     have HFC:=aA b0w
     have hm2:(marks (tagged (ord.take m))).length≤1000000000000:=by rw [M.iJ];omega
     clear hx0 hat hrow rW yJ AW VU hI hq hp eu hBI b0w b0
     go_wp2
     go_loopw [7,44] (fun mv i w'=>∃ r:Nat,r≤p.length∧i = .int .i64 (r:Int)∧OI W1 W1.heap.size n (tagged (ord.take m)++(p.take r).map fun t=>(q,t)) mv w') (fun _ i _=>p.length-(intOf i).toNat)
     case atStart=>exact ⟨0,Nat.zero_le _,rfl,by simpa using HI.out⟩
     case round =>
      obtain ⟨r,hr,rfl,hJ⟩:=hrel
      obtain ⟨l,hl⟩:∃ l,l=tagged (ord.take m)++(p.take r).map fun t=>(q,t):=⟨_,rfl⟩
      rw [←hl] at hJ
      have XR:l.length≤1000000000000:=by
       rw [hl,List.length_append,List.length_map,List.length_take]
       omega
      by_cases OX:r<p.length
      ·have KX:(r:Int)<(p.length:Int):=by omega
       have uX:(0:Int)≤(r:Int):=by omega
       have hBJ:=Below.next HB.out hJ.below HB.out.size
       obtain ⟨g,off,rfl,cr⟩:=HUC.out _ hBJ r OX
       obtain ⟨tt,AW⟩:∃ tt,tt=p[r]:=⟨_,rfl⟩
       have htn:tt<n:=by rw [AW];exact HPL.out _ (List.getElem_mem OX)
       rw [←AW] at cr
       have bt2:wr.cell? ⟨gb,N-m,none⟩=some (.pointer (some ⟨f (N-m),0,none⟩)):=cell_later hJ.below (OU.out _ (by omega))
       have b02:wr.cell? ⟨f (N-m),0,none⟩=some (.int .i64 (q:Int)):=cell_later hBJ HFC.out
       have hfl:f (N-m)<W1.heap.size:=Nat.lt_of_lt_of_le (World.block_lt_of_cell? w _ HFC.out) HB.out.size
       have HLS:=aA (show tagged (ord.take m)++(p.take (r+1)).map (fun t=>(q,t))=l++[(q,tt)] by
        rw [hl,List.take_succ_eq_append_getElem OX,List.map_append,AW,List.append_assoc]
        rfl)
       have HMS:=aA (M.rC l q tt)
       have hA9:(l.map Prod.snd).count tt≤1000000000000:=Nat.le_trans List.count_le_length (by simpa using XR)
       have HCN:=aA (show ∀ k,((l++[(q,tt)]).map Prod.snd).count k=(l.map Prod.snd).count k+if k=tt then 1 else 0 from fun k=>by
        rw [List.map_append,List.count_append]
        congr 1
        by_cases e:k=tt
        ·subst e;simp
        ·simp [e,Ne.symm e])
       have ct:wr.cell? ⟨W1.heap.size,tt,none⟩=some (.int .i64 (((l.map Prod.snd).count tt:Nat):Int)):=hJ.cnt.cell htn
       have cf:=hJ.cnt.frozen tt
       have aGI:(tt:Int)<(n:Int):=by omega
       have fG:(0:Int)≤(tt:Int):=by omega
       have hml:(marks l).length≤1000000000000:=by rw [M.iJ];exact XR
       have hmo:=hJ.own.lt
       have hzr:W1.heap.size<wr.heap.size:=hJ.cnt.lt
       obtain ⟨⟨oa,oc,rfl⟩,-⟩:=bG hJ.own
       have HJ:=aA hJ
       clear hJ hBJ hl AW
       generalize hA:(l.map Prod.snd).count tt=A at *
       have HAA:=aA hA
       clear hA
       have OW:some gb≠(Value.slice oa (marks l).length oc).ownBlock:=fun e=>by have:=(hmo _ e.symm).1;omega
       have XN:some (f (N-m))≠(Value.slice oa (marks l).length oc).ownBlock:=fun e=>by have:=(hmo _ e.symm).1;omega
       have UH:some W1.heap.size≠(Value.slice oa (marks l).length oc).ownBlock:=fun e=>by have:=(hmo _ e.symm).1;omega
       go_upto_region 14 with fail
       refine gO (S:=(fun w'=>w'.cell? ⟨gb,N-m,none⟩=some (.pointer (some ⟨f (N-m),0,none⟩))∧w'.cell? ⟨f (N-m),0,none⟩=some (.int .i64 (q:Int))∧w'.cell? ⟨W1.heap.size,tt,none⟩=some (.int .i64 (A:Int)))) 17 rfl (by kernel_rfl) ?_ (fun hHeld=>?_)
       ·exact ⟨bt2,b02,ct⟩
       iterate 14 (refine tk 16 (by rfl) (by kernel_rfl) (by exact fun _ _ _ h=>h) (.inl ⟨by rfl,fun w hS=>by (try dsimp only at hS);go_simp;(try with_reducible rfl)⟩) (by assumption) ?_;try go_frame)
       refine aU 14 (by rfl) (by kernel_rfl) (fun K hK=>?_)
       go_simp
       refine hK.out _ _ ?_ (fun hHeld=>?_)
       ·exact ⟨cell_later (aB _ _) hHeld.1,cell_later (aB _ _) hHeld.2.1,cell_later (aB _ _) hHeld.2.2⟩
       clear hK K
       (try go_frame)
       refine aU 15 (by rfl) (by kernel_rfl) (fun K hK=>?_)
       refine step_append_lies _ rfl (.tmp 48) (.tmp 62) 43 rfl (W1.heap.size+1) 81 mi (.agg #[.int .i64 0,.int .i64 0,.int .i64 0]) 3 24 Tryz.underlying43 KC.out FA.out FQ.out FR.out rfl (by decide) (.slice oa (marks l).length oc) (marks l).length (cU (marks l)) rfl ?_ ⟨wr.heap.size,0,none⟩ 1 1 [.int .i64 (q:Int),.int .i64 (tt:Int),.int .i64 (A:Int)] rfl rfl ?_ (by simp [Value.oneCell']) (by decide) (by unfold maxLen;omega) (by omega) (by simp;omega) _ rfl ?_
       ·exact HJ.out.own.alloc _
       ·exact World.news_of_block (Row.new' (by simp))
       intro g4 gc4 w4 hown cG hat gF
       have GL:=aA hown
       have HG:=aA cG
       clear hown cG hat gF
       refine hK.out _ _ ?_ (fun hHeld=>?_)
       ·exact ⟨HG.out.cell hHeld.1 OW,HG.out.cell hHeld.2.1 XN,HG.out.cell hHeld.2.2 UH⟩
       clear hK K
       (try go_frame)
       iterate 1 (refine tk 16 (by rfl) (by kernel_rfl) (by exact fun _ _ _ h=>h) (.inl ⟨by rfl,fun w hS=>by (try dsimp only at hS);go_simp;(try with_reducible rfl)⟩) (by assumption) ?_;try go_frame)
       refine wpAnyH_done (by kernel_rfl) ?_ _
       have LI:Fn w4 W1.heap.size 3 n (fun k=>.int .i64 (((l.map Prod.snd).count k:Nat):Int)):=HJ.out.cnt.of_block ((HG.out.block _ (by simp;omega) UH).trans ((aB wr (.cells #[.int .i64 (q:Int),.int .i64 (tt:Int),.int .i64 (A:Int)] 81)).block _ hzr))
       have ct4:=hHeld.2.2
       have cf4:=LI.frozen tt
       have eF:Below W1.heap.size W1 w4:=(Below.next HJ.out.below (Below.drew (aB wr (.cells #[.int .i64 (q:Int),.int .i64 (tt:Int),.int .i64 (A:Int)] 81))) HJ.out.below.size).grown HG.out (by simp;omega) (fun x hx=>by have:=(hmo x hx).1;omega)
       have VQ:W1.heap.size+1≤g4:=(GL.out.lt g4 rfl).1
       have GM:=aA (show OI W1 W1.heap.size n (l++[(q,tt)]) (.slice (some ⟨g4,0,none⟩) ((marks l).length+1) gc4) (w4.setCell ⟨W1.heap.size,tt,none⟩ (.int .i64 ((A:Int)+1))) from by
        refine ⟨eF.setCell (Nat.le_refl _) _,?_,?_⟩
        ·refine Fn.congr (LI.set tt (.int .i64 ((A:Int)+1))) fun k hk=>?_
         rw [HCN.out k]
         by_cases e:k=tt
         ·rw [e,aC,if_pos rfl,HAA.out];rfl
         ·rw [aD _ _ e,if_neg e];rfl
        ·rw [HMS.out,lU,List.length_append,List.length_singleton]
         have:=ownsRow_setCell_other GL.out (a:=⟨W1.heap.size,tt,none⟩) (by simp [Value.ownBlock];omega) (.int .i64 ((A:Int)+1))
         simpa [cU] using this)
       clear hHeld LI eF HG GL
       go_wp2
       go_roundw
       case rel=>exact ⟨r+1,by omega,by go_num,by rw [HLS.out];exact GM.out⟩
       case measure=>simp [intOf];omega
      ·have KX:¬(r:Int)<(p.length:Int):=by omega
       have HE:=aA (show OI W1 W1.heap.size n (tagged (ord.take (m+1))) _ wr by
        rw [HTT.out]
        rw [hl,List.take_of_length_le (show p.length≤r by omega)] at hJ
        exact hJ)
       clear hJ hl
       go_wp2
       go_roundw
       case rel=>exact ⟨m+1,by omega,by go_num,HE.out⟩
       case measure=>simp [intOf];omega
    ·have hlt':(N:Int)-(m:Int)<0:=by omega
     have HE:=aA (show wr.ownsRow w.heap.size 81 3 _ (marks (tagged bs)).length (cU (marks (tagged bs)))∧Below w.heap.size w wr from by
      have h1:=hI.own
      rw [List.take_of_length_le (by rw [ho,HOL.out];omega),XE.out] at h1
      exact ⟨dV h1 (by have:=HB.out.size;omega),Below.next HB.out hI.below HB.out.size⟩)
     clear hI
     go_wp2
     go_ret
     exact ⟨_,rfl,HE.out.1,HE.out.2⟩
end
end Go.Proofs.YtefjhnhdagolhaaGreat.list
namespace Go.Proofs.YtefjhnhdagolhaaGreat.list
open Go.RowKit
open M (aI aC aD dA aS cA aR aT aO aG aJ marks tagged num YI)
attribute [local go_sem ↓] Go.wp_at_zero Go.wp_at_succ
section
variable {σ:Type} {R:SR σ} {P:M.Plain σ} {L:Lt} {S:Nat→Prop} {E:cA σ} {Y:aR} {w:World} {t:Nat}
theorem uG (bs:List (List Nat)):numOf (num bs).reverse=bs.length:=by
 rcases List.eq_nil_or_concat bs with rfl|⟨l,p,rfl⟩
 ·rfl
 ·rw [List.concat_eq_append,M.mO,List.reverse_append]
  simp [numOf]
theorem tD (bs:List (List Nat)):∀ x∈num bs,x.1≤bs.length∧x.2∈bs:=by
 intro x hx
 unfold M.num at hx
 obtain ⟨i,hi,e⟩:=List.mem_mapIdx.1 hx
 subst e
 exact ⟨by dsimp only;omega,List.getElem_mem hi⟩
def rT (P:M.Plain σ) (Y:aR):σ:=(M.replay P (fun k i=>((Y.th k).ops).getD i ⟨0,0,0⟩) Y.bs).st
theorem Both.cur (h:Both R P L S E Y w):∃ f,E.gC E.prec=some (⟨rT P Y,num Y.bs⟩,f):=by
 obtain ⟨pb,nf,-,G,-⟩:=h.inv
 exact G.zL
theorem Both.mem (h:Both R P L S E Y w):∀ b∈Y.bs,∀ k∈b,k<L.n:=by
 obtain ⟨pb,nf,-,G,-⟩:=h.inv
 exact G.mem
theorem Both.newest (h:Both R P L S E Y w) (hN:Y.bs.length≤1000000000) {W:World} (hb:Below w.heap.size w W) :
  Calls Tryz.prog 261 #[.pointer (some ⟨L.bS,0,none⟩)] W fun e w'=>∃ q0 bB,e = .returned (.agg #[.pointer q0,.pointer (some ⟨bB,0,none⟩)])∧R.rep (fun k=>S k∧¬L.own k) W (rT P Y) [.pointer q0]∧eJ (fun k=>S k∧¬L.own k) W (num Y.bs).reverse bB∧Below W.heap.size W w':=by
 obtain ⟨f,hf⟩:=h.cur
 exact xT (h.re.stay (fun k hk=>hb.block k (h.re.lt k hk)) (fun _ hk=>hk) (fun k hk=>Nat.lt_of_lt_of_le (h.re.lt k hk) hb.size)) hf h.zU.pr (by rw [h.dZ];exact hN) (by rw [h.dZ];exact uG _)
set_option maxRecDepth 20000 in
set_option maxHeartbeats 2000000 in
theorem DV (h:Both R P L S E Y w) (hN:Y.bs.length≤1000000000) (hA:Y.bs.flatten.length≤1000000000000) :
  Calls Tryz.prog 253 #[.pointer (some ⟨L.bE,0,none⟩)] w fun e w'=>∃ v,e = .returned v∧w'.ownsRow w.heap.size 81 3 v Y.order.length (cU Y.order)∧Below w.heap.size w w':=by
 have c0:w.cell? ⟨L.bE,0,none⟩=some (.pointer (some ⟨L.bS,0,none⟩)):=h.re.fL.cell_of rfl
 have s0:w.cell? ⟨L.bS,0,none⟩=some (.int .i64 (L.n:Int)):=h.re.sh.cell_of rfl
 have HNW:=aA (fun (W:World) (hb:Below w.heap.size w W)=>h.newest hN hb)
 have HTA:=aA (show (tagged (num Y.bs)).length≤1000000000000 by have:=congrArg List.length (M.mY Y.bs);rw [List.length_map] at this;omega)
 have ZQ:=aA (fun (W:World) (bB:Nat) (hc:W.cell? ⟨L.bS,0,none⟩=some (.int .i64 (L.n:Int))) (FV:eJ (fun k=>S k∧¬L.own k) W (num Y.bs).reverse bB)=>DU (w:=W) L.bS bB L.n (num Y.bs) hc h.re.ok.n64 FV (fun x hx k hk=>h.mem x.2 (tD Y.bs x hx).2 k hk) (fun x hx=>Nat.le_trans (tD Y.bs x hx).1 hN) (by rw [M.MW];exact hN) HTA.out)
 have hfl:∀ q0 bB W,(Instr.field 239 (.agg #[.pointer q0,.pointer (some ⟨bB,0,none⟩)]) 1).run Tryz.prog W = .ok (.pointer (some ⟨bB,0,none⟩)) W:=fun _ _ _=>by kernel_rfl
 have TU:=aA h.re.lt
 clear h hN hA
 go_enter Tryz.func253,Tryz.ntmps253
 go_wp2
 refine gO (S:=(fun w'=>w'.cell? ⟨L.bE,0,none⟩=some (.pointer (some ⟨L.bS,0,none⟩))∧Below w.heap.size w w')) 12 rfl (by kernel_rfl) ?_ (fun hHeld=>?_)
 ·exact ⟨c0,Below.drew (Below.refl _ _)⟩
 iterate 8 (refine tk 11 (by rfl) (by kernel_rfl) (by exact fun _ _ _ h=>h) (.inl ⟨by rfl,fun w hS=>by (try dsimp only at hS);go_simp;(try with_reducible rfl)⟩) (by assumption) ?_;try go_frame)
 refine aU 8 (by rfl) (by kernel_rfl) (fun K hK=>?_)
 go_simp
 refine (HNW.out _ hHeld.2).mono ?_
 rintro e w2 ⟨q0,bB,rfl,-,xU,aP⟩
 have QS:=aA (eJ.stay (I':=fun k=>S k∧¬L.own k) (w':=w2) (fun k hk hl=>⟨hk,aP.block k hl⟩) (fun k hk=>Nat.lt_of_lt_of_le (TU.out k hk.1) hHeld.2.size) _ _ xU)
 clear xU
 go_wp2_with fail
 refine hK.out _ _ ?_ (fun hHeld=>?_)
 ·exact ⟨cell_later aP hHeld.1,Below.next hHeld.2 aP hHeld.2.size⟩
 clear hK K
 (try go_frame)
 iterate 1 (refine tk 11 (by rfl) (by kernel_rfl) (by exact fun _ _ _ h=>h) (.inl ⟨by rfl,fun w hS=>by (try dsimp only at hS);go_simp;(try with_reducible rfl)⟩) (by assumption) ?_;try go_frame)
 refine aU 10 (by rfl) (by kernel_rfl) (fun K hK=>?_)
 go_simp
 refine (ZQ.out _ _ (cell_later hHeld.2 s0) QS.out).mono ?_
 rintro e w3 ⟨v,rfl,hO3,cH⟩
 have HO3:=aA (dV hO3 hHeld.2.size)
 clear hO3
 go_wp2_with fail
 refine hK.out _ _ ?_ (fun hHeld=>?_)
 ·exact ⟨cell_later cH hHeld.1,Below.next hHeld.2 cH hHeld.2.size⟩
 clear hK K
 (try go_frame)
 iterate 1 (refine tk 11 (by rfl) (by kernel_rfl) (by exact fun _ _ _ h=>h) (.inl ⟨by rfl,fun w hS=>by (try dsimp only at hS);go_simp;(try with_reducible rfl)⟩) (by assumption) ?_;try go_frame)
 refine wpAnyH_done (by kernel_rfl) ?_ _
 (try go_wp2_with fail)
 go_ret
 exact ⟨_,rfl,HO3.out,hHeld.2⟩
structure DX (R:SR σ) (L:Lt) (tell:σ→List Int) (fT:Nat) (rv:Value):Prop where
 m:∀ W,(method 553 L.oT L.ov "Tell").run Tryz.prog W = .ok (fT,rv) W
 c:∀ (s:Value) (W:World),(callFunc fT #[rv,s]).run Tryz.prog W = .ok (.enter fT #[rv,s]) W
 f:∀ (I:Nat→Prop) (W:World) (s:σ) q0,R.rep I W s [.pointer q0]→R.sz s≤1000000000000→(∀ k,I k→k<W.heap.size)→Calls Tryz.prog fT #[rv,.pointer q0] W fun e w'=>∃ v,e = .returned v∧w'.ownsRow W.heap.size 3 1 v (tell s).length (ints (tell s))∧Below W.heap.size W w'
set_option maxRecDepth 20000 in
set_option maxHeartbeats 2000000 in
theorem DY {tell:σ→List Int} {fT:Nat} {rv:Value} (hT:DX R L tell fT rv) (hZ:M.qH R.sz P) (h:Both R P L S E Y w) (hN:Y.bs.length≤1000000000) (hF:Y.bs.flatten.length≤100000000000) :
  Calls Tryz.prog 254 #[.pointer (some ⟨L.bE,0,none⟩)] w fun e w'=>∃ v,e = .returned v∧w'.ownsRow w.heap.size 3 1 v (tell (rT P Y)).length (ints (tell (rT P Y)))∧Below w.heap.size w w':=by
 have c0:w.cell? ⟨L.bE,0,none⟩=some (.pointer (some ⟨L.bS,0,none⟩)):=h.re.fL.cell_of rfl
 have c1:w.cell? ⟨L.bS,1,none⟩=some (.iface L.oT L.ov):=h.re.sh.cell_of rfl
 have HNW:=aA (fun (W:World) (hb:Below w.heap.size w W)=>h.newest hN hb)
 have hfl:∀ q0 bB W,(Instr.field 239 (.agg #[.pointer q0,.pointer (some ⟨bB,0,none⟩)]) 0).run Tryz.prog W = .ok (.pointer q0) W:=fun _ _ _=>by kernel_rfl
 have hm:=hT.m
 have dN:=hT.c
 have HT:=aA hT
 have TU:=aA h.re.lt
 have hsz:R.sz (rT P Y)≤1000000000000:=by have:=M.pU hZ (fun k i=>((Y.th k).ops).getD i ⟨0,0,0⟩) Y.bs;show R.sz (M.replay P _ Y.bs).st≤_;omega
 clear h hN hT hZ hF
 go_enter Tryz.func254,Tryz.ntmps254
 go_wp2
 refine gO (S:=(fun w'=>w'.cell? ⟨L.bE,0,none⟩=some (.pointer (some ⟨L.bS,0,none⟩))∧w'.cell? ⟨L.bS,1,none⟩=some (.iface L.oT L.ov)∧Below w.heap.size w w')) 17 rfl (by kernel_rfl) ?_ (fun hHeld=>?_)
 ·exact ⟨c0,c1,Below.drew (Below.refl _ _)⟩
 iterate 11 (refine tk 16 (by rfl) (by kernel_rfl) (by exact fun _ _ _ h=>h) (.inl ⟨by rfl,fun w hS=>by (try dsimp only at hS);go_simp;(try with_reducible rfl)⟩) (by assumption) ?_;try go_frame)
 iterate 2 (refine tk 18 (by rfl) (by kernel_rfl) (by exact fun _ _ _ h=>h) (.inl ⟨by rfl,fun w hS=>by (try dsimp only at hS);go_simp;(try with_reducible rfl)⟩) (by assumption) ?_;try go_frame)
 refine aU 11 (by rfl) (by kernel_rfl) (fun K hK=>?_)
 go_simp
 refine (HNW.out _ hHeld.2.2).mono ?_
 rintro e w2 ⟨q0,bB,rfl,UI,-,aP⟩
 have HRP:=aA (R.stay (I':=fun k=>S k∧¬L.own k) (w':=w2) (fun k hk hl=>⟨hk,aP.block k hl⟩) UI)
 clear UI
 go_wp2_with fail
 refine hK.out _ _ ?_ (fun hHeld=>?_)
 ·exact ⟨cell_later aP hHeld.1,cell_later aP hHeld.2.1,Below.next hHeld.2.2 aP hHeld.2.2.size⟩
 clear hK K
 (try go_frame)
 iterate 1 (refine tk 14 (by rfl) (by kernel_rfl) (by exact fun _ _ _ h=>h) (.inl ⟨by rfl,fun w hS=>by (try dsimp only at hS);go_simp;(try with_reducible rfl)⟩) (by assumption) ?_;try go_frame)
 refine aU 15 (by rfl) (by kernel_rfl) (fun K hK=>?_)
 go_simp
 refine (HT.out.f _ _ (rT P Y) q0 HRP.out hsz (fun k hk=>Nat.lt_of_lt_of_le (TU.out k hk.1) hHeld.2.2.size)).mono ?_
 rintro e w3 ⟨v,rfl,ho3,cH⟩
 have HO3:=aA (dV ho3 hHeld.2.2.size)
 clear ho3
 go_wp2_with fail
 refine hK.out _ _ ?_ (fun hHeld=>?_)
 ·exact ⟨cell_later cH hHeld.1,cell_later cH hHeld.2.1,Below.next hHeld.2.2 cH hHeld.2.2.size⟩
 clear hK K
 (try go_frame)
 iterate 1 (refine tk 16 (by rfl) (by kernel_rfl) (by exact fun _ _ _ h=>h) (.inl ⟨by rfl,fun w hS=>by (try dsimp only at hS);go_simp;(try with_reducible rfl)⟩) (by assumption) ?_;try go_frame)
 refine wpAnyH_done (by kernel_rfl) ?_ _
 (try go_wp2_with fail)
 go_ret
 exact ⟨v,rfl,HO3.out,hHeld.2.2⟩
def aBp (n cap:Nat):Int:=4+2*((cap:Int)+3+2*(((n:Int)+15) / 16+2*(n:Int)+1)+((n:Int)+15) / 16+3*(n:Int))+3
set_option maxRecDepth 20000 in
set_option maxHeartbeats 1000000 in
theorem DZ (h:Both R P L S E Y w) :
  Calls Tryz.prog 251 #[.pointer (some ⟨L.bE,0,none⟩)] w fun e w'=>e = .returned (.int .i64 (aBp L.n L.cap))∧Below w.heap.size w w':=by
 have c0:w.cell? ⟨L.bE,0,none⟩=some (.pointer (some ⟨L.bS,0,none⟩)):=h.re.fL.cell_of rfl
 have c2:w.cell? ⟨L.bE,2,none⟩=some (.int .i64 (L.cap:Int)):=h.re.fL.cell_of rfl
 have cs:w.cell? ⟨L.bS,0,none⟩=some (.int .i64 (L.n:Int)):=h.re.sh.cell_of rfl
 have lD:=h.re.ok.n1
 have rS:=h.re.ok.n64
 have xQ:=h.re.ok.vD
 clear h
 go_enter Tryz.func251,Tryz.ntmps251
 go_wp2
 generalize jE:World.alloc w _=W0
 have hb0:Below w.heap.size w W0:=by rw [←jE];exact aB w _
 have d2:W0.cell? ⟨L.bE,2,none⟩=some (.int .i64 (L.cap:Int)):=cell_later hb0 c2
 have dl:W0.cell? ⟨w.heap.size,0,none⟩=some (.int .i64 (L.n:Int)):=by rw [←jE];exact (Row.new w [_] 287).cell_of rfl
 have hw1:IntKind.i64.wrap ((L.cap:Int)+3)=(L.cap:Int)+3:=dJ _ (by omega) (by omega)
 have YP:IntKind.i64.wrap (3*(L.n:Int))=3*(L.n:Int):=dJ _ (by omega) (by omega)
 clear jE c0 c2 cs
 refine gO (S:=(fun w'=>w'.cell? ⟨L.bE,2,none⟩=some (.int .i64 (L.cap:Int))∧w'.cell? ⟨w.heap.size,0,none⟩=some (.int .i64 (L.n:Int))∧Below w.heap.size w w')) 17 rfl (by kernel_rfl) ?_ (fun hHeld=>?_)
 ·exact ⟨d2,dl,hb0.drew⟩
 iterate 6 (refine tk 16 (by rfl) (by kernel_rfl) (by exact fun _ _ _ h=>h) (.inl ⟨by rfl,fun w hS=>by (try dsimp only at hS);go_simp;(try with_reducible rfl)⟩) (by assumption) ?_;try go_frame)
 iterate 1 (refine tk 19 (by rfl) (by kernel_rfl) (by exact fun _ _ _ h=>h) (.inl ⟨by rfl,fun w hS=>by (try dsimp only at hS);go_simp;(try with_reducible rfl)⟩) (by assumption) ?_;try go_frame)
 iterate 3 (refine tk 21 (by rfl) (by kernel_rfl) (by exact fun _ _ _ h=>h) (.inl ⟨by rfl,fun w hS=>by (try dsimp only at hS);go_simp;(try with_reducible rfl)⟩) (by assumption) ?_;try go_frame)
 refine aU 6 (by rfl) (by kernel_rfl) (fun K hK=>?_)
 go_simp
 refine (kC (L.n:Int) _ (by omega) (by omega)).mono ?_
 rintro e w2 ⟨rfl,aP⟩
 go_wp2_with fail
 refine hK.out _ _ ?_ (fun hHeld=>?_)
 ·exact ⟨cell_later aP hHeld.1,cell_later aP hHeld.2.1,Below.next hHeld.2.2 aP hHeld.2.2.size⟩
 clear hK K
 (try go_frame)
 iterate 2 (refine tk 12 (by rfl) (by kernel_rfl) (by exact fun _ _ _ h=>h) (.inl ⟨by rfl,fun w hS=>by (try dsimp only at hS);go_simp;(try with_reducible rfl)⟩) (by assumption) ?_;try go_frame)
 refine aU 10 (by rfl) (by kernel_rfl) (fun K hK=>?_)
 go_simp
 refine (aZ (L.n:Int) _ (by omega) (by omega)).mono ?_
 rintro e w3 ⟨rfl,cH⟩
 go_wp2_with fail
 refine hK.out _ _ ?_ (fun hHeld=>?_)
 ·exact ⟨cell_later cH hHeld.1,cell_later cH hHeld.2.1,Below.next hHeld.2.2 cH hHeld.2.2.size⟩
 clear hK K
 (try go_frame)
 iterate 1 (refine tk 13 (by rfl) (by kernel_rfl) (by exact fun _ _ _ h=>h) (.inl ⟨by rfl,fun w hS=>by (try dsimp only at hS);go_simp;(try with_reducible rfl)⟩) (by assumption) ?_;try go_frame)
 iterate 2 (refine tk 16 (by rfl) (by kernel_rfl) (by exact fun _ _ _ h=>h) (.inl ⟨by rfl,fun w hS=>by (try dsimp only at hS);go_simp;(try with_reducible rfl)⟩) (by assumption) ?_;try go_frame)
 refine wpAnyH_done (by kernel_rfl) ?_ _
 (try go_wp2_with fail)
 go_ret
 exact ⟨rfl,hHeld.2.2⟩
end
end Go.Proofs.YtefjhnhdagolhaaGreat.list
namespace Go.Proofs.YtefjhnhdagolhaaGreat.list
open Go.RowKit
open M (aI aC aD dA aS cA aR aT aO aG aJ marks tagged num YI)
attribute [local go_sem ↓] Go.wp_at_zero Go.wp_at_succ
section
variable {σ:Type} {R:SR σ} {P:M.Plain σ} {L:Lt} {S S':Nat→Prop} {E:cA σ} {Y Y' vK:aR} {w w1 w2:World} {t K:Nat}
theorem Both.yi (h:Both R P L S E Y w):YI P L.n L.cap Y:=⟨E,h.inv⟩
theorem Both.stay (h:Both R P L S E Y w) (hk:∀ k,S k→w1.heap[k]?=w.heap[k]?) (hS:∀ k,S k→S' k) (hlt:∀ k,S' k→k<w1.heap.size):Both R P L S' E Y w1:=⟨h.re.stay hk hS hlt,h.inv,h.zU,h.vU⟩
theorem Goes.next (h:Goes R P L S w Y' w1) (h':Goes R P L (grown S w w1) w1 vK w2):Goes R P L S w vK w2:=by
 obtain ⟨E1,b1⟩:=h.ex
 obtain ⟨E2,b2⟩:=h'.ex
 exact Goes.left (Left.next ⟨b1.re,h.fr⟩ ⟨b2.re,h'.fr⟩) b2.inv b2.zU b2.vU
theorem Goes.GN (h:Goes R P L S w Y' w1) {B:Nat} (hk:∀ k,k≠B→k<w1.heap.size→w2.heap[k]?=w1.heap[k]?) (ho:w2.os=w1.os∧w2.tape=w1.tape∧w2.output=w1.output) (hz:w1.heap.size≤w2.heap.size) (hBS:¬S B) (hB:B<w.heap.size) :
  (∃ E',Both R P L (grown S w w2) E' Y' w2)∧w2.os=w.os∧w2.tape=w.tape∧w2.output=w.output∧w.heap.size≤w2.heap.size∧∀ k,k<w.heap.size→k≠B→¬L.own k→w2.heap[k]?=w.heap[k]?:=by
 obtain ⟨E1,b1⟩:=h.ex
 refine ⟨⟨E1,b1.stay (fun k hS=>hk k (fun e=>?_) (b1.re.lt k hS)) (fun k hS=>?_) (fun k hS=>?_)⟩,ho.1.trans h.fr.os,ho.2.1.trans h.fr.tape,ho.2.2.trans h.fr.output,Nat.le_trans h.fr.size hz,fun k hkk hne ho'=>(hk k hne (Nat.lt_of_lt_of_le hkk h.fr.size)).trans (h.fr.block k hkk ho')⟩
 ·subst e
  rcases hS with hS|hS
  ·exact hBS hS
  ·omega
 ·rcases hS with hS|hS
  ·exact .inl hS
  ·exact .inr ⟨hS.1,Nat.lt_of_lt_of_le hS.2 hz⟩
 ·rcases hS with hS|hS
  ·exact Nat.lt_of_lt_of_le (b1.re.lt k (.inl hS)) hz
  ·exact hS.2
theorem Goes.made {W:World} {B:Nat} (h:(∃ E',Both R P L (grown S W w2) E' Y' w2)∧w2.os=W.os∧w2.tape=W.tape∧w2.output=W.output∧W.heap.size≤w2.heap.size∧∀ k,k<W.heap.size→k≠B→¬L.own k→w2.heap[k]?=W.heap[k]?) (hB:w.heap.size≤B) (hS:∀ k,S k→k<w.heap.size) (hb:Below w.heap.size w W):Goes R P L S w Y' w2:=by
 obtain ⟨⟨E1,b1⟩,h1,h2,h3,h4,h5⟩:=h
 have hz:=hb.size
 refine ⟨⟨E1,b1.stay (fun _ _=>rfl) (fun k hk=>?_) (fun k hk=>?_)⟩,⟨h1.trans hb.os,h2.trans hb.tape,h3.trans hb.output,Nat.le_trans hb.size h4,fun k hk ho=>(h5 k (by omega) (by omega) ho).trans (hb.block k hk)⟩⟩
 ·rcases hk with hk|hk
  ·exact .inl hk
  ·exact .inr ⟨Nat.le_trans hb.size hk.1,hk.2⟩
 ·rcases hk with hk|hk
  ·have:=hS k hk;omega
  ·exact hk.2
set_option maxRecDepth 20000 in
set_option maxHeartbeats 1000000 in
theorem yK (x er:Int) (o:M.Op) (her:er≠0) (hS:∀ k,S k→k<w.heap.size)
  (hc:∀ W,Below w.heap.size w W→Calls Tryz.prog 250 #[.pointer (some ⟨L.bE,0,none⟩),.int .i64 x,.agg #[.int .i64 o.c,.int .i64 o.a,.int .i64 o.b]] W fun e w'=>e = .returned (.int .i64 er)∧Goes R P L S W Y w') (hown:∀ k,L.own k→S k) :
  Calls Tryz.prog 252 #[.pointer (some ⟨L.bE,0,none⟩),.int .i64 x,.agg #[.int .i64 o.c,.int .i64 o.a,.int .i64 o.b]] w fun e w'=>e = .returned (.tuple #[.agg #[.int .i64 0,.int .i64 0],.int .i64 er])∧Goes R P L S w Y w':=by
 have aDw:(er == 0)=false:=by simp [her]
 go_enter Tryz.func252,Tryz.ntmps252
 go_upto_region 1 with fail
 generalize hW:World.alloc (World.alloc w _) _=W
 have hb:Below w.heap.size w W:=by rw [←hW];exact ((Below.refl _ _).alloc (Nat.le_refl _) _).alloc (by simp) _
 have r0:Row W w.heap.size 36 [.int .i64 o.c,.int .i64 o.a,.int .i64 o.b]:=by rw [←hW];exact (Row.new' rfl).alloc _
 have r1:Row W (w.heap.size+1) 94 [.int .i64 0,.int .i64 0]:=by rw [←hW];exact Row.new' (by simp)
 have x0:=r0.cell_of (i:=0) rfl
 have x1:=r0.cell_of (i:=1) rfl
 have x2:=r0.cell_of (i:=2) rfl
 have ZN:w.heap.size+1<W.heap.size:=r1.lt
 have jF:=aA r1
 have HB:=aA hb
 have HC:=aA (hc W hb)
 have NH:¬S (w.heap.size+1):=fun c=>by have:=hS _ c;omega
 have hnO:¬L.own (w.heap.size+1):=fun c=>NH (hown _ c)
 clear hW r0 r1 hb hc
 go_wp2_with fail
 refine HC.out.mono ?_
 rintro e w3 ⟨rfl,EZ⟩
 have r3:Row w3 (w.heap.size+1) 94 [.int .i64 0,.int .i64 0]:=jF.out.of_block (EZ.fr.block _ jF.out.lt hnO)
 have y0:=r3.cell_of (i:=0) rfl
 have y1:=r3.cell_of (i:=1) rfl
 have z0:=r3.frozen 0
 have z1:=r3.frozen 1
 have zH:=aA (r3.set 0 (.int .i64 0) |>.set 1 (.int .i64 0))
 have HG0:=aA EZ
 clear EZ r3
 go_wp2_with fail
 have q1:=zH.out.cell_of (i:=0) rfl
 have q2:=zH.out.cell_of (i:=1) rfl
 refine bodyPost_ret (v:=.tuple #[.agg #[.int .i64 0,.int .i64 0],.int .i64 er]) (by simp [results,Tryz.results252,go_sem,q1,q2]) rfl ⟨rfl,?_⟩
 refine Goes.made (W:=W) (B:=w.heap.size+1) (Goes.GN HG0.out (B:=w.heap.size+1) (fun k hk _=>?_) ⟨rfl,rfl,rfl⟩ (by simp [World.setCell]) NH (by omega)) (by omega) hS HB.out
 rw [Below.heap_setCell _ _ _ k hk,Below.heap_setCell _ _ _ k hk]
def DoE (R:SR σ) (P:M.Plain σ) (L:Lt) (S:Nat→Prop) (W:World) (D:DL) (t K:Nat) (Y':aR) (g:Nat) (w':World):Prop:=∃ Yc,mG P D t K Y' g Yc∧Goes R P L S W Yc w'
set_option maxRecDepth 20000 in
set_option maxHeartbeats 2000000 in
theorem EA {fA:Nat} {rv:Value} (hA:eV R P L fA rv) (h:Both R P L S E Y w) (D:DL) (uH:D.n=L.n) (yL:D.cap=L.cap) (hK:fJ D K Y) (qP:K+6000≤1000000000) (ht:t<L.n) (hp:(Y.th t).part=0) (o:M.Op) :
  Calls Tryz.prog 252 #[.pointer (some ⟨L.bE,0,none⟩),.int .i64 (t:Int),.agg #[.int .i64 o.c,.int .i64 o.a,.int .i64 o.b]] w fun e w'=>e = .returned (.tuple #[.agg #[.int .i64 (gN P (M.fin L.n L.cap t (M.cQ Y t o)) t).s,.int .i64 (gN P (M.fin L.n L.cap t (M.cQ Y t o)) t).v],.int .i64 0])∧Goes R P L S w (M.fin L.n L.cap t (M.cQ Y t o)) w':=by
 have lD:=h.re.ok.n1
 have rS:=h.re.ok.n64
 have xQ:=h.re.ok.vD
 have WA:=mG.begin (L:=D) (by rw [uH,yL];exact h.yi) (by omega) (by omega) (by omega) hp hK o
 rw [uH,yL] at WA
 have htD:t<D.n:=by omega
 generalize ZK:M.cQ Y t o=Y1 at *
 generalize hY':M.fin L.n L.cap t Y1=Y' at *
 go_enter Tryz.func252,Tryz.ntmps252
 go_upto_region 1 with fail
 generalize hW:World.alloc (World.alloc w _) _=W
 have hb:Below w.heap.size w W:=by rw [←hW];exact ((Below.refl _ _).alloc (Nat.le_refl _) _).alloc (by simp) _
 have r0:Row W w.heap.size 36 [.int .i64 o.c,.int .i64 o.a,.int .i64 o.b]:=by rw [←hW];exact (Row.new' rfl).alloc _
 have r1:Row W (w.heap.size+1) 94 [.int .i64 0,.int .i64 0]:=by rw [←hW];exact Row.new' (by simp)
 have x0:=r0.cell_of (i:=0) rfl
 have x1:=r0.cell_of (i:=1) rfl
 have x2:=r0.cell_of (i:=2) rfl
 have HB:=aA hb
 have gJ:Both R P L S E Y W:=h.stay (fun k hS=>hb.block k (h.re.lt k hS)) (fun _ hS=>hS) (fun k hS=>Nat.lt_of_lt_of_le (h.re.lt k hS) hb.size)
 have ZL:=aA ((iW gJ o).2 t ht)
 rw [if_pos hp,if_pos hp,ZK] at ZL
 have NH:¬S (w.heap.size+1):=fun c=>by have:=h.re.lt _ c;omega
 have hnO:¬L.own (w.heap.size+1):=fun c=>NH (h.re.ow _ c)
 have HSL:=aA h.re.lt
 have jF:=aA r1
 have ZM:=aA WA
 have HAp:=aA hA
 have ht':(t:Int)<(L.n:Int):=by omega
 have fG:(0:Int)≤(t:Int):=by omega
 have ZN:w.heap.size+1<W.heap.size:=r1.lt
 clear hW r0 r1 hb h WA ZK hY' hK gJ hA hp
 go_wp2_with fail
 refine ZL.out.mono ?_
 rintro e w3 ⟨rfl,EZ⟩
 have EX:=aA EZ
 clear EZ
 go_wp2_with fail
 go_loopg [] 5000 (fun g w'=>DoE R P L S W D t (K+1) Y' g w')
 case atStart=>exact ⟨Y1,ZM.out,EX.out⟩
 case round =>
  obtain ⟨Yc,uF,hgo⟩:=hrel
  obtain ⟨Ec,hB⟩:=hgo.ex
  have hl:fJ D 1000000000 Yc:=uF.lim.mono (by have:=uF.gl;omega)
  have hid:=hB.idle ht
  have c1:wr.cell? ⟨L.bE,1,none⟩=some (.slice (some ⟨L.g,0,none⟩) L.n L.gc):=hB.re.fL.cell_of rfl
  have HBu:=aA (fQ hB.re ht)
  by_cases sA:(Yc.th t).part=0
  ·have hYe:=uF.end sA
   subst hYe
   have MU:(Yc.th t).ended≠0:=by
    rw [uF.yi.ok.ide t htD sA]
    exact fun c=>uF.ops (List.eq_nil_of_length_eq_zero c)
   have VZ:=aA ((kP hB).2 t ht)
   rw [if_neg (by simpa using sA),if_neg MU,show pG P Yc t=gN P Yc t from rfl] at VZ
   have HPH:=aA (show decide ((Ec.th t).phase≠0)=false by simpa using hid.mpr sA)
   have hr:Row wr (w.heap.size+1) 94 [.int .i64 0,.int .i64 0]:=jF.out.of_block (hgo.fr.block _ jF.out.lt hnO)
   have HR:=aA hr
   have aBs:=aA hgo
   clear uF hgo hB hl hid sA MU hr EX ZM
   go_wp2_with fail
   refine HBu.out.mono ?_
   rintro e w4 ⟨rfl,rfl⟩
   rw [HPH.out]
   go_wp2_with fail
   refine VZ.out.mono ?_
   rintro e w5 ⟨rfl,nP⟩
   have r5:=HR.out.old nP
   have y0:=r5.cell_of (i:=0) rfl
   have y1:=r5.cell_of (i:=1) rfl
   have z0:=r5.frozen 0
   have z1:=r5.frozen 1
   have zH:=aA (r5.set 0 (.int .i64 (gN P Yc t).s) |>.set 1 (.int .i64 (gN P Yc t).v))
   have qL:=aA nP
   clear nP r5
   go_wp2_with fail
   have q1:=zH.out.cell_of (i:=0) rfl
   have q2:=zH.out.cell_of (i:=1) rfl
   refine bodyPost_ret (v:=.tuple #[.agg #[.int .i64 (gN P Yc t).s,.int .i64 (gN P Yc t).v],.int .i64 0]) (by simp [results,Tryz.results252,go_sem,q1,q2]) rfl ⟨rfl,?_⟩
   refine Goes.made (W:=W) (B:=w.heap.size+1) (Goes.GN aBs.out (B:=w.heap.size+1) (fun k hk hkk=>?_) ⟨qL.out.os,qL.out.tape,qL.out.output⟩ (by simp [World.setCell];exact qL.out.size) NH (by omega)) (by omega) HSL.out HB.out
   rw [Below.heap_setCell _ _ _ k hk,Below.heap_setCell _ _ _ k hk]
   exact qL.out.block k hkk
  ·have cD:1≤(Ec.th t).phase:=by have:=mt hid.mp sA;omega
   have HPH:=aA (show decide ((Ec.th t).phase≠0)=true by simp;omega)
   have hN:Yc.bs.length≤1000000000:=hl.2
   have UJ:=hB.can ht hN
   have JB:=hB.phase ht
   have HSt:=aA (xR HAp.out hB.re ht UJ (hB.sz8 ht hN (Nat.le_trans (hB.yi.all rS (fun t ht=>hl.1 t (by omega))) (by omega))) cD JB)
   obtain ⟨s1,-⟩:=M.lW (Nat.lt_of_lt_of_le (by decide) lD) hB.inv ht sA
   have hst:=uF.step (by omega) htD sA
   rw [uH,yL] at hst
   have hgk:0<gk:=hst.1
   have HPo:=aA (show ∀ w',Left R L (grown S W wr) wr (M.step P L.n L.cap Ec t) w'→DoE R P L S W D t (K+1) Y' (gk-1) w' from fun w' hd=>⟨_,hst.2,hgo.next (Goes.left hd s1 (hB.zU.step ht (hB.spare ht)) (hB.vU.step HAp.out.z hB.inv ht))⟩)
   clear uF hgo hB hl hid sA hN UJ JB s1 hst cD
   go_wp2_with fail
   refine HBu.out.mono ?_
   rintro e w4 ⟨rfl,rfl⟩
   rw [HPH.out]
   go_wp2_with fail
   refine HSt.out.mono ?_
   rintro e w5 ⟨rfl,ZP⟩
   have HP:=aA (HPo.out w5 ZP)
   clear ZP
   go_wp2_with fail
   go_roundg (gk-1)
   case measure=>omega
   case rel=>exact HP.out
theorem UK {fA:Nat} {rv:Value} (hA:eV R P L fA rv) (h:Both R P L S E Y w) (D:DL) (uH:D.n=L.n) (yL:D.cap=L.cap) (hK:fJ D K Y) (qP:K+6000≤1000000000) (o:M.Op) :
  (∀ x:Int,¬(0≤x∧x<L.n)→Calls Tryz.prog 252 #[.pointer (some ⟨L.bE,0,none⟩),.int .i64 x,.agg #[.int .i64 o.c,.int .i64 o.a,.int .i64 o.b]] w fun e w'=>e = .returned (.tuple #[.agg #[.int .i64 0,.int .i64 0],.int .i64 3])∧Goes R P L S w Y w')
  ∧ ∀ t,t<L.n→Calls Tryz.prog 252 #[.pointer (some ⟨L.bE,0,none⟩),.int .i64 (t:Int),.agg #[.int .i64 o.c,.int .i64 o.a,.int .i64 o.b]] w fun e w'=>e = .returned (ZI P L.n L.cap Y t o)∧Goes R P L S w (ZJ L.n L.cap Y t o) w':=by
 have st:∀ W,Below w.heap.size w W→Both R P L S E Y W:=fun W hb=>h.stay (fun k hS=>hb.block k (h.re.lt k hS)) (fun _ hS=>hS) (fun k hS=>Nat.lt_of_lt_of_le (h.re.lt k hS) hb.size)
 refine ⟨fun x hx=>yK x 3 o (by decide) h.re.lt (fun W hb=>(iW (st W hb) o).1 x hx) h.re.ow,fun t ht=>?_⟩
 unfold ZI ZJ
 by_cases hp:(Y.th t).part=0
 ·rw [if_neg (by simpa using hp),if_neg (by simpa using hp)]
  exact EA hA h D uH yL hK qP ht hp o
 ·rw [if_pos hp,if_pos hp]
  refine yK (t:Int) 4 o (by decide) h.re.lt (fun W hb=>?_) h.re.ow
  have:=(iW (st W hb) o).2 t ht
  rw [if_neg hp,if_neg hp] at this
  exact this
end
end Go.Proofs.YtefjhnhdagolhaaGreat.list
