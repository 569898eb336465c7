import Derived.Test.YtefjhnhdagolhaaGreatA40
import Derived.Test.YtefjhnhdagolhaaGreatA18
import Derived.Deep.LoopGhost
set_option maxHeartbeats 32000000
set_option maxRecDepth 20000
namespace Go.Proofs.YtefjhnhdagolhaaGreat
open Tryz
open int list tree
open Go.RowKit
open M (aM aC aD eX bU bD aR bJ bC aL aQ marks tagged num)
attribute [local go_sem ↓] Go.wp_at_zero Go.wp_at_succ
def int.chain (bs:List (Nat×List Nat)):List (Nat×List Nat):=bs++[(0,[])]
def int.nxt (bs:List (Nat×List Nat)) (f:Nat→Nat) (i:Nat):Value:=if i<bs.length then .pointer (some ⟨f (i+1),0,none⟩) else .pointer none
structure int.At (w:World) (bs:List (Nat×List Nat)) (f:Nat→Nat) (u:Nat→Value) (i:Nat) (x:Nat×List Nat):Prop where
 row:Row w (f i) 306 [.int .i64 (x.1:Int),u i,nxt bs f i]
 sl:Sl w (u i) (ints (x.2.map Int.ofNat))
theorem int.dX.at {I:Nat→Prop} {w:World}:∀ {bs:List (Nat×List Nat)} {b:Nat},dX I w bs b→∃ (f:Nat→Nat) (u:Nat→Value),f 0=b∧∀ i (h:i<(chain bs).length),At w bs f u i (chain bs)[i]
 |[],b,h=>⟨fun _=>b,fun _=>.slice none 0 0,rfl,fun i hi=>by
  have:i=0:=by simp [chain] at hi;omega
  subst this;exact ⟨h.2,Sl.nil w⟩⟩
 |(q,p)::bs,b,h=>by
  obtain ⟨v,b',-,h2,⟨gp,-,g2,-⟩,h4⟩:=h;obtain ⟨f,u,hf,hA⟩:=dX.at h4;refine ⟨fun i=>if i=0 then b else f (i-1),fun i=>if i=0 then v else u (i-1),rfl,fun i hi=>?_⟩
  cases i with
  |zero =>
   refine ⟨?_,g2⟩;have e:nxt ((q,p)::bs) (fun i=>if i=0 then b else f (i-1)) 0 = .pointer (some ⟨b',0,none⟩):=by unfold nxt;simp [hf]
   rw [e];exact h2
  |succ i =>
   obtain ⟨r1,r3⟩:=hA i (by simpa [chain] using hi);have e:(chain ((q,p)::bs))[i+1]=(chain bs)[i]'(by simpa [chain] using hi):=rfl;have e2:nxt ((q,p)::bs) (fun i=>if i=0 then b else f (i-1)) (i+1)=nxt bs f i:=by unfold nxt;simp
   refine ⟨?_,?_⟩
   ·rw [e,e2]
    simpa using r1
   ·rw [e]
    simpa using r3
def EE  : Prop:=∀ {w w':World} {bs:List (Nat×List Nat)} {f:Nat→Nat} {u:Nat→Value} {i:Nat} {x:Nat×List Nat} (_h:At w bs f u i x) (_hb:Below w.heap.size w w'),At w' bs f u i x
open row in
theorem pZ:EE  ∧ EE  ∧ EE  ∧ EE  := by
 refine ⟨?_,?_,?_,?_⟩<;>intro w w' bs f u i x h hb
 all_goals
  exact ⟨h.row.old hb,h.sl.below hb⟩
theorem int.At.later:EE  := pZ.1
theorem list.At.later:EE  := pZ.2.1
theorem tree.At.later:EE  := pZ.2.2.1
theorem row.At.later:EE  := pZ.2.2.2
theorem int.WD (bs:List (Nat×List Nat)):tagged (chain bs.reverse).reverse=tagged bs:=by
 unfold chain;simp [tagged]
theorem int.ZS (l:List (Nat×List Nat)) (m:Nat) (hm:m<l.length):tagged (l.take (m+1))=tagged (l.take m)++(l[m]).2.map fun t=>((l[m]).1,t):=by
 rw [BI hm];exact M.LB _ _ _
theorem int.LV (l:List (Nat×List Nat)) (m:Nat):(tagged (l.take m)).length≤(tagged l).length:=by
 have:tagged l=tagged (l.take m)++tagged (l.drop m):=by
  unfold tagged;rw [←List.flatMap_append,List.take_append_drop]
 rw [this,eD];omega
structure int.OI (W1:World) (gc n:Nat) (l:List (Nat×Nat)) (mv:Value) (w':World):Prop where
 below:Below W1.heap.size W1 w'
 cnt:Fn w' gc 3 n (fun k=>.int .i64 (((l.map Prod.snd).count k:Nat):Int))
 own:w'.ownsRow (gc+1) 81 3 mv (marks l).length (eB (marks l))
structure list.OI (W1:World) (gc n:Nat) (l:List (Nat×Nat)) (mv:Value) (w':World):Prop where
 below:Below W1.heap.size W1 w'
 cnt:Fn w' gc 3 n (fun k=>.int .i64 (((l.map Prod.snd).count k:Nat):Int))
 own:w'.ownsRow (gc+1) 81 3 mv (marks l).length (eB (marks l))
structure tree.OI (W1:World) (gc n:Nat) (l:List (Nat×Nat)) (mv:Value) (w':World):Prop where
 below:Below W1.heap.size W1 w'
 cnt:Fn w' gc 3 n (fun k=>.int .i64 (((l.map Prod.snd).count k:Nat):Int))
 own:w'.ownsRow (gc+1) 81 3 mv (marks l).length (eB (marks l))
structure row.OI (W1:World) (gc n:Nat) (l:List (Nat×Nat)) (mv:Value) (w':World):Prop where
 below:Below W1.heap.size W1 w'
 cnt:Fn w' gc 3 n (fun k=>.int .i64 (((l.map Prod.snd).count k:Nat):Int))
 own:w'.ownsRow (gc+1) 81 3 mv (marks l).length (eB (marks l))
def CQ (n0:Nat):Prop:=∀ {w:World} (bS b n:Nat) (bs:List (Nat×List Nat)) {I:Nat→Prop} (_c0:w.cell? ⟨bS,0,none⟩=some (.int .i64 (n:Int))) (_hn:n≤64) (_hbr:dX I w bs.reverse b) (_aNC:∀ x∈bs,∀ k∈x.2,k<n) (_RG:∀ x∈bs,x.1≤1000000000) (_aNB:bs.length≤1000000000) (_hA:(tagged bs).length≤1000000000000),Calls prog n0 #[.pointer (some ⟨bS,0,none⟩),.pointer (some ⟨b,0,none⟩)] w fun e w'=>∃ v,e = .returned v∧w'.ownsRow w.heap.size 81 3 v (marks (tagged bs)).length (eB (marks (tagged bs)))∧Below w.heap.size w w'
open row in
theorem oH:CQ 201∧CQ 260∧CQ 334∧CQ 297:=by
 refine ⟨@mkK _ 0 ?_,@mkK _ 1 ?_,@mkK _ 2 ?_,@mkK _ 3 ?_⟩<;>intro kk w bS b n bs I c0 hn WR hmem FZ hlen hA
 all_goals
  obtain ⟨f,u,hf0,hAt⟩:=WR.at;have hcl:(chain bs.reverse).length=bs.length+1:=by simp [chain]
  obtain ⟨N,hN⟩:∃ N,N=bs.length:=⟨_,rfl⟩;obtain ⟨pi,hpi,hpz⟩:=eZ.1 YL;simp only [fW] at hpz;obtain ⟨pU,CJ,hp3⟩:=hpz;have HPI:=aA hpi;have HP1:=aA pU;have HP2:=aA CJ;have HP3:=aA hp3;obtain ⟨mi,YE,YF⟩:=eZ.1 OH;simp only [fW] at YF;obtain ⟨AX,AY,AZ⟩:=YF;have zv:=aA YE;have kq:=aA AX;have zq:=aA AY;have zu:=aA AZ;clear hpi pU CJ hp3 YE AX AY AZ;have hmk:=fQ (P:=prog) 22 3 (.int .i64 0) 8 underlying22 eF rfl (n:Int) n rfl (by omega) (by omega);have HAT:=aA (show ∀ i (h:i<(chain bs.reverse).length),At w bs.reverse f u i (chain bs.reverse)[i] from hAt);have HC0:=aA c0;have HCL:=aA hcl;have HNN:=aA hN;have HF0:=aA hf0;have aCt:=aA hmem;have aGt:=aA FZ;have hNb:N≤1000000000:=by omega
  clear WR hAt c0 hcl hf0 hmem FZ hN
  first|(have:=kA kk;go_enter func201,ntmps201)|(have:=kB kk;go_enter func260,ntmps260)|(have:=kC kk;go_enter func334,ntmps334)|(have:=kD kk;go_enter func297,ntmps297)
  go_wp2
  go_loopg [5,6] (N+1) (fun g s p w'=>∃ i:Nat,i+g=N+1∧p=(if i≤N then Value.pointer (some ⟨f i,0,none⟩) else .pointer none)∧Below w.heap.size w w'∧w'.ownsRow w.heap.size 223 1 s i ((List.range i).map fun j=>Value.pointer (some ⟨f j,0,none⟩)))
  case atStart=>exact ⟨0,by omega,by rw [aJ (aW _),HF0.out],aT _ _,jZ _ _ _ _⟩
  case round =>
   obtain ⟨i,hi,rfl,hB,hO⟩:=hrel;have HB:=aA hB;have HO:=aA hO;have vw:=hB.size;clear hB hO
   by_cases hle:i≤N
   ·rw [aJ hle]
    go_wp2_with (at_builtin;refine cY _ rfl (.tmp 19) (.tmp 21) 384 rfl w.heap.size 223 pi (.pointer none) 1 8 underlying384 HPI.out HP1.out HP2.out HP3.out rfl (by decide) _ i _ rfl (HO.out.alloc _) ⟨wr.heap.size,0,none⟩ 1 1 [.pointer (some ⟨f i,0,none⟩)] rfl rfl (jH (dH _ _ _)) (by simp [Value.oneCell']) (by decide) (by unfold maxLen;omega) (by omega) (by simp;omega) ?_);intro g3 c3 w3 hown dP DX DK;have hvl:=HO.out.lt;have cP:Below w.heap.size w w3:=(aS HB.out (aB _ _) vw).grown dP (by simp;omega) (fun q hq=>(hvl q hq).1);have hr3:=((HAT.out i (by rw [HCL.out,←HNN.out];omega)).later cP).row;have c2:w3.cell? ⟨f i,2,none⟩=some (nxt bs.reverse f i):=hr3.cell_of rfl;have e2:nxt bs.reverse f i=if i+1≤N then Value.pointer (some ⟨f (i+1),0,none⟩) else .pointer none:=by
     unfold nxt;rw [List.length_reverse,←HNN.out];rfl
    have HR:=aA (aP cP hown);have HE2:=aA e2;clear hown dP DX DK hvl hr3 cP e2;generalize nxt bs.reverse f i=nx at *;go_wp2
    go_roundg (gk-1)
    case measure=>omega
    case rel =>
     refine ⟨i+1,by omega,HE2.out,HR.out.1,?_⟩;rw [pR,List.map_append];exact HR.out.2
   ·rw [aN hle]
    have hiN:i=N+1:=by omega
    subst hiN;rename World=>W1;obtain ⟨gb,sc,eb,-⟩:=jD HO.out (i:=0) (u:=.pointer (some ⟨f 0,0,none⟩)) (by simp);subst eb;have HBT:=aA (show ∀ j,j≤N→W1.cell? ⟨gb,j,none⟩=some (.pointer (some ⟨f j,0,none⟩)) from fun j hj=>by
     have:=HO.out.cells (g:=gb) rfl j (.pointer (some ⟨f j,0,none⟩)) (by simp [zY (show j<N+1 by omega)])
     rwa [gS,nJ] at this)
    have aQY:gb<W1.heap.size:=(HO.out.lt gb rfl).2;have c0:W1.cell? ⟨bS,0,none⟩=some (.int .i64 (n:Int)):=aI HB.out HC0.out;go_wp2;generalize jB:World.alloc W1 _=W2
    first
     |have:=kA kk
      have HOI:=aA (show int.OI W1 W1.heap.size n [] (.slice none 0 0) W2 from by
       rw [←jB];refine ⟨aB _ _,?_,jZ _ _ _ _⟩;have:(List.range n).map (fun k=>Value.int .i64 ((((([]:List (Nat×Nat)).map Prod.snd).count k:Nat):Int)))=zeros (.int .i64 0) n:=by
        unfold zeros;apply List.ext_getElem
        ·simp
        ·intro i h1 h2;simp
       unfold Fn;rw [this];exact aV rfl)
     |have:=kB kk
      have HOI:=aA (show list.OI W1 W1.heap.size n [] (.slice none 0 0) W2 from by
       rw [←jB];refine ⟨aB _ _,?_,jZ _ _ _ _⟩;have:(List.range n).map (fun k=>Value.int .i64 ((((([]:List (Nat×Nat)).map Prod.snd).count k:Nat):Int)))=zeros (.int .i64 0) n:=by
        unfold zeros;apply List.ext_getElem
        ·simp
        ·intro i h1 h2;simp
       unfold Fn;rw [this];exact aV rfl)
     |have:=kC kk
      have HOI:=aA (show tree.OI W1 W1.heap.size n [] (.slice none 0 0) W2 from by
       rw [←jB];refine ⟨aB _ _,?_,jZ _ _ _ _⟩;have:(List.range n).map (fun k=>Value.int .i64 ((((([]:List (Nat×Nat)).map Prod.snd).count k:Nat):Int)))=zeros (.int .i64 0) n:=by
        unfold zeros;apply List.ext_getElem
        ·simp
        ·intro i h1 h2;simp
       unfold Fn;rw [this];exact aV rfl)
     |have:=kD kk
      have HOI:=aA (show row.OI W1 W1.heap.size n [] (.slice none 0 0) W2 from by
       rw [←jB];refine ⟨aB _ _,?_,jZ _ _ _ _⟩;have:(List.range n).map (fun k=>Value.int .i64 ((((([]:List (Nat×Nat)).map Prod.snd).count k:Nat):Int)))=zeros (.int .i64 0) n:=by
        unfold zeros;apply List.ext_getElem
        ·simp
        ·intro i h1 h2;simp
       unfold Fn;rw [this];exact aV rfl)
    have aJ4:=aA (show ∀ m (hm:m≤N),(chain bs.reverse).reverse[m]'(by rw [List.length_reverse,HCL.out,←HNN.out];omega)=(chain bs.reverse)[N-m]'(by rw [HCL.out,←HNN.out];omega) from fun m hm=>by
     rw [List.getElem_reverse];congr 1;rw [HCL.out,←HNN.out];omega)
    have HTG:=aA (WD bs);have HOL:=aA (show (chain bs.reverse).reverse.length=N+1 by rw [List.length_reverse,HCL.out,←HNN.out]);have HXM:=aA (show ∀ x∈(chain bs.reverse).reverse,(∀ k∈x.2,k<n)∧x.1≤1000000000 from fun x hx=>by
     rw [List.mem_reverse] at hx;unfold chain at hx
     rcases tB.1 hx with q|q
     ·rw [List.mem_reverse] at q
      exact ⟨aCt.out x q,aGt.out x q⟩
     ·rw [oP.1 q]
      exact ⟨fun k hk=>absurd hk List.not_mem_nil,by decide⟩)
    clear jB c0 aCt aGt;obtain ⟨ord,ho⟩:∃ ord,ord=(chain bs.reverse).reverse:=⟨_,rfl⟩;rw [←ho] at HTG;have HO':=aA ho
    first|(have:=kA kk;go_loopw [7,9] (fun mv i w'=>∃ m:Nat,m≤N+1∧i = .int .i64 ((N:Int)-(m:Int))∧int.OI W1 W1.heap.size n (tagged (ord.take m)) mv w') (fun _ i _=>(intOf i+1).toNat))|(have:=kB kk;go_loopw [7,9] (fun mv i w'=>∃ m:Nat,m≤N+1∧i = .int .i64 ((N:Int)-(m:Int))∧list.OI W1 W1.heap.size n (tagged (ord.take m)) mv w') (fun _ i _=>(intOf i+1).toNat))|(have:=kC kk;go_loopw [7,9] (fun mv i w'=>∃ m:Nat,m≤N+1∧i = .int .i64 ((N:Int)-(m:Int))∧tree.OI W1 W1.heap.size n (tagged (ord.take m)) mv w') (fun _ i _=>(intOf i+1).toNat))|(have:=kD kk;go_loopw [7,9] (fun mv i w'=>∃ m:Nat,m≤N+1∧i = .int .i64 ((N:Int)-(m:Int))∧row.OI W1 W1.heap.size n (tagged (ord.take m)) mv w') (fun _ i _=>(intOf i+1).toNat))
    case atStart=>exact ⟨0,aW _,by go_num,HOI.out⟩
    case round =>
     obtain ⟨m,hm,rfl,hI⟩:=hrel
     by_cases hlt:m≤N
     ·have hlt':¬(N:Int)-(m:Int)<0:=by omega
      have hol:m<ord.length:=by rw [ho,HOL.out];omega
      have hx0:ord[m]=(chain bs.reverse)[N-m]'(by rw [HCL.out,←HNN.out];omega):=by
       have:=aJ4.out m hlt;simp only [ho];exact this
      have hat:=HAT.out (N-m) (by rw [HCL.out,←HNN.out];omega);have hBI:=aS HB.out hI.below HB.out.size;rw [←hx0] at hat;obtain ⟨hxm,hxn⟩:=HXM.out ord[m] (by rw [←ho];exact AA hol);have htt:=ZS ord m hol;have aHz:(tagged (ord.take m)).length+(ord[m]).2.length≤1000000000000:=by
       have h1:=LV ord (m+1);rw [htt,eD,LD,HTG.out] at h1;omega
      obtain ⟨q,hq⟩:∃ q,q=(ord[m]).1:=⟨_,rfl⟩;obtain ⟨p,hp⟩:∃ p,p=(ord[m]).2:=⟨_,rfl⟩;rw [←hq,←hp] at htt;rw [←hp] at aHz hxm;rw [←hq] at hxn;have hrow:=hat.row;rw [←hq] at hrow;have WV:=hat.sl;rw [←hp] at WV;obtain ⟨ua,uc,eu,hul,-,aBb⟩:=WV.open_ints;rw [LD] at eu hul;have b0w:w.cell? ⟨f (N-m),0,none⟩=some (.int .i64 (q:Int)):=hrow.cell_of rfl;have b0:=aI hBI b0w;have b1:wr.cell? ⟨f (N-m),1,none⟩=some (.slice ua p.length uc):=by rw [←eu];exact aI hBI (hrow.cell_of rfl)
      have bt:wr.cell? ⟨gb,N-m,none⟩=some (.pointer (some ⟨f (N-m),0,none⟩)):=aI hI.below (HBT.out _ (by omega));have hNm:((N-m:Nat):Int)=(N:Int)-(m:Int):=by omega
      have hx1:(N:Int)-(m:Int)<(N:Int)+1:=by omega
      have aQJ:((N:Int)-(m:Int)).toNat=N-m:=by omega
      have HUC:=aA (show ∀ W,Below w.heap.size w W→∀ r (hr:r<p.length),∃ g off,ua=some ⟨g,off,none⟩∧W.cell? ⟨g,off+r,none⟩=some (.int .i64 ((p[r]:Nat):Int)) from fun W hW r hr=>by
       obtain ⟨g,off,e1,e2⟩:=aBb r (by simpa using hr);refine ⟨g,off,e1,?_⟩;have:=aI hW e2;simpa using this)
      have HTT:=aA htt;have HPL:=aA hxm;have HI:=aA hI;have HFC:=aA b0w;have hm2:(marks (tagged (ord.take m))).length≤1000000000000:=by rw [M.uN];omega
      clear hx0 hat hrow WV aBb htt hxm hI hq hp eu hBI b0w b0;go_wp2
      first|(have:=kA kk;go_loopw [7,44] (fun mv i w'=>∃ r:Nat,r≤p.length∧i = .int .i64 (r:Int)∧int.OI W1 W1.heap.size n (tagged (ord.take m)++(p.take r).map fun t=>(q,t)) mv w') (fun _ i _=>p.length-(intOf i).toNat))|(have:=kB kk;go_loopw [7,44] (fun mv i w'=>∃ r:Nat,r≤p.length∧i = .int .i64 (r:Int)∧list.OI W1 W1.heap.size n (tagged (ord.take m)++(p.take r).map fun t=>(q,t)) mv w') (fun _ i _=>p.length-(intOf i).toNat))|(have:=kC kk;go_loopw [7,44] (fun mv i w'=>∃ r:Nat,r≤p.length∧i = .int .i64 (r:Int)∧tree.OI W1 W1.heap.size n (tagged (ord.take m)++(p.take r).map fun t=>(q,t)) mv w') (fun _ i _=>p.length-(intOf i).toNat))|(have:=kD kk;go_loopw [7,44] (fun mv i w'=>∃ r:Nat,r≤p.length∧i = .int .i64 (r:Int)∧row.OI W1 W1.heap.size n (tagged (ord.take m)++(p.take r).map fun t=>(q,t)) mv w') (fun _ i _=>p.length-(intOf i).toNat))
      case atStart=>exact ⟨0,aW _,rfl,by simpa using HI.out⟩
      case round =>
       obtain ⟨r,hr,rfl,hJ⟩:=hrel;obtain ⟨l,hl⟩:∃ l,l=tagged (ord.take m)++(p.take r).map fun t=>(q,t):=⟨_,rfl⟩
       rw [←hl] at hJ;have yq:l.length≤1000000000000:=by
        rw [hl,eD,LD,ZW];omega
       by_cases hrt:r<p.length
       ·have aA6:(r:Int)<(p.length:Int):=by omega
        have om:(0:Int)≤(r:Int):=by omega
        have hBJ:=aS HB.out hJ.below HB.out.size;obtain ⟨g,off,rfl,cr⟩:=HUC.out _ hBJ r hrt;obtain ⟨tt,htt⟩:∃ tt,tt=p[r]:=⟨_,rfl⟩;have htn:tt<n:=by rw [htt];exact HPL.out _ (AA hrt)
        rw [←htt] at cr;have bt2:wr.cell? ⟨gb,N-m,none⟩=some (.pointer (some ⟨f (N-m),0,none⟩)):=aI hJ.below (HBT.out _ (by omega));have b02:wr.cell? ⟨f (N-m),0,none⟩=some (.int .i64 (q:Int)):=aI hBJ HFC.out;have hfl:f (N-m)<W1.heap.size:=cH (mX w _ HFC.out) HB.out.size;have HLS:=aA (show tagged (ord.take m)++(p.take (r+1)).map (fun t=>(q,t))=l++[(q,tt)] by
         rw [hl,BI hrt,List.map_append,htt,BL];rfl)
        have HMS:=aA (M.OO l q tt);have hA9:(l.map Prod.snd).count tt≤1000000000000:=bK List.count_le_length (by simpa using yq);have HCN:=aA (show ∀ k,((l++[(q,tt)]).map Prod.snd).count k=(l.map Prod.snd).count k+if k=tt then 1 else 0 from fun k=>by
         rw [List.map_append,SW];congr 1
         by_cases e:k=tt
         ·subst e;simp
         ·simp [e,nI e])
        have ct:wr.cell? ⟨W1.heap.size,tt,none⟩=some (.int .i64 (((l.map Prod.snd).count tt:Nat):Int)):=hJ.cnt.cell htn;have cf:=hJ.cnt.frozen tt;have aRw:(tt:Int)<(n:Int):=by omega
        have mP:(0:Int)≤(tt:Int):=by omega
        have hml:(marks l).length≤1000000000000:=by rw [M.uN];exact yq
        have hmo:=hJ.own.lt;have hzr:W1.heap.size<wr.heap.size:=hJ.cnt.lt;obtain ⟨⟨oa,oc,rfl⟩,-⟩:=bM hJ.own;have HJ:=aA hJ;clear hJ hBJ hl htt;generalize hA:(l.map Prod.snd).count tt=A at *;have HAA:=aA hA;clear hA;have aE4:some gb≠(Value.slice oa (marks l).length oc).ownBlock:=fun e=>by have:=(hmo _ e.symm).1;omega
        have aHC:some (f (N-m))≠(Value.slice oa (marks l).length oc).ownBlock:=fun e=>by have:=(hmo _ e.symm).1;omega
        have aHD:some W1.heap.size≠(Value.slice oa (marks l).length oc).ownBlock:=fun e=>by have:=(hmo _ e.symm).1;omega
        go_upto_region 14 with fail;refine fH (S:=(fun w'=>w'.cell? ⟨gb,N-m,none⟩=some (.pointer (some ⟨f (N-m),0,none⟩))∧w'.cell? ⟨f (N-m),0,none⟩=some (.int .i64 (q:Int))∧w'.cell? ⟨W1.heap.size,tt,none⟩=some (.int .i64 (A:Int)))) 17 rfl (by kernel_rfl) ?_ (fun hHeld=>?_)
        ·exact ⟨bt2,b02,ct⟩
        iterate 14 (refine tk 16 (by rfl) (by kernel_rfl) (by exact fun _ _ _ h=>h) (.inl ⟨by rfl,fun w hS=>by (try dsimp only at hS);go_simp;(try with_reducible rfl)⟩) (by assumption) ?_;try go_frame)
        refine cT 14 (by rfl) (by kernel_rfl) (fun K hK=>?_);go_simp;refine hK.out _ _ ?_ (fun hHeld=>?_)
        ·exact ⟨aI (aB _ _) hHeld.1,aI (aB _ _) hHeld.2.1,aI (aB _ _) hHeld.2.2⟩
        clear hK K
        (try go_frame)
        refine cT 15 (by rfl) (by kernel_rfl) (fun K hK=>?_);refine yE _ rfl (.tmp 48) (.tmp 62) 43 rfl (W1.heap.size+1) 81 mi (.agg #[.int .i64 0,.int .i64 0,.int .i64 0]) 3 24 underlying43 zv.out kq.out zq.out zu.out rfl (by decide) (.slice oa (marks l).length oc) (marks l).length (eB (marks l)) rfl ?_ ⟨wr.heap.size,0,none⟩ 1 1 [.int .i64 (q:Int),.int .i64 (tt:Int),.int .i64 (A:Int)] rfl rfl ?_ (by simp [Value.oneCell']) (by decide) (by unfold maxLen;omega) (by omega) (by simp;omega) _ rfl ?_
        ·exact HJ.out.own.alloc _
        ·exact jH (aV (by simp))
        intro g4 gc4 w4 hown dP hat oQ;have NC:=aA hown;have HG:=aA dP;clear hown dP hat oQ;refine hK.out _ _ ?_ (fun hHeld=>?_)
        ·exact ⟨HG.out.cell hHeld.1 aE4,HG.out.cell hHeld.2.1 aHC,HG.out.cell hHeld.2.2 aHD⟩
        clear hK K
        (try go_frame)
        iterate 1 (refine tk 16 (by rfl) (by kernel_rfl) (by exact fun _ _ _ h=>h) (.inl ⟨by rfl,fun w hS=>by (try dsimp only at hS);go_simp;(try with_reducible rfl)⟩) (by assumption) ?_;try go_frame)
        refine cC (by kernel_rfl) ?_ _;have vq:Fn w4 W1.heap.size 3 n (fun k=>.int .i64 (((l.map Prod.snd).count k:Nat):Int)):=HJ.out.cnt.of_block ((HG.out.block _ (by simp;omega) aHD).trans ((aB wr (.cells #[.int .i64 (q:Int),.int .i64 (tt:Int),.int .i64 (A:Int)] 81)).block _ hzr));have ct4:=hHeld.2.2;have cf4:=vq.frozen tt;have dQ:Below W1.heap.size W1 w4:=(aS HJ.out.below (dU (aB wr (.cells #[.int .i64 (q:Int),.int .i64 (tt:Int),.int .i64 (A:Int)] 81))) HJ.out.below.size).grown HG.out (by simp;omega) (fun x hx=>by have:=(hmo x hx).1;omega);have hg4:W1.heap.size+1≤g4:=(NC.out.lt g4 rfl).1
        first
         |have:=kA kk
          have TD:=aA (show int.OI W1 W1.heap.size n (l++[(q,tt)]) (.slice (some ⟨g4,0,none⟩) ((marks l).length+1) gc4) (w4.setCell ⟨W1.heap.size,tt,none⟩ (.int .i64 ((A:Int)+1))) from by
           refine ⟨dQ.setCell (bQ _) _,?_,?_⟩
           ·refine Fn.congr (vq.set tt (.int .i64 ((A:Int)+1))) fun k hk=>?_
            rw [HCN.out k]
            by_cases e:k=tt
            ·rw [e,aC,aJ rfl,HAA.out];rfl
            ·rw [aD _ _ e,aN e];rfl
           ·rw [HMS.out,nF,eD,JA]
            have:=ownsRow_setCell_other NC.out (a:=⟨W1.heap.size,tt,none⟩) (by simp [Value.ownBlock];omega) (.int .i64 ((A:Int)+1));simpa [eB] using this)
         |have:=kB kk
          have TD:=aA (show list.OI W1 W1.heap.size n (l++[(q,tt)]) (.slice (some ⟨g4,0,none⟩) ((marks l).length+1) gc4) (w4.setCell ⟨W1.heap.size,tt,none⟩ (.int .i64 ((A:Int)+1))) from by
           refine ⟨dQ.setCell (bQ _) _,?_,?_⟩
           ·refine Fn.congr (vq.set tt (.int .i64 ((A:Int)+1))) fun k hk=>?_
            rw [HCN.out k]
            by_cases e:k=tt
            ·rw [e,aC,aJ rfl,HAA.out];rfl
            ·rw [aD _ _ e,aN e];rfl
           ·rw [HMS.out,nF,eD,JA]
            have:=ownsRow_setCell_other NC.out (a:=⟨W1.heap.size,tt,none⟩) (by simp [Value.ownBlock];omega) (.int .i64 ((A:Int)+1));simpa [eB] using this)
         |have:=kC kk
          have TD:=aA (show tree.OI W1 W1.heap.size n (l++[(q,tt)]) (.slice (some ⟨g4,0,none⟩) ((marks l).length+1) gc4) (w4.setCell ⟨W1.heap.size,tt,none⟩ (.int .i64 ((A:Int)+1))) from by
           refine ⟨dQ.setCell (bQ _) _,?_,?_⟩
           ·refine Fn.congr (vq.set tt (.int .i64 ((A:Int)+1))) fun k hk=>?_
            rw [HCN.out k]
            by_cases e:k=tt
            ·rw [e,aC,aJ rfl,HAA.out];rfl
            ·rw [aD _ _ e,aN e];rfl
           ·rw [HMS.out,nF,eD,JA]
            have:=ownsRow_setCell_other NC.out (a:=⟨W1.heap.size,tt,none⟩) (by simp [Value.ownBlock];omega) (.int .i64 ((A:Int)+1));simpa [eB] using this)
         |have:=kD kk
          have TD:=aA (show row.OI W1 W1.heap.size n (l++[(q,tt)]) (.slice (some ⟨g4,0,none⟩) ((marks l).length+1) gc4) (w4.setCell ⟨W1.heap.size,tt,none⟩ (.int .i64 ((A:Int)+1))) from by
           refine ⟨dQ.setCell (bQ _) _,?_,?_⟩
           ·refine Fn.congr (vq.set tt (.int .i64 ((A:Int)+1))) fun k hk=>?_
            rw [HCN.out k]
            by_cases e:k=tt
            ·rw [e,aC,aJ rfl,HAA.out];rfl
            ·rw [aD _ _ e,aN e];rfl
           ·rw [HMS.out,nF,eD,JA]
            have:=ownsRow_setCell_other NC.out (a:=⟨W1.heap.size,tt,none⟩) (by simp [Value.ownBlock];omega) (.int .i64 ((A:Int)+1));simpa [eB] using this)
        clear hHeld vq dQ HG NC;go_wp2;go_roundw
        case rel=>exact ⟨r+1,by omega,by go_num,by rw [HLS.out];exact TD.out⟩
        case measure=>simp [intOf];omega
       ·have aA6:¬(r:Int)<(p.length:Int):=by omega
        first
         |have:=kA kk
          have HE:=aA (show int.OI W1 W1.heap.size n (tagged (ord.take (m+1))) _ wr by
           rw [HTT.out];rw [hl,rZ (show p.length≤r by omega)] at hJ;exact hJ)
         |have:=kB kk
          have HE:=aA (show list.OI W1 W1.heap.size n (tagged (ord.take (m+1))) _ wr by
           rw [HTT.out];rw [hl,rZ (show p.length≤r by omega)] at hJ;exact hJ)
         |have:=kC kk
          have HE:=aA (show tree.OI W1 W1.heap.size n (tagged (ord.take (m+1))) _ wr by
           rw [HTT.out];rw [hl,rZ (show p.length≤r by omega)] at hJ;exact hJ)
         |have:=kD kk
          have HE:=aA (show row.OI W1 W1.heap.size n (tagged (ord.take (m+1))) _ wr by
           rw [HTT.out];rw [hl,rZ (show p.length≤r by omega)] at hJ;exact hJ)
        clear hJ hl;go_wp2;go_roundw
        case rel=>exact ⟨m+1,by omega,by go_num,HE.out⟩
        case measure=>simp [intOf];omega
     ·have hlt':(N:Int)-(m:Int)<0:=by omega
      have HE:=aA (show wr.ownsRow w.heap.size 81 3 _ (marks (tagged bs)).length (eB (marks (tagged bs)))∧Below w.heap.size w wr from by
       have h1:=hI.own;rw [rZ (by rw [ho,HOL.out];omega),HTG.out] at h1;exact ⟨dW h1 (by have:=HB.out.size;omega),aS HB.out hI.below HB.out.size⟩)
      clear hI;go_wp2;go_ret;exact ⟨_,rfl,HE.out.1,HE.out.2⟩
theorem int.zP:CQ 201:=oH.1
theorem list.zP:CQ 260:=oH.2.1
theorem tree.zP:CQ 334:=oH.2.2.1
theorem row.zP:CQ 297:=oH.2.2.2
end Go.Proofs.YtefjhnhdagolhaaGreat
