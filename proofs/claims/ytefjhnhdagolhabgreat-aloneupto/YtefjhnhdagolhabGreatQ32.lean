import Derived.Test.YtefjhnhdagolhabGreatQ31
import Derived.Test.YtefjhnhdagolhabGreatQ11
import Derived.Deep.LoopGhost
set_option maxHeartbeats 32000000
set_option maxRecDepth 20000
namespace Go.Proofs.YtefjhnhdagolhabGreat
open int list tree
open Go.RowKit
open M (aH aC aE cY aS aK aT bJ aR aL aM marks tagged num)
attribute [local go_sem ↓] Go.wp_at_zero Go.wp_at_succ
def int.chain (bs:List (Nat×List Nat)):List (Nat×List Nat):=bs++[(0,[])]
def int.XB (bs:List (Nat×List Nat)) (f:Nat→Nat) (i:Nat):Value:=if i<bs.length then .pointer (some ⟨f (i+1),0,none⟩) else .pointer none
structure int.At (w:World) (bs:List (Nat×List Nat)) (f:Nat→Nat) (u:Nat→Value) (i:Nat) (x:Nat×List Nat):Prop where
 row:Row w (f i) 204 [.int .i64 (x.1:Int),u i,XB bs f i]
 sl:Sl w (u i) (ints (x.2.map Int.ofNat))
theorem int.cO.at {I:Nat→Prop} {w:World}:∀ {bs:List (Nat×List Nat)} {b:Nat},cO I w bs b→∃ (f:Nat→Nat) (u:Nat→Value),f 0=b∧∀ i (h:i<(chain bs).length),At w bs f u i (chain bs)[i]
 |[],b,h=>⟨fun _=>b,fun _=>.slice none 0 0,rfl,fun i hi=>by
  have:i=0:=by simp [chain] at hi;omega
  subst this
  exact ⟨h.2,Sl.nil w⟩⟩
 |(q,p)::bs,b,h=>by
  obtain ⟨v,b',-,h2,⟨gp,-,g2,-⟩,h4⟩:=h
  obtain ⟨f,u,hf,hA⟩:=cO.at h4
  refine ⟨fun i=>if i=0 then b else f (i-1),fun i=>if i=0 then v else u (i-1),rfl,fun i hi=>?_⟩
  cases i with
  |zero =>
   refine ⟨?_,g2⟩
   have e:XB ((q,p)::bs) (fun i=>if i=0 then b else f (i-1)) 0 = .pointer (some ⟨b',0,none⟩):=by unfold XB;simp [hf]
   rw [e]
   exact h2
  |succ i =>
   obtain ⟨r1,r3⟩:=hA i (by simpa [chain] using hi)
   have e:(chain ((q,p)::bs))[i+1]=(chain bs)[i]'(by simpa [chain] using hi):=rfl
   have e2:XB ((q,p)::bs) (fun i=>if i=0 then b else f (i-1)) (i+1)=XB bs f i:=by unfold XB;simp
   refine ⟨?_,?_⟩
   ·rw [e,e2]
    simpa using r1
   ·rw [e]
    simpa using r3
theorem int.At.later {w w':World} {bs:List (Nat×List Nat)} {f:Nat→Nat} {u:Nat→Value} {i:Nat} {x:Nat×List Nat} (h:At w bs f u i x) (hb:Below w.heap.size w w'):At w' bs f u i x:=by
 exact ⟨h.row.old hb,h.sl.below hb⟩
theorem list.At.later {w w':World} {bs:List (Nat×List Nat)} {f:Nat→Nat} {u:Nat→Value} {i:Nat} {x:Nat×List Nat} (h:At w bs f u i x) (hb:Below w.heap.size w w'):At w' bs f u i x:=by
 exact ⟨h.row.old hb,h.sl.below hb⟩
theorem tree.At.later {w w':World} {bs:List (Nat×List Nat)} {f:Nat→Nat} {u:Nat→Value} {i:Nat} {x:Nat×List Nat} (h:At w bs f u i x) (hb:Below w.heap.size w w'):At w' bs f u i x:=by
 exact ⟨h.row.old hb,h.sl.below hb⟩
theorem row.At.later {w w':World} {bs:List (Nat×List Nat)} {f:Nat→Nat} {u:Nat→Value} {i:Nat} {x:Nat×List Nat} (h:At w bs f u i x) (hb:Below w.heap.size w w'):At w' bs f u i x:=by
 exact ⟨h.row.old hb,h.sl.below hb⟩
theorem int.IB (bs:List (Nat×List Nat)):tagged (chain bs.reverse).reverse=tagged bs:=by
 unfold chain
 simp [tagged]
theorem int.KR (l:List (Nat×List Nat)) (m:Nat) (hm:m<l.length):tagged (l.take (m+1))=tagged (l.take m)++(l[m]).2.map fun t=>((l[m]).1,t):=by
 rw [List.take_succ_eq_append_getElem hm]
 exact M.yH _ _ _
theorem int.zL (l:List (Nat×List Nat)) (m:Nat):(tagged (l.take m)).length≤(tagged l).length:=by
 have:tagged l=tagged (l.take m)++tagged (l.drop m):=by
  unfold tagged
  rw [←List.flatMap_append,List.take_append_drop]
 rw [this,List.length_append]
 omega
structure int.OI (W1:World) (gc n:Nat) (l:List (Nat×Nat)) (mv:Value) (w':World):Prop where
 below:Below W1.heap.size W1 w'
 cnt:Fn w' gc 3 n (fun k=>.int .i64 (((l.map Prod.snd).count k:Nat):Int))
 own:w'.ownsRow (gc+1) 51 3 mv (marks l).length (dQ (marks l))
structure list.OI (W1:World) (gc n:Nat) (l:List (Nat×Nat)) (mv:Value) (w':World):Prop where
 below:Below W1.heap.size W1 w'
 cnt:Fn w' gc 3 n (fun k=>.int .i64 (((l.map Prod.snd).count k:Nat):Int))
 own:w'.ownsRow (gc+1) 51 3 mv (marks l).length (dQ (marks l))
structure tree.OI (W1:World) (gc n:Nat) (l:List (Nat×Nat)) (mv:Value) (w':World):Prop where
 below:Below W1.heap.size W1 w'
 cnt:Fn w' gc 3 n (fun k=>.int .i64 (((l.map Prod.snd).count k:Nat):Int))
 own:w'.ownsRow (gc+1) 51 3 mv (marks l).length (dQ (marks l))
structure row.OI (W1:World) (gc n:Nat) (l:List (Nat×Nat)) (mv:Value) (w':World):Prop where
 below:Below W1.heap.size W1 w'
 cnt:Fn w' gc 3 n (fun k=>.int .i64 (((l.map Prod.snd).count k:Nat):Int))
 own:w'.ownsRow (gc+1) 51 3 mv (marks l).length (dQ (marks l))
def int.gZ:Prop:=∀ {w:World} (bS b n:Nat) (bs:List (Nat×List Nat)) {I:Nat→Prop} (_c0:w.cell? ⟨bS,0,none⟩=some (.int .i64 (n:Int))) (_hn:n≤64) (_hbr:cO I w bs.reverse b) (_VI:∀ x∈bs,∀ k∈x.2,k<n) (_wX:∀ x∈bs,x.1≤1000000000) (_VJ:bs.length≤1000000000) (_hA:(tagged bs).length≤1000000000000),Calls Tryz.prog 112 #[.pointer (some ⟨bS,0,none⟩),.pointer (some ⟨b,0,none⟩)] w fun e w'=>∃ v,e = .returned v∧w'.ownsRow w.heap.size 51 3 v (marks (tagged bs)).length (dQ (marks (tagged bs)))∧Below w.heap.size w w'
def list.gZ:Prop:=∀ {w:World} (bS b n:Nat) (bs:List (Nat×List Nat)) {I:Nat→Prop} (_c0:w.cell? ⟨bS,0,none⟩=some (.int .i64 (n:Int))) (_hn:n≤64) (_hbr:cO I w bs.reverse b) (_VI:∀ x∈bs,∀ k∈x.2,k<n) (_wX:∀ x∈bs,x.1≤1000000000) (_VJ:bs.length≤1000000000) (_hA:(tagged bs).length≤1000000000000),Calls Tryz.prog 172 #[.pointer (some ⟨bS,0,none⟩),.pointer (some ⟨b,0,none⟩)] w fun e w'=>∃ v,e = .returned v∧w'.ownsRow w.heap.size 51 3 v (marks (tagged bs)).length (dQ (marks (tagged bs)))∧Below w.heap.size w w'
def tree.gZ:Prop:=∀ {w:World} (bS b n:Nat) (bs:List (Nat×List Nat)) {I:Nat→Prop} (_c0:w.cell? ⟨bS,0,none⟩=some (.int .i64 (n:Int))) (_hn:n≤64) (_hbr:cO I w bs.reverse b) (_VI:∀ x∈bs,∀ k∈x.2,k<n) (_wX:∀ x∈bs,x.1≤1000000000) (_VJ:bs.length≤1000000000) (_hA:(tagged bs).length≤1000000000000),Calls Tryz.prog 246 #[.pointer (some ⟨bS,0,none⟩),.pointer (some ⟨b,0,none⟩)] w fun e w'=>∃ v,e = .returned v∧w'.ownsRow w.heap.size 51 3 v (marks (tagged bs)).length (dQ (marks (tagged bs)))∧Below w.heap.size w w'
def row.gZ:Prop:=∀ {w:World} (bS b n:Nat) (bs:List (Nat×List Nat)) {I:Nat→Prop} (_c0:w.cell? ⟨bS,0,none⟩=some (.int .i64 (n:Int))) (_hn:n≤64) (_hbr:cO I w bs.reverse b) (_VI:∀ x∈bs,∀ k∈x.2,k<n) (_wX:∀ x∈bs,x.1≤1000000000) (_VJ:bs.length≤1000000000) (_hA:(tagged bs).length≤1000000000000),Calls Tryz.prog 209 #[.pointer (some ⟨bS,0,none⟩),.pointer (some ⟨b,0,none⟩)] w fun e w'=>∃ v,e = .returned v∧w'.ownsRow w.heap.size 51 3 v (marks (tagged bs)).length (dQ (marks (tagged bs)))∧Below w.heap.size w w'
open row in
theorem uP:int.gZ∧list.gZ∧tree.gZ∧row.gZ:=by
 refine ⟨@mkK _ 0 ?_,@mkK _ 1 ?_,@mkK _ 2 ?_,@mkK _ 3 ?_⟩<;>intro kk w bS b n bs I c0 hn xX hmem wY hlen hA
 all_goals
  obtain ⟨f,u,hf0,hAt⟩:=xX.at
  have hcl:(chain bs.reverse).length=bs.length+1:=by simp [chain]
  obtain ⟨N,hN⟩:∃ N,N=bs.length:=⟨_,rfl⟩
  obtain ⟨pi,hpi,hpz⟩:=Option.map_eq_some_iff.1 JX
  simp only [Prod.mk.injEq] at hpz
  obtain ⟨oF,yR,hp3⟩:=hpz
  have HPI:=aA hpi
  have HP1:=aA oF
  have HP2:=aA yR
  have HP3:=aA hp3
  obtain ⟨mi,hmi,hmz⟩:=Option.map_eq_some_iff.1 MX
  simp only [Prod.mk.injEq] at hmz
  obtain ⟨UU,UW,UX⟩:=hmz
  have HMI:=aA hmi
  have HM1:=aA UU
  have HM2:=aA UW
  have HM3:=aA UX
  clear hpi oF yR hp3 hmi UU UW UX
  have hmk:=oI (P:=Tryz.prog) 22 3 (.int .i64 0) 8 Tryz.underlying22 iV rfl (n:Int) n rfl (by omega) (by omega)
  have HAT:=aA (show ∀ i (h:i<(chain bs.reverse).length),At w bs.reverse f u i (chain bs.reverse)[i] from hAt)
  have HC0:=aA c0
  have RF:=aA hcl
  have ZQ:=aA hN
  have HF0:=aA hf0
  have aDc:=aA hmem
  have aDd:=aA wY
  have hNb:N≤1000000000:=by omega
  clear xX hAt c0 hcl hf0 hmem wY hN
  first|(have _:Kn 0:=kk;go_enter Tryz.func112,Tryz.ntmps112)|(have _:Kn 1:=kk;go_enter Tryz.func172,Tryz.ntmps172)|(have _:Kn 2:=kk;go_enter Tryz.func246,Tryz.ntmps246)|(have _:Kn 3:=kk;go_enter Tryz.func209,Tryz.ntmps209)
  go_wp2
  go_loopg [5,6] (N+1) (fun g s p w'=>∃ i:Nat,i+g=N+1∧p=(if i≤N then Value.pointer (some ⟨f i,0,none⟩) else .pointer none)∧Below w.heap.size w w'∧w'.ownsRow w.heap.size 118 1 s i ((List.range i).map fun j=>Value.pointer (some ⟨f j,0,none⟩)))
  case atStart=>exact ⟨0,by omega,by rw [if_pos (Nat.zero_le _),HF0.out],Below.refl _ _,World.ownsRow_nil _ _ _ _⟩
  case round =>
   obtain ⟨i,hi,rfl,hB,hO⟩:=hrel
   have HB:=aA hB
   have HO:=aA hO
   have aAL:=hB.size
   clear hB hO
   by_cases hle:i≤N
   ·rw [if_pos hle]
    go_wp2_with (at_builtin;refine oM _ rfl (.tmp 19) (.tmp 21) 296 rfl w.heap.size 118 pi (.pointer none) 1 8 Tryz.underlying296 HPI.out HP1.out HP2.out HP3.out rfl (by decide) _ i _ rfl (HO.out.alloc _) ⟨wr.heap.size,0,none⟩ 1 1 [.pointer (some ⟨f i,0,none⟩)] rfl rfl (World.news_of_block (Row.new _ _ _)) (by simp [Value.oneCell']) (by decide) (by unfold maxLen;omega) (by omega) (by simp;omega) ?_)
    intro g3 c3 w3 hown jY hl3 JM
    have hvl:=HO.out.lt
    have cH:Below w.heap.size w w3:=(Below.next HB.out (aB _ _) aAL).grown jY (by simp;omega) (fun q hq=>(hvl q hq).1)
    have hr3:=((HAT.out i (by rw [RF.out,←ZQ.out];omega)).later cH).row
    have c2:w3.cell? ⟨f i,2,none⟩=some (XB bs.reverse f i):=hr3.cell_of rfl
    have e2:XB bs.reverse f i=if i+1≤N then Value.pointer (some ⟨f (i+1),0,none⟩) else .pointer none:=by
     unfold XB
     rw [List.length_reverse,←ZQ.out]
     rfl
    have HR:=aA (And.intro cH hown)
    have HE2:=aA e2
    clear hown jY hl3 JM hvl hr3 cH e2
    generalize XB bs.reverse f i=nx at *
    go_wp2
    go_roundg (gk-1)
    case measure=>omega
    case rel =>
     refine ⟨i+1,by omega,HE2.out,HR.out.1,?_⟩
     rw [List.range_succ,List.map_append]
     exact HR.out.2
   ·rw [if_neg hle]
    have hiN:i=N+1:=by omega
    subst hiN
    rename World=>W1
    obtain ⟨gb,sc,eb,-⟩:=tX HO.out (i:=0) (u:=.pointer (some ⟨f 0,0,none⟩)) (by simp)
    subst eb
    have HBT:=aA (show ∀ j,j≤N→W1.cell? ⟨gb,j,none⟩=some (.pointer (some ⟨f j,0,none⟩)) from fun j hj=>by
     have:=HO.out.cells (g:=gb) rfl j (.pointer (some ⟨f j,0,none⟩)) (by simp [List.getElem?_range (show j<N+1 by omega)])
     rwa [oJ,Nat.zero_add] at this)
    have aJZ:gb<W1.heap.size:=(HO.out.lt gb rfl).2
    have c0:W1.cell? ⟨bS,0,none⟩=some (.int .i64 (n:Int)):=cell_later HB.out HC0.out
    go_wp2
    generalize kS:World.alloc W1 _=W2
    first
     |have _:Kn 0:=kk
      have HOI:=aA (show int.OI W1 W1.heap.size n [] (.slice none 0 0) W2 from by
       rw [←kS]
       refine ⟨aB _ _,?_,World.ownsRow_nil _ _ _ _⟩
       have:(List.range n).map (fun k=>Value.int .i64 ((((([]:List (Nat×Nat)).map Prod.snd).count k:Nat):Int)))=zeros (.int .i64 0) n:=by
        unfold zeros
        apply List.ext_getElem
        ·simp
        ·intro i h1 h2;simp
       unfold Fn
       rw [this]
       exact Row.new' rfl)
     |have _:Kn 1:=kk
      have HOI:=aA (show list.OI W1 W1.heap.size n [] (.slice none 0 0) W2 from by
       rw [←kS]
       refine ⟨aB _ _,?_,World.ownsRow_nil _ _ _ _⟩
       have:(List.range n).map (fun k=>Value.int .i64 ((((([]:List (Nat×Nat)).map Prod.snd).count k:Nat):Int)))=zeros (.int .i64 0) n:=by
        unfold zeros
        apply List.ext_getElem
        ·simp
        ·intro i h1 h2;simp
       unfold Fn
       rw [this]
       exact Row.new' rfl)
     |have _:Kn 2:=kk
      have HOI:=aA (show tree.OI W1 W1.heap.size n [] (.slice none 0 0) W2 from by
       rw [←kS]
       refine ⟨aB _ _,?_,World.ownsRow_nil _ _ _ _⟩
       have:(List.range n).map (fun k=>Value.int .i64 ((((([]:List (Nat×Nat)).map Prod.snd).count k:Nat):Int)))=zeros (.int .i64 0) n:=by
        unfold zeros
        apply List.ext_getElem
        ·simp
        ·intro i h1 h2;simp
       unfold Fn
       rw [this]
       exact Row.new' rfl)
     |have _:Kn 3:=kk
      have HOI:=aA (show row.OI W1 W1.heap.size n [] (.slice none 0 0) W2 from by
       rw [←kS]
       refine ⟨aB _ _,?_,World.ownsRow_nil _ _ _ _⟩
       have:(List.range n).map (fun k=>Value.int .i64 ((((([]:List (Nat×Nat)).map Prod.snd).count k:Nat):Int)))=zeros (.int .i64 0) n:=by
        unfold zeros
        apply List.ext_getElem
        ·simp
        ·intro i h1 h2;simp
       unfold Fn
       rw [this]
       exact Row.new' rfl)
    have aF1:=aA (show ∀ m (hm:m≤N),(chain bs.reverse).reverse[m]'(by rw [List.length_reverse,RF.out,←ZQ.out];omega)=(chain bs.reverse)[N-m]'(by rw [RF.out,←ZQ.out];omega) from fun m hm=>by
     rw [List.getElem_reverse]
     congr 1
     rw [RF.out,←ZQ.out]
     omega)
    have HTG:=aA (IB bs)
    have HOL:=aA (show (chain bs.reverse).reverse.length=N+1 by rw [List.length_reverse,RF.out,←ZQ.out])
    have HXM:=aA (show ∀ x∈(chain bs.reverse).reverse,(∀ k∈x.2,k<n)∧x.1≤1000000000 from fun x hx=>by
     rw [List.mem_reverse] at hx
     unfold chain at hx
     rcases List.mem_append.1 hx with q|q
     ·rw [List.mem_reverse] at q
      exact ⟨aDc.out x q,aDd.out x q⟩
     ·rw [List.mem_singleton.1 q]
      exact ⟨fun k hk=>absurd hk List.not_mem_nil,by decide⟩)
    clear kS c0 aDc aDd
    obtain ⟨ord,ho⟩:∃ ord,ord=(chain bs.reverse).reverse:=⟨_,rfl⟩
    rw [←ho] at HTG
    have HO':=aA ho
    first|(have _:Kn 0:=kk;go_loopw [7,9] (fun mv i w'=>∃ m:Nat,m≤N+1∧i = .int .i64 ((N:Int)-(m:Int))∧int.OI W1 W1.heap.size n (tagged (ord.take m)) mv w') (fun _ i _=>(intOf i+1).toNat))|(have _:Kn 1:=kk;go_loopw [7,9] (fun mv i w'=>∃ m:Nat,m≤N+1∧i = .int .i64 ((N:Int)-(m:Int))∧list.OI W1 W1.heap.size n (tagged (ord.take m)) mv w') (fun _ i _=>(intOf i+1).toNat))|(have _:Kn 2:=kk;go_loopw [7,9] (fun mv i w'=>∃ m:Nat,m≤N+1∧i = .int .i64 ((N:Int)-(m:Int))∧tree.OI W1 W1.heap.size n (tagged (ord.take m)) mv w') (fun _ i _=>(intOf i+1).toNat))|(have _:Kn 3:=kk;go_loopw [7,9] (fun mv i w'=>∃ m:Nat,m≤N+1∧i = .int .i64 ((N:Int)-(m:Int))∧row.OI W1 W1.heap.size n (tagged (ord.take m)) mv w') (fun _ i _=>(intOf i+1).toNat))
    case atStart=>exact ⟨0,Nat.zero_le _,by go_num,HOI.out⟩
    case round =>
     obtain ⟨m,hm,rfl,hI⟩:=hrel
     by_cases hlt:m≤N
     ·have hlt':¬(N:Int)-(m:Int)<0:=by omega
      have hol:m<ord.length:=by rw [ho,HOL.out];omega
      have hx0:ord[m]=(chain bs.reverse)[N-m]'(by rw [RF.out,←ZQ.out];omega):=by
       have:=aF1.out m hlt
       simp only [ho]
       exact this
      have hat:=HAT.out (N-m) (by rw [RF.out,←ZQ.out];omega)
      have hBI:=Below.next HB.out hI.below HB.out.size
      rw [←hx0] at hat
      obtain ⟨hxm,hxn⟩:=HXM.out ord[m] (by rw [←ho];exact List.getElem_mem hol)
      have YP:=KR ord m hol
      have aDe:(tagged (ord.take m)).length+(ord[m]).2.length≤1000000000000:=by
       have h1:=zL ord (m+1)
       rw [YP,List.length_append,List.length_map,HTG.out] at h1
       omega
      obtain ⟨q,hq⟩:∃ q,q=(ord[m]).1:=⟨_,rfl⟩
      obtain ⟨p,hp⟩:∃ p,p=(ord[m]).2:=⟨_,rfl⟩
      rw [←hq,←hp] at YP
      rw [←hp] at aDe hxm
      rw [←hq] at hxn
      have hrow:=hat.row
      rw [←hq] at hrow
      have JL:=hat.sl
      rw [←hp] at JL
      obtain ⟨ua,uc,eu,hul,-,VK⟩:=JL.open_ints
      rw [List.length_map] at eu hul
      have b0w:w.cell? ⟨f (N-m),0,none⟩=some (.int .i64 (q:Int)):=hrow.cell_of rfl
      have b0:=cell_later hBI b0w
      have b1:wr.cell? ⟨f (N-m),1,none⟩=some (.slice ua p.length uc):=by rw [←eu];exact cell_later hBI (hrow.cell_of rfl)
      have bt:wr.cell? ⟨gb,N-m,none⟩=some (.pointer (some ⟨f (N-m),0,none⟩)):=cell_later hI.below (HBT.out _ (by omega))
      have hNm:((N-m:Nat):Int)=(N:Int)-(m:Int):=by omega
      have hx1:(N:Int)-(m:Int)<(N:Int)+1:=by omega
      have aJ3:((N:Int)-(m:Int)).toNat=N-m:=by omega
      have HUC:=aA (show ∀ W,Below w.heap.size w W→∀ r (hr:r<p.length),∃ g off,ua=some ⟨g,off,none⟩∧W.cell? ⟨g,off+r,none⟩=some (.int .i64 ((p[r]:Nat):Int)) from fun W hW r hr=>by
       obtain ⟨g,off,e1,e2⟩:=VK r (by simpa using hr)
       refine ⟨g,off,e1,?_⟩
       have:=cell_later hW e2
       simpa using this)
      have HTT:=aA YP
      have HPL:=aA hxm
      have HI:=aA hI
      have HFC:=aA b0w
      have hm2:(marks (tagged (ord.take m))).length≤1000000000000:=by rw [M.xK];omega
      clear hx0 hat hrow JL VK YP hxm hI hq hp eu hBI b0w b0
      go_wp2
      first|(have _:Kn 0:=kk;go_loopw [7,44] (fun mv i w'=>∃ r:Nat,r≤p.length∧i = .int .i64 (r:Int)∧int.OI W1 W1.heap.size n (tagged (ord.take m)++(p.take r).map fun t=>(q,t)) mv w') (fun _ i _=>p.length-(intOf i).toNat))|(have _:Kn 1:=kk;go_loopw [7,44] (fun mv i w'=>∃ r:Nat,r≤p.length∧i = .int .i64 (r:Int)∧list.OI W1 W1.heap.size n (tagged (ord.take m)++(p.take r).map fun t=>(q,t)) mv w') (fun _ i _=>p.length-(intOf i).toNat))|(have _:Kn 2:=kk;go_loopw [7,44] (fun mv i w'=>∃ r:Nat,r≤p.length∧i = .int .i64 (r:Int)∧tree.OI W1 W1.heap.size n (tagged (ord.take m)++(p.take r).map fun t=>(q,t)) mv w') (fun _ i _=>p.length-(intOf i).toNat))|(have _:Kn 3:=kk;go_loopw [7,44] (fun mv i w'=>∃ r:Nat,r≤p.length∧i = .int .i64 (r:Int)∧row.OI W1 W1.heap.size n (tagged (ord.take m)++(p.take r).map fun t=>(q,t)) mv w') (fun _ i _=>p.length-(intOf i).toNat))
      case atStart=>exact ⟨0,Nat.zero_le _,rfl,by simpa using HI.out⟩
      case round =>
       obtain ⟨r,hr,rfl,hJ⟩:=hrel
       obtain ⟨l,hl⟩:∃ l,l=tagged (ord.take m)++(p.take r).map fun t=>(q,t):=⟨_,rfl⟩
       rw [←hl] at hJ
       have UG:l.length≤1000000000000:=by
        rw [hl,List.length_append,List.length_map,List.length_take]
        omega
       by_cases hrt:r<p.length
       ·have aF5:(r:Int)<(p.length:Int):=by omega
        have PK:(0:Int)≤(r:Int):=by omega
        have hBJ:=Below.next HB.out hJ.below HB.out.size
        obtain ⟨g,off,rfl,cr⟩:=HUC.out _ hBJ r hrt
        obtain ⟨tt,YP⟩:∃ tt,tt=p[r]:=⟨_,rfl⟩
        have htn:tt<n:=by rw [YP];exact HPL.out _ (List.getElem_mem hrt)
        rw [←YP] at cr
        have bt2:wr.cell? ⟨gb,N-m,none⟩=some (.pointer (some ⟨f (N-m),0,none⟩)):=cell_later hJ.below (HBT.out _ (by omega))
        have b02:wr.cell? ⟨f (N-m),0,none⟩=some (.int .i64 (q:Int)):=cell_later hBJ HFC.out
        have hfl:f (N-m)<W1.heap.size:=Nat.lt_of_lt_of_le (World.block_lt_of_cell? w _ HFC.out) HB.out.size
        have HLS:=aA (show tagged (ord.take m)++(p.take (r+1)).map (fun t=>(q,t))=l++[(q,tt)] by
         rw [hl,List.take_succ_eq_append_getElem hrt,List.map_append,YP,List.append_assoc]
         rfl)
        have HMS:=aA (M.BB l q tt)
        have hA9:(l.map Prod.snd).count tt≤1000000000000:=Nat.le_trans List.count_le_length (by simpa using UG)
        have HCN:=aA (show ∀ k,((l++[(q,tt)]).map Prod.snd).count k=(l.map Prod.snd).count k+if k=tt then 1 else 0 from fun k=>by
         rw [List.map_append,List.count_append]
         congr 1
         by_cases e:k=tt
         ·subst e;simp
         ·simp [e,Ne.symm e])
        have ct:wr.cell? ⟨W1.heap.size,tt,none⟩=some (.int .i64 (((l.map Prod.snd).count tt:Nat):Int)):=hJ.cnt.cell htn
        have cf:=hJ.cnt.frozen tt
        have aJ9:(tt:Int)<(n:Int):=by omega
        have oG:(0:Int)≤(tt:Int):=by omega
        have hml:(marks l).length≤1000000000000:=by rw [M.xK];exact UG
        have hmo:=hJ.own.lt
        have hzr:W1.heap.size<wr.heap.size:=hJ.cnt.lt
        obtain ⟨⟨oa,oc,rfl⟩,-⟩:=gN hJ.own
        have HJ:=aA hJ
        clear hJ hBJ hl YP
        generalize hA:(l.map Prod.snd).count tt=A at *
        have HAA:=aA hA
        clear hA
        have aC5:some gb≠(Value.slice oa (marks l).length oc).ownBlock:=fun e=>by have:=(hmo _ e.symm).1;omega
        have aF7:some (f (N-m))≠(Value.slice oa (marks l).length oc).ownBlock:=fun e=>by have:=(hmo _ e.symm).1;omega
        have aDf:some W1.heap.size≠(Value.slice oa (marks l).length oc).ownBlock:=fun e=>by have:=(hmo _ e.symm).1;omega
        go_upto_region 14 with fail
        refine fQ (S:=(fun w'=>w'.cell? ⟨gb,N-m,none⟩=some (.pointer (some ⟨f (N-m),0,none⟩))∧w'.cell? ⟨f (N-m),0,none⟩=some (.int .i64 (q:Int))∧w'.cell? ⟨W1.heap.size,tt,none⟩=some (.int .i64 (A:Int)))) 17 rfl (by kernel_rfl) ?_ (fun hHeld=>?_)
        ·exact ⟨bt2,b02,ct⟩
        iterate 14 (refine tk 16 (by rfl) (by kernel_rfl) (by exact fun _ _ _ h=>h) (.inl ⟨by rfl,fun w hS=>by (try dsimp only at hS);go_simp;(try with_reducible rfl)⟩) (by assumption) ?_;try go_frame)
        refine bK 14 (by rfl) (by kernel_rfl) (fun K hK=>?_)
        go_simp
        refine hK.out _ _ ?_ (fun hHeld=>?_)
        ·exact ⟨cell_later (aB _ _) hHeld.1,cell_later (aB _ _) hHeld.2.1,cell_later (aB _ _) hHeld.2.2⟩
        clear hK K
        (try go_frame)
        refine bK 15 (by rfl) (by kernel_rfl) (fun K hK=>?_)
        refine step_append_lies _ rfl (.tmp 48) (.tmp 62) 48 rfl (W1.heap.size+1) 51 mi (.agg #[.int .i64 0,.int .i64 0,.int .i64 0]) 3 24 Tryz.underlying48 HMI.out HM1.out HM2.out HM3.out rfl (by decide) (.slice oa (marks l).length oc) (marks l).length (dQ (marks l)) rfl ?_ ⟨wr.heap.size,0,none⟩ 1 1 [.int .i64 (q:Int),.int .i64 (tt:Int),.int .i64 (A:Int)] rfl rfl ?_ (by simp [Value.oneCell']) (by decide) (by unfold maxLen;omega) (by omega) (by simp;omega) _ rfl ?_
        ·exact HJ.out.own.alloc _
        ·exact World.news_of_block (Row.new' (by simp))
        intro g4 gc4 w4 hown jY hat mN
        have sV:=aA hown
        have HG:=aA jY
        clear hown jY hat mN
        refine hK.out _ _ ?_ (fun hHeld=>?_)
        ·exact ⟨HG.out.cell hHeld.1 aC5,HG.out.cell hHeld.2.1 aF7,HG.out.cell hHeld.2.2 aDf⟩
        clear hK K
        (try go_frame)
        iterate 1 (refine tk 16 (by rfl) (by kernel_rfl) (by exact fun _ _ _ h=>h) (.inl ⟨by rfl,fun w hS=>by (try dsimp only at hS);go_simp;(try with_reducible rfl)⟩) (by assumption) ?_;try go_frame)
        refine wpAnyH_done (by kernel_rfl) ?_ _
        have RG:Fn w4 W1.heap.size 3 n (fun k=>.int .i64 (((l.map Prod.snd).count k:Nat):Int)):=HJ.out.cnt.of_block ((HG.out.block _ (by simp;omega) aDf).trans ((aB wr (.cells #[.int .i64 (q:Int),.int .i64 (tt:Int),.int .i64 (A:Int)] 51)).block _ hzr))
        have ct4:=hHeld.2.2
        have cf4:=RG.frozen tt
        have cR:Below W1.heap.size W1 w4:=(Below.next HJ.out.below (Below.drew (aB wr (.cells #[.int .i64 (q:Int),.int .i64 (tt:Int),.int .i64 (A:Int)] 51))) HJ.out.below.size).grown HG.out (by simp;omega) (fun x hx=>by have:=(hmo x hx).1;omega)
        have hg4:W1.heap.size+1≤g4:=(sV.out.lt g4 rfl).1
        first
         |have _:Kn 0:=kk
          have RH:=aA (show int.OI W1 W1.heap.size n (l++[(q,tt)]) (.slice (some ⟨g4,0,none⟩) ((marks l).length+1) gc4) (w4.setCell ⟨W1.heap.size,tt,none⟩ (.int .i64 ((A:Int)+1))) from by
           refine ⟨cR.setCell (Nat.le_refl _) _,?_,?_⟩
           ·refine Fn.congr (RG.set tt (.int .i64 ((A:Int)+1))) fun k hk=>?_
            rw [HCN.out k]
            by_cases e:k=tt
            ·rw [e,aC,if_pos rfl,HAA.out];rfl
            ·rw [aE _ _ e,if_neg e];rfl
           ·rw [HMS.out,mC,List.length_append,List.length_singleton]
            have:=ownsRow_setCell_other sV.out (a:=⟨W1.heap.size,tt,none⟩) (by simp [Value.ownBlock];omega) (.int .i64 ((A:Int)+1))
            simpa [dQ] using this)
         |have _:Kn 1:=kk
          have RH:=aA (show list.OI W1 W1.heap.size n (l++[(q,tt)]) (.slice (some ⟨g4,0,none⟩) ((marks l).length+1) gc4) (w4.setCell ⟨W1.heap.size,tt,none⟩ (.int .i64 ((A:Int)+1))) from by
           refine ⟨cR.setCell (Nat.le_refl _) _,?_,?_⟩
           ·refine Fn.congr (RG.set tt (.int .i64 ((A:Int)+1))) fun k hk=>?_
            rw [HCN.out k]
            by_cases e:k=tt
            ·rw [e,aC,if_pos rfl,HAA.out];rfl
            ·rw [aE _ _ e,if_neg e];rfl
           ·rw [HMS.out,mC,List.length_append,List.length_singleton]
            have:=ownsRow_setCell_other sV.out (a:=⟨W1.heap.size,tt,none⟩) (by simp [Value.ownBlock];omega) (.int .i64 ((A:Int)+1))
            simpa [dQ] using this)
         |have _:Kn 2:=kk
          have RH:=aA (show tree.OI W1 W1.heap.size n (l++[(q,tt)]) (.slice (some ⟨g4,0,none⟩) ((marks l).length+1) gc4) (w4.setCell ⟨W1.heap.size,tt,none⟩ (.int .i64 ((A:Int)+1))) from by
           refine ⟨cR.setCell (Nat.le_refl _) _,?_,?_⟩
           ·refine Fn.congr (RG.set tt (.int .i64 ((A:Int)+1))) fun k hk=>?_
            rw [HCN.out k]
            by_cases e:k=tt
            ·rw [e,aC,if_pos rfl,HAA.out];rfl
            ·rw [aE _ _ e,if_neg e];rfl
           ·rw [HMS.out,mC,List.length_append,List.length_singleton]
            have:=ownsRow_setCell_other sV.out (a:=⟨W1.heap.size,tt,none⟩) (by simp [Value.ownBlock];omega) (.int .i64 ((A:Int)+1))
            simpa [dQ] using this)
         |have _:Kn 3:=kk
          have RH:=aA (show row.OI W1 W1.heap.size n (l++[(q,tt)]) (.slice (some ⟨g4,0,none⟩) ((marks l).length+1) gc4) (w4.setCell ⟨W1.heap.size,tt,none⟩ (.int .i64 ((A:Int)+1))) from by
           refine ⟨cR.setCell (Nat.le_refl _) _,?_,?_⟩
           ·refine Fn.congr (RG.set tt (.int .i64 ((A:Int)+1))) fun k hk=>?_
            rw [HCN.out k]
            by_cases e:k=tt
            ·rw [e,aC,if_pos rfl,HAA.out];rfl
            ·rw [aE _ _ e,if_neg e];rfl
           ·rw [HMS.out,mC,List.length_append,List.length_singleton]
            have:=ownsRow_setCell_other sV.out (a:=⟨W1.heap.size,tt,none⟩) (by simp [Value.ownBlock];omega) (.int .i64 ((A:Int)+1))
            simpa [dQ] using this)
        clear hHeld RG cR HG sV
        go_wp2
        go_roundw
        case rel=>exact ⟨r+1,by omega,by go_num,by rw [HLS.out];exact RH.out⟩
        case measure=>simp [intOf];omega
       ·have aF5:¬(r:Int)<(p.length:Int):=by omega
        first
         |have _:Kn 0:=kk
          have HE:=aA (show int.OI W1 W1.heap.size n (tagged (ord.take (m+1))) _ wr by
           rw [HTT.out]
           rw [hl,List.take_of_length_le (show p.length≤r by omega)] at hJ
           exact hJ)
         |have _:Kn 1:=kk
          have HE:=aA (show list.OI W1 W1.heap.size n (tagged (ord.take (m+1))) _ wr by
           rw [HTT.out]
           rw [hl,List.take_of_length_le (show p.length≤r by omega)] at hJ
           exact hJ)
         |have _:Kn 2:=kk
          have HE:=aA (show tree.OI W1 W1.heap.size n (tagged (ord.take (m+1))) _ wr by
           rw [HTT.out]
           rw [hl,List.take_of_length_le (show p.length≤r by omega)] at hJ
           exact hJ)
         |have _:Kn 3:=kk
          have HE:=aA (show row.OI W1 W1.heap.size n (tagged (ord.take (m+1))) _ wr by
           rw [HTT.out]
           rw [hl,List.take_of_length_le (show p.length≤r by omega)] at hJ
           exact hJ)
        clear hJ hl
        go_wp2
        go_roundw
        case rel=>exact ⟨m+1,by omega,by go_num,HE.out⟩
        case measure=>simp [intOf];omega
     ·have hlt':(N:Int)-(m:Int)<0:=by omega
      have HE:=aA (show wr.ownsRow w.heap.size 51 3 _ (marks (tagged bs)).length (dQ (marks (tagged bs)))∧Below w.heap.size w wr from by
       have h1:=hI.own
       rw [List.take_of_length_le (by rw [ho,HOL.out];omega),HTG.out] at h1
       exact ⟨kP h1 (by have:=HB.out.size;omega),Below.next HB.out hI.below HB.out.size⟩)
      clear hI
      go_wp2
      go_ret
      exact ⟨_,rfl,HE.out.1,HE.out.2⟩
theorem int.sJ:gZ:=uP.1
theorem list.sJ:gZ:=uP.2.1
theorem tree.sJ:gZ:=uP.2.2.1
theorem row.sJ:gZ:=uP.2.2.2
end Go.Proofs.YtefjhnhdagolhabGreat
