import Derived.Test.YtefjhnhdagolhaaGreatQ27
import Derived.Test.YtefjhnhdagolhaaGreatQ19
namespace Go.Proofs.YtefjhnhdagolhaaGreat
open Go.RowKit
open M (aI aC aD aR aT cnt marks tagged num)
attribute [local go_sem ↓] Go.wp_at_zero Go.wp_at_succ
theorem rQ:(Tryz.prog.info? 81).map (fun i=>(i.zero,i.size,i.bytes))=some (some (.agg #[.int .i64 0,.int .i64 0,.int .i64 0]),3,24):=by kernel_rfl
def cU (l:List M.Mark):List Value:=l.flatMap fun m=>[.int .i64 (m.b:Int),.int .i64 (m.t:Int),.int .i64 (m.s:Int)]
theorem lU (l m:List M.Mark):cU (l++m)=cU l++cU m:=by simp [cU]
theorem GH (a:M.Mark) (l:List M.Mark):cU (a::l) = .int .i64 (a.b:Int)::.int .i64 (a.t:Int)::.int .i64 (a.s:Int)::cU l:=by simp [cU]
theorem cZ (l:List M.Mark) (i:Nat) (hi:i<l.length):(cU l)[i*3]?=some (.int .i64 ((l[i]).b:Int))∧(cU l)[i*3+1]?=some (.int .i64 ((l[i]).t:Int))∧(cU l)[i*3+2]?=some (.int .i64 ((l[i]).s:Int)):=by
 induction l generalizing i with
 |nil=>exact absurd hi (Nat.not_lt_zero _)
 |cons a l ih =>
  cases i with
  |zero=>exact ⟨rfl,rfl,rfl⟩
  |succ i =>
   have:=ih i (by simpa using hi)
   rw [GH,show (i+1)*3=i*3+1+1+1 by omega,show i*3+1+1+1+1=i*3+1+1+1+1 from rfl,show i*3+1+1+1+2=i*3+2+1+1+1 by omega]
   simp only [List.getElem?_cons_succ,List.getElem_cons_succ]
   exact this
def ahead (bs:List (List Nat)) (i r:Nat):List (Nat×Nat):=tagged (num (bs.take i))++((bs.getD i []).take r).map fun t=>(i+1,t)
theorem LC (bs:List (List Nat)) (i r:Nat) (hi:i<bs.length) (hr:r<(bs[i]).length):ahead bs i (r+1)=ahead bs i r++[(i+1,(bs[i])[r])]:=by
 have e:bs.getD i []=bs[i]:=by simp [List.getD,List.getElem?_eq_getElem hi]
 unfold ahead
 rw [e,List.take_succ_eq_append_getElem hr,List.map_append,List.append_assoc]
 rfl
theorem PI (bs:List (List Nat)) (i r:Nat) (hi:i<bs.length) (hr:(bs[i]).length≤r):ahead bs i r=ahead bs (i+1) 0:=by
 have e:bs.getD i []=bs[i]:=by simp [List.getD,List.getElem?_eq_getElem hi]
 unfold ahead
 rw [e,List.take_of_length_le hr,List.take_succ_eq_append_getElem hi,M.mO,M.oM,List.length_take,Nat.min_eq_left (Nat.le_of_lt hi)]
 simp
theorem PJ (bs:List (List Nat)):ahead bs bs.length 0=tagged (num bs):=by
 unfold ahead
 simp
theorem nR (bs:List (List Nat)) (i:Nat):(bs.take i).flatten.length≤bs.flatten.length:=by
 have:bs.flatten=(bs.take i).flatten++(bs.drop i).flatten:=by rw [←List.flatten_append,List.take_append_drop]
 rw [this,List.length_append]
 omega
theorem PK (bs:List (List Nat)) (i r:Nat):(ahead bs i r).length≤bs.flatten.length:=by
 have hl:∀ bs:List (List Nat),(tagged (num bs)).length=bs.flatten.length:=fun bs=>by
  have:=congrArg List.length (M.mY bs)
  simpa using this
 by_cases hi:i<bs.length
 ·have e:bs.getD i []=bs[i]:=by simp [List.getD,List.getElem?_eq_getElem hi]
  have h1:=nR bs (i+1)
  rw [List.take_succ_eq_append_getElem hi] at h1
  unfold ahead
  rw [e,List.length_append,hl,List.length_map,List.length_take]
  simp only [List.flatten_append,List.length_append,List.flatten_singleton] at h1
  omega
 ·have e:bs.getD i []=[]:=by simp [List.getD,List.getElem?_eq_none (Nat.le_of_not_lt hi)]
  unfold ahead
  rw [e,List.length_append,hl]
  have:=nR bs i
  rw [List.take_nil,List.map_nil,List.length_nil]
  omega
theorem PL (l:List (Nat×Nat)) (u:Nat) (hu:u<l.length) (t:Nat):((l.take (u+1)).map Prod.snd).count t=((l.take u).map Prod.snd).count t+if (l[u]).2=t then 1 else 0:=by
 rw [List.take_succ_eq_append_getElem hu,List.map_append,List.count_append]
 congr 1
 by_cases e:(l[u]).2=t<;>simp [e]
section
variable {L:DL} {S:Nat→Prop} {Y:aR} {w:World} {bC:Nat→Nat} {vo vp:Nat→Value} {vb:Value} {bv:Nat→Value} {t:Nat}
theorem dS {w:World} {base:Nat} {e:TypeId} {size:Nat} {v:Value} {n:Nat} {xs:List Value} (h:w.ownsRow base e size v n xs) {i:Nat} {u:Value} (hi:xs[i]?=some u):∃ g c,v = .slice (some ⟨g,0,none⟩) n c∧w.cell? ⟨g,i,none⟩=some u:=by
 have hl:i<xs.length:=by
  rcases Nat.lt_or_ge i xs.length with q|q
  ·exact q
  ·rw [List.getElem?_eq_none q] at hi;cases hi
 rcases h.2 with ⟨-,e⟩|⟨g,cap,cur,rfl,h3,h4,h5⟩
 ·have:=h.1;rw [e] at this;omega
 ·refine ⟨g,cap,rfl,?_⟩
  have:=h.cells (g:=g) rfl i u hi
  rwa [eM,Nat.zero_add] at this
set_option maxRecDepth 20000 in
set_option maxHeartbeats 4000000 in
theorem GI (h:DR L S Y w bC vo vp vb bv) (hA:Y.bs.flatten.length≤1000000000000) :
  Calls Tryz.prog 55 #[.pointer (some ⟨L.b,0,none⟩)] w fun e w'=>∃ v,e = .returned v∧w'.ownsRow w.heap.size 81 3 v Y.order.length (cU Y.order)∧Below w.heap.size w w':=by
 obtain ⟨mi,xK,xL⟩:=Option.map_eq_some_iff.1 rQ
 simp only [Prod.mk.injEq] at xL
 obtain ⟨kL,kM,kN⟩:=xL
 have KC:=aA xK
 have FA:=aA kL
 have FQ:=aA kM
 have FR:=aA kN
 clear xK kL kM kN
 obtain ⟨⟨a,c,rfl⟩,hm⟩:=bG h.AU
 have hmx:maxLen=9223372036854775807:=rfl
 have HH:=aA h
 clear h
 go_enter Tryz.func55,Tryz.ntmps55
 go_wp2
 go_loopw [3,4] (fun o i w'=>∃ q:Nat,q≤Y.bs.length∧i = .int .i64 (q:Int)∧Below w.heap.size w w'∧w'.ownsRow w.heap.size 81 3 o (marks (ahead Y.bs q 0)).length (cU (marks (ahead Y.bs q 0)))) (fun _ i _=>Y.bs.length-(intOf i).toNat)
 case atStart=>exact ⟨0,Nat.zero_le _,rfl,Below.refl _ _,World.ownsRow_nil _ _ _ _⟩
 case round =>
  obtain ⟨q,hq,rfl,hB,hO⟩:=hrel
  have c8:wr.cell? ⟨L.b,8,none⟩=some (.slice a Y.bs.length c):=cell_later hB (HH.out.cS rfl)
  have HB:=aA hB
  have HO:=aA hO
  clear hB hO
  by_cases hlt:q<Y.bs.length
  ·have hlt':(q:Int)<(Y.bs.length:Int):=by omega
   have hq0:(0:Int)≤(q:Int):=by omega
   obtain ⟨g,c',e1,cq⟩:=HH.out.TR hlt
   injection e1 with e1 _ e2
   subst e1 e2
   obtain ⟨a2,c2,e3⟩:=(HH.out.KU q hlt).form
   rw [e3] at cq
   have hm2:(Y.bs[q]).length≤maxLen:=(bG (HH.out.KU q hlt)).2
   have HCQ:=aA (And.intro (show w.cell? ⟨L.b,8,none⟩=_ from HH.out.cS rfl) cq)
   clear cq
   go_wp2
   go_loopw [3,5] (fun o j w'=>∃ r:Nat,r≤(Y.bs[q]).length∧j = .int .i64 (r:Int)∧Below w.heap.size w w'∧w'.ownsRow w.heap.size 81 3 o (marks (ahead Y.bs q r)).length (cU (marks (ahead Y.bs q r)))) (fun _ j _=>(Y.bs[q]).length-(intOf j).toNat)
   case atStart=>exact ⟨0,Nat.zero_le _,rfl,HB.out,HO.out⟩
   case round =>
    rename_i w9
    obtain ⟨r,hr,rfl,OA,zY⟩:=hrel
    clear HB HO
    have d8:=cell_later OA HCQ.out.1
    have dq:=cell_later OA HCQ.out.2
    by_cases OX:r<(Y.bs[q]).length
    ·have KX:(r:Int)<((Y.bs[q]).length:Int):=by omega
     have uX:(0:Int)≤(r:Int):=by omega
     obtain ⟨g2,c3,e4,cr⟩:=(HH.out.KU q hlt).at OX
     rw [e3] at e4
     injection e4 with e4 _ e5
     subst e4 e5
     have dr:=cell_later OA cr
     have HL:=aA (PK Y.bs q r)
     have HSU:=aA (LC Y.bs q r hlt OX)
     generalize hl:ahead Y.bs q r=l at *
     generalize AW:(Y.bs[q])[r]=tt at *
     have HLM:=aA (show (marks l).length≤1000000000000 by rw [M.iJ];exact Nat.le_trans HL.out hA)
     obtain ⟨⟨oa,oc,rfl⟩,-⟩:=bG zY
     have hlm:=HLM.out
     have mD:=aA OA
     have JY:=aA zY
     have zS:=OA.size
     clear OA zY
     go_wp2
     go_loop [7,8] (fun s j=>∃ u:Nat,u≤(marks l).length∧j = .int .i64 (u:Int)∧s = .int .i64 ((((l.take u).map Prod.snd).count tt:Nat):Int)) (fun _ j=>(marks l).length-(intOf j).toNat)
     case atStart=>exact ⟨0,Nat.zero_le _,rfl,rfl⟩
     case round =>
      obtain ⟨u,hu,rfl,rfl⟩:=hrel
      have hcb:((l.take u).map Prod.snd).count tt≤u:=Nat.le_trans List.count_le_length (by simp;omega)
      by_cases AX:u<(marks l).length
      ·have aBe:(u:Int)<((marks l).length:Int):=by omega
       have hu0:(0:Int)≤(u:Int):=by omega
       have hul:u<l.length:=by rw [M.iJ] at AX;exact AX
       obtain ⟨og,oc',eo,co⟩:=dS JY.out (cZ (marks l) u AX).2.1
       injection eo with eo1 _ eo2
       subst eo1 eo2
       have e9:((marks l)[u]).t=(l[u]).2:=by simp [marks]
       rw [e9] at co
       have hs:=PL l u hul tt
       clear e9
       generalize (l[u]).2=lu at *
       by_cases hk:lu=tt
       ·have hk':((lu:Int) == (tt:Int))=true:=by simp [hk]
        have HV:=aA (show ((l.take (u+1)).map Prod.snd).count tt=((l.take u).map Prod.snd).count tt+1 by rw [hs,if_pos hk])
        clear hs hk
        generalize ((l.take u).map Prod.snd).count tt=A at *
        go_wp2
        go_round
        case rel=>exact ⟨u+1,by omega,by go_num,by rw [HV.out];go_num⟩
        case measure=>simp [intOf];omega
       ·have hk':((lu:Int) == (tt:Int))=false:=by simp;omega
        have HV:=aA (show ((l.take (u+1)).map Prod.snd).count tt=((l.take u).map Prod.snd).count tt by rw [hs,if_neg hk];rfl)
        clear hs hk
        generalize ((l.take u).map Prod.snd).count tt=A at *
        go_wp2
        go_round
        case rel=>exact ⟨u+1,by omega,by go_num,by rw [HV.out]⟩
        case measure=>simp [intOf];omega
      ·have aBe:¬(u:Int)<((marks l).length:Int):=by omega
       have HV:=aA (show ((l.take u).map Prod.snd).count tt=(l.map Prod.snd).count tt by rw [List.take_of_length_le (by rw [M.iJ] at AX;omega)])
       have HMS:=aA (M.rC l (q+1) tt)
       rw [HV.out] at hcb ⊢
       clear HV
       generalize (l.map Prod.snd).count tt=A at *
       go_wp2_with (at_builtin;refine bH _ rfl (.tmp 55) (.tmp 61) 43 rfl w.heap.size 81 mi (.agg #[.int .i64 0,.int .i64 0,.int .i64 0]) 3 24 Tryz.underlying43 KC.out FA.out FQ.out FR.out rfl (by decide) _ (marks l).length _ rfl (JY.out.alloc _) ⟨_,0,none⟩ 1 1 [.int .i64 ((q:Int)+1),.int .i64 (tt:Int),.int .i64 (A:Int)] rfl rfl (World.news_of_block (Row.new _ _ _)) (by simp [Value.oneCell']) (by decide) (by unfold maxLen;omega) (by omega) (by simp;omega) ?_)
       intro g3 c3 w3 hown cG oW pZ
       have cH:Below w.heap.size w w3:=(Below.next mD.out (aB _ _) zS).grown cG (by simp;omega) (fun q hq=>(JY.out.lt q hq).1)
       have HR:=aA (And.intro cH hown)
       clear hown cG oW pZ cH
       go_wp2
       go_roundw
       case rel =>
        refine ⟨r+1,by omega,by go_num,HR.out.1,?_⟩
        rw [HSU.out,HMS.out,lU,List.length_append,List.length_singleton]
        have:=HR.out.2
        simpa [cU] using this
       case measure=>simp [intOf];omega
    ·have KX:¬(r:Int)<((Y.bs[q]).length:Int):=by omega
     have HE:=aA (show wr.ownsRow w.heap.size 81 3 _ (marks (ahead Y.bs (q+1) 0)).length (cU (marks (ahead Y.bs (q+1) 0))) by rw [←PI Y.bs q r hlt (by omega)];exact zY)
     have mD:=aA OA
     clear OA zY
     go_wp2
     go_roundw
     case rel=>exact ⟨q+1,by omega,by go_num,mD.out,HE.out⟩
     case measure=>simp [intOf];omega
  ·have hlt':¬(q:Int)<(Y.bs.length:Int):=by omega
   have hqe:q=Y.bs.length:=by omega
   have HE:=aA (show wr.ownsRow w.heap.size 81 3 _ Y.order.length (cU Y.order) by have:=HO.out;rw [hqe,PJ] at this;exact this)
   clear HO hqe
   go_wp2
   go_ret
   exact ⟨_,rfl,HE.out,HB.out⟩
end
end Go.Proofs.YtefjhnhdagolhaaGreat
namespace Go.Proofs.YtefjhnhdagolhaaGreat
open Go.RowKit
open M (aI aC aD aR aT cnt marks tagged num)
attribute [local go_sem ↓] Go.wp_at_zero Go.wp_at_succ
def vM (L:DL) (vh:Value):List Value:=[.int .i64 L.kind,.int .i64 L.st,.int .i64 L.co,L.vn,L.vo,vh]
structure VX {σ:Type} (L:DL) (P:M.Plain σ) (tell:σ→List Int) (sz:σ→Nat) (HM:World→Value→σ→Prop) (Au:Nat→World→Prop):Prop where
 stay:∀ w w' v s,HM w v s→(∀ k,v.ownBlock=some k→w'.heap[k]?=w.heap[k]?)→HM w' v s
 lt:∀ w v s,HM w v s→∀ k,v.ownBlock=some k→k<w.heap.size
 form:∀ w v s,HM w v s→∃ a l c,v = .slice a l c
 au:∀ B w w',Au B w→(∀ k,k<B→w'.heap[k]?=w.heap[k]?)→Au B w'
 sz0:sz P.first≤2
 vU:∀ s op,sz (P.apply s op).1≤sz s+2
 first:∀ w,Calls Tryz.prog 113 #[.agg (VM L.kind L.n L.cap L.st L.co L.vn L.vo).toArray] w fun e w'=>∃ vh,e = .returned (.agg (vM L vh).toArray)∧HM w' vh P.first∧(∀ k,vh.ownBlock=some k→w.heap.size≤k)∧Below w.heap.size w w'
 does:∀ B w b vh s (op:M.Op),Au B w→B≤b→Row w b 159 (vM L vh)→HM w vh s→(∀ k,vh.ownBlock=some k→B≤k∧k≠b)→sz s≤1000000000000 →
  Calls Tryz.prog 114 #[.pointer (some ⟨b,0,none⟩),.agg #[.int .i64 op.c,.int .i64 op.a,.int .i64 op.b]] w fun e w'=>e = .returned (.agg #[.int .i64 (P.apply s op).2.s,.int .i64 (P.apply s op).2.v]) ∧
   ∃ jT,Row w' b 159 (vM L jT)∧HM w' jT (P.apply s op).1∧(∀ k,jT.ownBlock=some k→k≠b∧(vh.ownBlock=some k∨w.heap.size≤k))∧Fr (fun k=>k=b∨vh.ownBlock=some k) w w'
 tells:∀ w b vh s,Row w b 159 (vM L vh)→HM w vh s→sz s≤1000000000000 →
  Calls Tryz.prog 89 #[.pointer (some ⟨b,0,none⟩)] w fun e w'=>∃ v,e = .returned v∧w'.ownsRow w.heap.size 3 1 v (tell s).length (ints (tell s))∧Below w.heap.size w w'
def XL (L:DL) (B:Nat) (w:World):Prop :=
 L.kind=5→∃ g1 g2,L.vn = .slice (some ⟨g1,0,none⟩) L.nx.length L.nx.length∧L.vo = .slice (some ⟨g2,0,none⟩) L.ou.length L.ou.length∧Row w g1 3 (ints L.nx)∧Row w g2 3 (ints L.ou)∧g1<B∧g2<B
theorem XL.au {L:DL} (B:Nat) (w w':World) (h:XL L B w) (hk:∀ k,k<B→w'.heap[k]?=w.heap[k]?):XL L B w':=fun q =>
 let ⟨g1,g2,h1,h2,h3,h4,h5,h6⟩:=h q
 ⟨g1,g2,h1,h2,h3.of_block (hk _ h5),h4.of_block (hk _ h6),h5,h6⟩
section
variable (st co s a b2:Int) (s1 s2:Value) (b g c:Nat) (w:World)
end
end Go.Proofs.YtefjhnhdagolhaaGreat
namespace Go.Proofs.YtefjhnhdagolhaaGreat
open Go.RowKit
open M (aI aC aD aR aT cnt marks tagged num)
attribute [local go_sem ↓] Go.wp_at_zero Go.wp_at_succ
theorem gA (Y:aR):Y.order.length=Y.bs.flatten.length:=by
 unfold M.aR.order
 rw [M.iJ]
 have:=congrArg List.length Y.MV
 simpa using this
theorem PM (Y:aR) (u:Nat) (hu:u<Y.order.length) (hf:u<Y.bs.flatten.length):(Y.order[u]).t=Y.bs.flatten[u]∧(Y.order[u]).s=(Y.bs.flatten.take u).count Y.bs.flatten[u]:=by
 have ha:=Y.MV
 have hl:u<Y.all.length:=by have:=congrArg List.length ha;rw [List.length_map] at this;omega
 have e1:(Y.all[u]).2=Y.bs.flatten[u]:=by
  have:(Y.all.map Prod.snd)[u]'(by simpa using hl)=Y.bs.flatten[u]:=by simp only [ha]
  simpa using this
 have e2:(Y.all.take u).map Prod.snd=Y.bs.flatten.take u:=by rw [List.map_take,ha]
 have e3:Y.order[u]=⟨(Y.all[u]).1,(Y.all[u]).2,((Y.all.take u).map Prod.snd).count (Y.all[u]).2⟩:=by
  have:Y.order[u]?=some ⟨(Y.all[u]).1,(Y.all[u]).2,((Y.all.take u).map Prod.snd).count (Y.all[u]).2⟩:=by
   unfold M.aR.order marks
   rw [List.getElem?_mapIdx,List.getElem?_eq_getElem hl]
   rfl
  rw [List.getElem?_eq_getElem hu] at this
  injection this
 rw [e3]
 dsimp only
 rw [e2,e1]
 exact ⟨rfl,rfl⟩
section
variable {σ:Type}
def eK (P:M.Plain σ) (Y:aR) (u:Nat):M.Rp σ:=(M.Rp.new P).run P (fun k i=>((Y.th k).ops).getD i ⟨0,0,0⟩) (Y.bs.flatten.take u)
theorem AY (P:M.Plain σ) (Y:aR) (u:Nat) (hu:u<Y.bs.flatten.length):eK P Y (u+1)=(eK P Y u).next P (fun k i=>((Y.th k).ops).getD i ⟨0,0,0⟩) Y.bs.flatten[u]:=by
 unfold eK
 rw [List.take_succ_eq_append_getElem hu,M.wB]
theorem aBf (P:M.Plain σ) (Y:aR) (u k:Nat):(eK P Y u).c k=(Y.bs.flatten.take u).count k:=by
 unfold eK
 rw [M.FC]
 simp [M.Rp.new]
theorem tB (P:M.Plain σ) (Y:aR):eK P Y Y.bs.flatten.length=M.replay P (fun k i=>((Y.th k).ops).getD i ⟨0,0,0⟩) Y.bs:=by
 unfold eK M.replay
 rw [List.take_length]
end
structure rR {σ:Type} (L:DL) (HM:World→Value→σ→Prop) (Y:aR) (w:World) (b8:Nat) (vl:Value) (s:σ) (vh:Value) (an:M.MD) (w':World):Prop where
 below:Below w.heap.size w w'
 pl:Row w' b8 159 (vM L vh)
 hm:HM w' vh s
 zG:∀ k,vh.ownBlock=some k→w.heap.size+2≤k∧k≠b8∧k≠b8+1∧vl.ownBlock≠some k
 UB:w.heap.size+2≤b8
 ar:Row w' (b8+1) 94 [.int .i64 an.s,.int .i64 an.v]
 r6:Row w' w.heap.size 159 [.int .i64 0,.int .i64 0,.int .i64 0,.slice none 0 0,.slice none 0 0,.slice none 0 0]
 r7:Row w' (w.heap.size+1) 94 [.int .i64 0,.int .i64 0]
 ml:w'.ownsRow (b8+2) 81 3 vl Y.order.length (cU Y.order)
section
variable {σ:Type} {L:DL} {P:M.Plain σ} {tell:σ→List Int} {sz:σ→Nat} {HM:World→Value→σ→Prop} {Au:Nat→World→Prop} {Y:aR} {w w1 w2:World} {b8:Nat} {vl vh:Value} {s:σ} {an:M.MD}
def rR.K (w:World) (b8:Nat) (vl vh:Value) (k:Nat):Prop:=k<w.heap.size+2∨k=b8∨k=b8+1∨vh.ownBlock=some k∨vl.ownBlock=some k
theorem rR.stay (hD:VX L P tell sz HM Au) (h:rR L HM Y w b8 vl s vh an w1) (hk:∀ k,rR.K w b8 vl vh k→w2.heap[k]?=w1.heap[k]?) (ho:w2.os=w1.os∧w2.tape=w1.tape∧w2.output=w1.output) (hz:w1.heap.size≤w2.heap.size):rR L HM Y w b8 vl s vh an w2 where
 below:=⟨ho.1.trans h.below.os,ho.2.1.trans h.below.tape,ho.2.2.trans h.below.output,Nat.le_trans h.below.size hz,fun k hkk=>(hk k (.inl (by omega))).trans (h.below.block k hkk)⟩
 pl:=h.pl.of_block (hk _ (.inr (.inl rfl)))
 hm:=hD.stay _ _ _ _ h.hm fun k e=>hk k (.inr (.inr (.inr (.inl e))))
 zG:=h.zG
 UB:=h.UB
 ar:=h.ar.of_block (hk _ (.inr (.inr (.inl rfl))))
 r6:=h.r6.of_block (hk _ (.inl (by omega)))
 r7:=h.r7.of_block (hk _ (.inl (by omega)))
 ml:=bJ h.ml fun k e=>hk k (.inr (.inr (.inr (.inr e))))
theorem rR.lt (hD:VX L P tell sz HM Au) (h:rR L HM Y w b8 vl s vh an w1):∀ k,rR.K w b8 vl vh k→k<w1.heap.size:=fun k hk=>by
 have h7:=h.r7.lt
 rcases hk with q|q|q|q|q
 ·omega
 ·rw [q];exact h.pl.lt
 ·rw [q];exact h.ar.lt
 ·exact hD.lt _ _ _ h.hm k q
 ·exact (h.ml.lt k q).2
theorem rR.later (hD:VX L P tell sz HM Au) (h:rR L HM Y w b8 vl s vh an w1) (hb:Below w1.heap.size w1 w2):rR L HM Y w b8 vl s vh an w2 :=
 h.stay hD (fun k hk=>hb.block k (h.lt hD k hk)) ⟨hb.os,hb.tape,hb.output⟩ hb.size
theorem rR.does (h:rR L HM Y w b8 vl s vh an w1) {s':σ} {jT:Value} (hr:Row w2 b8 159 (vM L jT)) (hm:HM w2 jT s') (hv:∀ k,jT.ownBlock=some k→k≠b8∧(vh.ownBlock=some k∨w1.heap.size≤k)) (hf:Fr (fun k=>k=b8∨vh.ownBlock=some k) w1 w2):rR L HM Y w b8 vl s' jT an w2:=by
 have old:∀ k,k<w1.heap.size→k≠b8→vh.ownBlock≠some k→w2.heap[k]?=w1.heap[k]?:=fun k hk h1 h2=>hf.block k hk fun c=>by rcases c with c|c;exact h1 c;exact h2 c
 have h8:=h.UB
 have hz:=h.below.size
 have h7:=h.r7.lt
 have hml:=h.ml.lt
 exact {
  below:=⟨hf.os.trans h.below.os,hf.tape.trans h.below.tape,hf.output.trans h.below.output,Nat.le_trans hz hf.size,fun k hk=>(old k (by omega) (by omega) (fun e=>by have:=h.zG k e;omega)).trans (h.below.block k hk)⟩
  pl:=hr
  hm:=hm
  zG:=fun k e=>by
   obtain ⟨q1,q2⟩:=hv k e
   rcases q2 with q2|q2
   ·exact h.zG k q2
   ·have h9:=h.ar.lt
    exact ⟨by omega,q1,by omega,fun c=>by have:=(hml k c).2;omega⟩
  UB:=h.UB
  ar:=h.ar.of_block (old _ h.ar.lt (by omega) (fun e=>(h.zG _ e).2.2.1 rfl))
  r6:=h.r6.of_block (old _ h.r6.lt (by omega) (fun e=>by have:=(h.zG _ e).1;omega))
  r7:=h.r7.of_block (old _ h.r7.lt (by omega) (fun e=>by have:=(h.zG _ e).1;omega))
  ml:=bJ h.ml fun k e=>old k (hml k e).2 (fun c=>by have:=(hml k e).1;omega) (fun c=>(h.zG k c).2.2.2 e)}
theorem rR.write (hD:VX L P tell sz HM Au) (h:rR L HM Y w b8 vl s vh an w1) (an':M.MD):rR L HM Y w b8 vl s vh an' (w1.setCells (b8+1) 0 [.int .i64 an'.s,.int .i64 an'.v]):=by
 have old:∀ k,k≠b8+1→(w1.setCells (b8+1) 0 [.int .i64 an'.s,.int .i64 an'.v]).heap[k]?=w1.heap[k]?:=fun k hk=>by
  simp only [World.setCells]
  rw [Below.heap_setCell _ _ _ k hk,Below.heap_setCell _ _ _ k hk]
 have h8:=h.UB
 exact {
  below:=bA (by omega) _ _ _ h.below
  pl:=h.pl.of_block (old _ (by omega))
  hm:=hD.stay _ _ _ _ h.hm fun k e=>old k (fun c=>(h.zG k e).2.2.1 c)
  zG:=h.zG
  UB:=h.UB
  ar:=by simp only [World.setCells];exact (h.ar.set 0 _).set 1 _
  r6:=h.r6.of_block (old _ (by omega))
  r7:=h.r7.of_block (old _ (by omega))
  ml:=bJ h.ml fun k e=>old k (by have:=(h.ml.lt k e).1;omega)}
end
end Go.Proofs.YtefjhnhdagolhaaGreat
