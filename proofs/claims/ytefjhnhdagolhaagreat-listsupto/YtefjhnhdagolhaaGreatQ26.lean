import Derived.Test.YtefjhnhdagolhaaGreatQ25
import Derived.Test.YtefjhnhdagolhaaGreatQ19
import Derived.Test.YtefjhnhdagolhaaGreatQ12
namespace Go.Proofs.YtefjhnhdagolhaaGreat
open Go.RowKit
open M (aI aC aD aR aT cnt)
attribute [local go_sem ↓] Go.wp_at_zero Go.wp_at_succ
section
variable {L:DL} {S:Nat→Prop} {Y:aR} {w:World} {bC:Nat→Nat} {vo vp:Nat→Value} {vb:Value} {bv:Nat→Value} {t:Nat}
def dQ (Y:aR) (x:aT) (k:Nat):List Nat:=(List.range k).filter fun i=>decide ((x.flipped i+cnt Y.bs i) % 2=1)
theorem GD (Y:aR) (x:aT) (k:Nat):dQ Y x (k+1)=dQ Y x k++if (x.flipped k+cnt Y.bs k) % 2=1 then [k] else []:=by
 unfold dQ
 rw [List.range_succ,List.filter_append]
 congr 1
 by_cases h:(x.flipped k+cnt Y.bs k) % 2=1<;>simp [h]
theorem KY (Y:aR) (x:aT) (k:Nat):(dQ Y x k).length≤k:=by
 unfold dQ
 exact Nat.le_trans (List.length_filter_le _ _) (by simp)
theorem OY (Y:aR) (x:aT) (k:Nat):∀ i∈dQ Y x k,i<k:=by
 intro i hi
 unfold dQ at hi
 exact List.mem_range.1 (List.mem_filter.1 hi).1
structure XJ (L:DL) (t:Nat) (x:aT) (vo:Nat→Value) (w w':World) (l:List Nat) (v:Value):Prop where
 row:Row w' (L.bT t) 109 (vT x (L.bF t) L.n (vo t) v)
 own:w'.ownsRow w.heap.size 3 1 v l.length (ints (l.map Int.ofNat))
 fr:Fr (fun k=>k=L.bT t) w w'
def xV (bC:Nat→Nat) (w:World) (c:Nat):Nat→Nat:=fun k=>if w.heap.size≤k then c else bC k
theorem kS {c:Nat} {k:Nat} (h:k<w.heap.size):xV bC w c k=bC k:=by unfold xV;rw [if_neg (by omega)]
theorem xW {c:Nat} {k:Nat} (h:w.heap.size≤k):xV bC w c k=c:=by unfold xV;rw [if_pos h]
theorem XJ.dr {x':aT} {w':World} {l:List Nat} {v:Value} (q:XJ L t x' vo w w' l v) (h:DR L S Y w bC vo vp vb bv) (ht:t<L.n) (h1:x'.ops=(Y.th t).ops) (h2:x'.flipped=(Y.th t).flipped):DR L (Grow S w w') (Y.set t {x' with aK:=l}) w' (xV bC w 3) vo (aI vp t v) vb bv:=by
 have hq:=h.zE t ht
 have hne:∀ k,S k→bC k≠4*t+4→w'.heap[k]?=w.heap[k]?:=fun k hS hl=>q.fr.block k (h.lt k hS) fun e=>hl (by rw [show k=L.bT t from e,hq.2])
 have hS:∀ k,S k→Grow S w w' k∧xV bC w 3 k=bC k:=fun k hS=>⟨.inl hS,kS (h.lt k hS)⟩
 have hlt:=q.own.lt
 have:=DR.move (w':=w') (S':=Grow S w w') (nH:=xV bC w 3) (bv':=bv) (bs':=Y.bs) (x':={x' with aK:=l}) (CI:=vo t) (vp':=v) h ht (fun k hS _ _ h4 _ _=>hne k hS h4) hS
  (fun k hk=>by
   rcases hk with hk|hk
   ·exact Nat.lt_of_lt_of_le (h.lt k hk) q.fr.size
   ·exact hk.2) (h.obj.of_block (hne _ h.zD.1 (by rw [h.zD.2];omega))) q.row
  (by rw [show ({x' with aK:=l}:aT).flipped=(Y.th t).flipped from h2];exact (h.fl t ht).of_block (hne _ (h.zF t ht).1 (by rw [(h.zF t ht).2];omega)))
  (by rw [show ({x' with aK:=l}:aT).ops=(Y.th t).ops from h1];exact bJ (h.ops t ht) fun k e=>hne k (h.pK t ht k e).1 (by rw [(h.pK t ht k e).2];omega)) (fun k e=>⟨(hS k (h.pK t ht k e).1).1,(hS k (h.pK t ht k e).1).2.trans (h.pK t ht k e).2⟩)
  (bJ h.AU fun k e=>hne k (h.qA k e).1 (by rw [(h.qA k e).2];omega)) (fun k e=>⟨(hS k (h.qA k e).1).1,(hS k (h.qA k e).1).2.trans (h.qA k e).2⟩)
  (fun i hi=>(h.KU i hi).of_block fun k e=>hne k (h.rZ i hi k e).1 (by rw [(h.rZ i hi k e).2];omega)) (fun i hi k e=>⟨(hS k (h.rZ i hi k e).1).1,(hS k (h.rZ i hi k e).1).2.trans (h.rZ i hi k e).2⟩)
  (dV q.own (Nat.zero_le _)) (fun k e=>⟨.inr (hlt k e),xW (hlt k e).1⟩)
 rw [uB vo t _ rfl] at this
 exact this
theorem TS (a b:Nat):(((a:Int)-(b:Int)).tmod 2=0)↔¬(a+b) % 2=1:=by
 rw [Int.tmod_eq_emod]
 split<;>omega
set_option maxRecDepth 20000 in
set_option maxHeartbeats 4000000 in
theorem TT (h:DR L S Y w bC vo vp vb bv) (ht:t<L.n) (hc:∀ k,k<L.n→cnt Y.bs k≤1000000000∧(Y.th t).flipped k≤1000000000) :
  Calls Tryz.prog 111 #[.pointer (some ⟨L.b,0,none⟩),.int .i64 (t:Int)] w fun e w'=>e = .returned (.bool (decide (t∈Y.pending L.n (Y.th t))))∧∃ v,XJ L t (Y.th t) vo w w' (Y.pending L.n (Y.th t)) v:=by
 obtain ⟨mi,xK,xL⟩:=Option.map_eq_some_iff.1 vS
 simp only [Prod.mk.injEq] at xL
 obtain ⟨kL,kM,kN⟩:=xL
 have KC:=aA xK
 have FA:=aA kL
 have FQ:=aA kM
 have FR:=aA kN
 have hn:=h.n64
 have c7:w.cell? ⟨L.b,7,none⟩=some (.slice (some ⟨L.g,0,none⟩) L.n L.gc):=h.cS rfl
 have cp:=h.ptr t ht
 have fG:(0:Int)≤(t:Int):=by omega
 have dD:(t:Int)<(L.n:Int):=by omega
 have c9:w.cell? ⟨L.bT t,9,none⟩=some (vp t):=h.cR ht rfl
 have f9:=(h.th t ht).frozen 9
 have hne:=h.ne ht
 have HT:=aA (h.th t ht)
 have HH:=aA h
 clear h xK kL kM kN
 go_enter Tryz.func111,Tryz.ntmps111
 go_wp2
 go_loopw [6,7] (fun o i w'=>∃ k:Nat,k≤L.n∧i = .int .i64 (k:Int)∧o = .bool (decide (t∈dQ Y (Y.th t) k))∧∃ v,XJ L t (Y.th t) vo w w' (dQ Y (Y.th t) k) v) (fun _ i _=>L.n-(intOf i).toNat)
 case atStart =>
  refine ⟨0,Nat.zero_le _,rfl,rfl,.slice none 0 0,?_,World.ownsRow_nil _ _ _ _,Fr.set (own:=fun k=>k=L.bT t) w (a:=⟨L.bT t,9,none⟩) rfl _⟩
  exact HT.out.set 9 _
 case round =>
  obtain ⟨k,hk,rfl,rfl,v,hI⟩:=hrel
  have q:=hI.dr HH.out ht rfl rfl
  have d7:wr.cell? ⟨L.b,7,none⟩=some (.slice (some ⟨L.g,0,none⟩) L.n L.gc):=q.cS rfl
  by_cases hlt:k<L.n
  ·have hlt':(k:Int)<(L.n:Int):=by omega
   have EW:(0:Int)≤(k:Int):=by omega
   obtain ⟨b1,b2⟩:=hc k hlt
   have HA:=aA (show Calls Tryz.prog 141 #[.pointer (some ⟨L.b,0,none⟩),.int .i64 (k:Int)] wr fun e w'=>e = .returned (.int .i64 (cnt Y.bs k:Int))∧w'=wr from KW q k b1)
   have d8:wr.cell? ⟨L.bT t,8,none⟩=some (.slice (some ⟨L.bF t,0,none⟩) L.n L.n):=q.cR ht (j:=8) rfl
   have d9:wr.cell? ⟨L.bT t,9,none⟩=some v:=hI.row.cell_of rfl
   have dF:wr.cell? ⟨L.bF t,k,none⟩=some (.int .i64 ((Y.th t).flipped k:Int)):=by have:=(q.fl t ht).cell hlt;rw [bD] at this;exact this
   have HP:=aA (TS ((Y.th t).flipped k) (cnt Y.bs k))
   have HS:=aA (GD Y (Y.th t) k)
   have HN:=aA (KY Y (Y.th t) k)
   have TU:=aA (fun i hi=>OY Y (Y.th t) k i hi)
   have HI:=aA hI
   have htl:L.bT t<w.heap.size:=HT.out.lt
   have OZ:w.heap.size≤wr.heap.size:=hI.fr.size
   clear q hI
   generalize hfl:(Y.th t).flipped k=fk at *
   generalize IK:cnt Y.bs k=cn at *
   by_cases PA:(fk+cn) % 2=1
   ·have hm:¬((fk:Int)-(cn:Int)).tmod 2=0:=fun c=>(HP.out.mp c) PA
    have NB:=aA (show dQ Y (Y.th t) (k+1)=dQ Y (Y.th t) k++[k] by rw [HS.out,if_pos PA])
    clear PA
    go_wp2_with fail
    refine HA.out.mono ?_
    rintro e w1 ⟨rfl,rfl⟩
    have HL:=aA TU
    clear HA HP HS
    go_wp2_with (at_builtin;refine bH _ rfl (.tmp 46) (.tmp 48) 22 rfl w.heap.size 3 mi (.int .i64 0) 1 8 Tryz.underlying22 KC.out FA.out FQ.out FR.out rfl (by decide) v (dQ Y (Y.th t) k).length _ rfl (HI.out.own.alloc _) ⟨w1.heap.size,0,none⟩ 1 1 [.int .i64 (k:Int)] rfl rfl (World.news_of_block (Row.new _ _ _)) (by simp [Value.oneCell']) (by decide) (by have:=HN.out;unfold maxLen;omega) (by have:=HN.out;omega) (by simp;omega) ?_)
    intro g3 c3 w3 hown cG oW pZ
    have hvl:=HI.out.own.lt
    have vL:some (L.bT t)≠v.ownBlock:=fun e=>by have:=(hvl _ e.symm).1;omega
    have hR:Row w3 (L.bT t) 109 (vT (Y.th t) (L.bF t) L.n (vo t) v):=(HI.out.row.alloc _).of_block (cG.block _ (by simp;omega) vL)
    have e9:w3.cell? ⟨L.bT t,9,none⟩=some v:=hR.cell_of rfl
    have g9:=hR.frozen 9
    have HX:=aA (show XJ L t (Y.th t) vo w (w3.setCell ⟨L.bT t,9,none⟩ (.slice (some ⟨g3,0,none⟩) ((dQ Y (Y.th t) k).length+1) c3)) (dQ Y (Y.th t) (k+1)) (.slice (some ⟨g3,0,none⟩) ((dQ Y (Y.th t) k).length+1) c3) from by
     refine ⟨hR.set 9 _,?_,?_⟩
     ·rw [NB.out]
      have h9:w.heap.size≤g3:=(hown.lt g3 rfl).1
      have:=ownsRow_setCell_other hown (a:=⟨L.bT t,9,none⟩) (by simp [Value.ownBlock];omega) (.slice (some ⟨g3,0,none⟩) ((dQ Y (Y.th t) k).length+1) c3)
      simpa [ints] using this
     ·refine Fr.here (own:=fun k=>k=L.bT t) ?_ rfl _ _
      refine ⟨cG.os.trans HI.out.fr.os,cG.tape.trans HI.out.fr.tape,cG.output.trans HI.out.fr.output,Nat.le_trans HI.out.fr.size (Nat.le_trans (by simp) cG.size),fun b hb ho=>?_⟩
      rw [cG.block b (by simp;omega) (fun e=>by have:=(hvl _ e.symm).1;omega),(aB w1 _).block b (by omega)]
      exact HI.out.fr.block b hb ho)
    clear hown cG oW pZ hvl vL hR
    by_cases hmem:t∈dQ Y (Y.th t) k
    ·have GF:t∈dQ Y (Y.th t) (k+1):=by rw [NB.out];exact List.mem_append_left _ hmem
     have ZB:decide (t∈dQ Y (Y.th t) (k+1))=true:=decide_eq_true GF
     rw [show decide (t∈dQ Y (Y.th t) k)=true from decide_eq_true hmem]
     go_wp2
     go_roundw
     case rel=>exact ⟨k+1,by omega,by go_num,by rw [ZB],_,HX.out⟩
     case measure=>simp [intOf];omega
    ·rw [show decide (t∈dQ Y (Y.th t) k)=false from decide_eq_false hmem]
     by_cases BU:k=t
     ·have aBa:((k:Int) == (t:Int))=true:=by simp [BU]
      have GF:t∈dQ Y (Y.th t) (k+1):=by rw [NB.out,BU];exact List.mem_append_right _ (List.mem_singleton.2 rfl)
      have ZB:decide (t∈dQ Y (Y.th t) (k+1))=true:=decide_eq_true GF
      clear BU
      go_wp2
      go_roundw
      case rel=>exact ⟨k+1,by omega,by go_num,by rw [ZB];try rw [aBa],_,HX.out⟩
      case measure=>simp [intOf];omega
     ·have aBa:((k:Int) == (t:Int))=false:=by simp;omega
      have GF:¬t∈dQ Y (Y.th t) (k+1):=by rw [NB.out];intro c;rcases List.mem_append.1 c with c|c;exact hmem c;exact BU (List.mem_singleton.1 c).symm
      have ZB:decide (t∈dQ Y (Y.th t) (k+1))=false:=decide_eq_false GF
      clear BU
      go_wp2
      go_roundw
      case rel=>exact ⟨k+1,by omega,by go_num,by rw [ZB];try rw [aBa],_,HX.out⟩
      case measure=>simp [intOf];omega
   ·have hm:((fk:Int)-(cn:Int)).tmod 2=0:=HP.out.mpr PA
    have NB:=aA (show dQ Y (Y.th t) (k+1)=dQ Y (Y.th t) k by rw [HS.out,if_neg PA,List.append_nil])
    clear PA
    go_wp2_with fail
    refine HA.out.mono ?_
    rintro e w1 ⟨rfl,rfl⟩
    clear HA HP HS
    go_wp2
    go_roundw
    case rel=>exact ⟨k+1,by omega,by go_num,by rw [NB.out],v,by rw [NB.out];exact HI.out⟩
    case measure=>simp [intOf];omega
  ·have hlt':¬(k:Int)<(L.n:Int):=by omega
   have hkn:k=L.n:=by omega
   have HX:=aA (show XJ L t (Y.th t) vo w wr (Y.pending L.n (Y.th t)) v by rw [hkn] at hI;exact hI)
   have HD:=aA (show decide (t∈dQ Y (Y.th t) k)=decide (t∈Y.pending L.n (Y.th t)) by rw [hkn];rfl)
   rw [HD.out]
   clear q hI hkn
   go_wp2
   go_ret
   exact ⟨rfl,v,HX.out⟩
end
end Go.Proofs.YtefjhnhdagolhaaGreat
namespace Go.Proofs.YtefjhnhdagolhaaGreat
open Go.RowKit
open M (aI aC aD aR aT cnt)
attribute [local go_sem ↓] Go.wp_at_zero Go.wp_at_succ
theorem cL.left {L:DL} {S:Nat→Prop} {Y':aR} {w w':World} {bC:Nat→Nat} {vo vp:Nat→Value} {vb:Value} {bv:Nat→Value} (h:cL L S Y' bC vo vp vb bv w w'):dL L S w Y' w':=dL.of ⟨bC,vo,vp,vb,bv,h.dr⟩ h.fr
section
variable {L:DL} {S:Nat→Prop} {Y:aR} {w:World} {bC:Nat→Nat} {vo vp:Nat→Value} {vb:Value} {bv:Nat→Value} {t:Nat}
set_option maxRecDepth 20000 in
set_option maxHeartbeats 2000000 in
theorem PB (h:DR L S Y w bC vo vp vb bv) (ht:t<L.n) (hp:(Y.th t).part=2) (hf:(Y.th t).aL≤1000000000) :
  Calls Tryz.prog 87 #[.pointer (some ⟨L.b,0,none⟩),.int .i64 (t:Int)] w fun e w'=>e = .returned (.int .i64 1)∧dL L S w (Y.set t (aT.enter L.n {Y.th t with aL:=(Y.th t).aL+1,tries:=1} 3)) w':=by
 obtain ⟨⟨a,c,rfl⟩,hm⟩:=bG h.AU
 have hmx:maxLen=9223372036854775807:=rfl
 have c7:w.cell? ⟨L.b,7,none⟩=some (.slice (some ⟨L.g,0,none⟩) L.n L.gc):=h.cS rfl
 have c8:w.cell? ⟨L.b,8,none⟩=some (.slice a Y.bs.length c):=h.cS rfl
 have cp:=h.ptr t ht
 have fG:(0:Int)≤(t:Int):=by omega
 have dD:(t:Int)<(L.n:Int):=by omega
 have t3:w.cell? ⟨L.bT t,3,none⟩=some (.int .i64 ((Y.th t).part:Int)):=h.cR ht rfl
 have t7:w.cell? ⟨L.bT t,7,none⟩=some (.int .i64 ((Y.th t).stamp:Int)):=h.cR ht rfl
 rw [hp] at t3
 have t2:w.cell? ⟨L.bT t,2,none⟩=some (.int .i64 ((Y.th t).aL:Int)):=h.cR ht rfl
 have t6:w.cell? ⟨L.bT t,6,none⟩=some (.int .i64 ((Y.th t).tries:Int)):=h.cR ht rfl
 have f2:=(h.th t ht).frozen 2
 have f6:=(h.th t ht).frozen 6
 have HP:=aA (fun k=>(show cL L S (Y.set t {Y.th t with aL:=(Y.th t).aL+1,tries:=1}) bC vo vp _ bv w (((w.drewN k).setCell ⟨L.bT t,2,none⟩ (.int .i64 (((Y.th t).aL+1:Nat):Int))).setCell ⟨L.bT t,6,none⟩ (.int .i64 ((1:Nat):Int))) from by
  have q1:=(h.drewN k).put ht 2 (.int .i64 (((Y.th t).aL+1:Nat):Int)) (x':={Y.th t with aL:=(Y.th t).aL+1}) rfl rfl rfl rfl
  have q2:=q1.dr.put ht 6 (.int .i64 ((1:Nat):Int)) (x':={Y.th t with aL:=(Y.th t).aL+1,tries:=1}) (by rw [bD];rfl) (by rw [bD]) (by rw [bD]) (by rw [bD])
  exact (cL.refl h k).next (q1.next (q2.cast (set_set _ _ _ _)))))
 have HW:=aA (show (((Y.th t).aL+1:Nat):Int)=((Y.th t).aL:Int)+1 by push_cast;rfl)
 rw [HW.out] at HP
 clear h
 go_enter Tryz.func87,Tryz.ntmps87
 go_upto_region 2 with fail
 go_quiet (fail)
 go_wp2_with fail
 have hq:=HP.out nq
 refine (gM hq.dr ht 3 (by decide) (by decide) (fun h=>absurd h (by decide))).mono ?_
 rintro e w3 ⟨rfl,h3⟩
 have H4:=aA (hq.next (h3.cast (by rw [bD,set_set])))
 clear h3 hq
 go_wp2_with fail
 go_ret
 exact ⟨rfl,H4.out.left⟩
set_option maxRecDepth 20000 in
set_option maxHeartbeats 2000000 in
theorem PD (h:DR L S Y w bC vo vp vb bv) (ht:t<L.n) (hp:(Y.th t).part=4) :
  Calls Tryz.prog 87 #[.pointer (some ⟨L.b,0,none⟩),.int .i64 (t:Int)] w fun e w'=>e = .returned (.int .i64 1)∧dL L S w (Y.set t (aT.enter L.n {Y.th t with stamp:=Y.bs.length} 5)) w':=by
 obtain ⟨⟨a,c,rfl⟩,hm⟩:=bG h.AU
 have hmx:maxLen=9223372036854775807:=rfl
 have c7:w.cell? ⟨L.b,7,none⟩=some (.slice (some ⟨L.g,0,none⟩) L.n L.gc):=h.cS rfl
 have c8:w.cell? ⟨L.b,8,none⟩=some (.slice a Y.bs.length c):=h.cS rfl
 have cp:=h.ptr t ht
 have fG:(0:Int)≤(t:Int):=by omega
 have dD:(t:Int)<(L.n:Int):=by omega
 have t3:w.cell? ⟨L.bT t,3,none⟩=some (.int .i64 ((Y.th t).part:Int)):=h.cR ht rfl
 have t7:w.cell? ⟨L.bT t,7,none⟩=some (.int .i64 ((Y.th t).stamp:Int)):=h.cR ht rfl
 rw [hp] at t3
 have f7:=(h.th t ht).frozen 7
 have HP:=aA (fun k=>(show cL L S (Y.set t {Y.th t with stamp:=Y.bs.length}) bC vo vp _ bv w ((w.drewN k).setCell ⟨L.bT t,7,none⟩ (.int .i64 (Y.bs.length:Int))) from
  (cL.refl h k).next ((h.drewN k).put ht 7 (.int .i64 (Y.bs.length:Int)) (x':={Y.th t with stamp:=Y.bs.length}) rfl rfl rfl rfl)))
 clear h
 go_enter Tryz.func87,Tryz.ntmps87
 go_upto_region 2 with fail
 go_quiet (fail)
 go_wp2_with fail
 have hq:=HP.out nq
 refine (gM hq.dr ht 5 (by decide) (by decide) (fun h=>absurd h (by decide))).mono ?_
 rintro e w3 ⟨rfl,h3⟩
 have H4:=aA (hq.next (h3.cast (by rw [bD,set_set])))
 clear h3 hq
 go_wp2_with fail
 go_ret
 exact ⟨rfl,H4.out.left⟩
set_option maxRecDepth 20000 in
set_option maxHeartbeats 2000000 in
theorem KZ (h:DR L S Y w bC vo vp vb bv) (ht:t<L.n) (hp:(Y.th t).part=11) (hf:(Y.th t).ended≤1000000000) :
  Calls Tryz.prog 87 #[.pointer (some ⟨L.b,0,none⟩),.int .i64 (t:Int)] w fun e w'=>e = .returned (.int .i64 2)∧dL L S w (Y.set t {Y.th t with part:=0,ended:=(Y.th t).ended+1}) w':=by
 obtain ⟨⟨a,c,rfl⟩,hm⟩:=bG h.AU
 have hmx:maxLen=9223372036854775807:=rfl
 have c7:w.cell? ⟨L.b,7,none⟩=some (.slice (some ⟨L.g,0,none⟩) L.n L.gc):=h.cS rfl
 have c8:w.cell? ⟨L.b,8,none⟩=some (.slice a Y.bs.length c):=h.cS rfl
 have cp:=h.ptr t ht
 have fG:(0:Int)≤(t:Int):=by omega
 have dD:(t:Int)<(L.n:Int):=by omega
 have t3:w.cell? ⟨L.bT t,3,none⟩=some (.int .i64 ((Y.th t).part:Int)):=h.cR ht rfl
 have t7:w.cell? ⟨L.bT t,7,none⟩=some (.int .i64 ((Y.th t).stamp:Int)):=h.cR ht rfl
 rw [hp] at t3
 have t1:w.cell? ⟨L.bT t,1,none⟩=some (.int .i64 ((Y.th t).ended:Int)):=h.cR ht rfl
 have f1:=(h.th t ht).frozen 1
 have f3:=(h.th t ht).frozen 3
 have HP:=aA (fun k=>(show cL L S (Y.set t {Y.th t with part:=0,ended:=(Y.th t).ended+1}) bC vo vp _ bv w (((w.drewN k).setCell ⟨L.bT t,3,none⟩ (.int .i64 ((0:Nat):Int))).setCell ⟨L.bT t,1,none⟩ (.int .i64 (((Y.th t).ended+1:Nat):Int))) from by
  have q1:=(h.drewN k).put ht 3 (.int .i64 ((0:Nat):Int)) (x':={Y.th t with part:=0}) rfl rfl rfl rfl
  have q2:=q1.dr.put ht 1 (.int .i64 (((Y.th t).ended+1:Nat):Int)) (x':={Y.th t with part:=0,ended:=(Y.th t).ended+1}) (by rw [bD];rfl) (by rw [bD]) (by rw [bD]) (by rw [bD])
  exact (cL.refl h k).next (q1.next (q2.cast (set_set _ _ _ _)))))
 have HW:=aA (show (((Y.th t).ended+1:Nat):Int)=((Y.th t).ended:Int)+1 by push_cast;rfl)
 rw [HW.out] at HP
 clear h
 go_enter Tryz.func87,Tryz.ntmps87
 go_upto_region 2 with fail
 go_quiet (fail)
 go_wp2_with fail
 go_ret
 exact ⟨rfl,(HP.out nq).left⟩
set_option maxRecDepth 20000 in
set_option maxHeartbeats 2000000 in
theorem gQ (h:DR L S Y w bC vo vp vb bv) (ht:t<L.n) (p:Nat) (hp:(Y.th t).part=p) (hc:p=1∨p=3∨p=5∨p=6∨p=8∨p=9) (hl:p=8∨p=9→(Y.th t).aK.length≤64) :
  Calls Tryz.prog 87 #[.pointer (some ⟨L.b,0,none⟩),.int .i64 (t:Int)] w fun e w'=>e = .returned (.int .i64 1)∧dL L S w (Y.set t ((Y.th t).enter L.n (p+1))) w':=by
 obtain ⟨⟨a,c,rfl⟩,hm⟩:=bG h.AU
 have hmx:maxLen=9223372036854775807:=rfl
 have c7:w.cell? ⟨L.b,7,none⟩=some (.slice (some ⟨L.g,0,none⟩) L.n L.gc):=h.cS rfl
 have c8:w.cell? ⟨L.b,8,none⟩=some (.slice a Y.bs.length c):=h.cS rfl
 have cp:=h.ptr t ht
 have fG:(0:Int)≤(t:Int):=by omega
 have dD:(t:Int)<(L.n:Int):=by omega
 have t3:w.cell? ⟨L.bT t,3,none⟩=some (.int .i64 ((Y.th t).part:Int)):=h.cR ht rfl
 have t7:w.cell? ⟨L.bT t,7,none⟩=some (.int .i64 ((Y.th t).stamp:Int)):=h.cR ht rfl
 rw [hp] at t3
 have HP:=aA (fun k=>(h.drewN k))
 have HE:=aA (fun k=>(gM (h.drewN k) ht (p+1) (by omega) (by omega) (fun _ _=>hl (by omega))))
 have HR:=aA (fun k=>cL.refl h k)
 clear h hl
 rcases hc with rfl|rfl|rfl|rfl|rfl|rfl
 all_goals
  go_enter Tryz.func87,Tryz.ntmps87
  go_upto_region 2 with fail
  go_quiet (fail)
  go_wp2_with fail
  refine (HE.out nq).mono ?_
  rintro e w3 ⟨rfl,h3⟩
  have H4:=aA ((HR.out nq).next h3)
  clear h3
  go_wp2_with fail
  go_ret
  exact ⟨rfl,H4.out.left⟩
end
end Go.Proofs.YtefjhnhdagolhaaGreat
namespace Go.Proofs.YtefjhnhdagolhaaGreat
open Go.RowKit
open M (aI aC aD aR aT cnt)
attribute [local go_sem ↓] Go.wp_at_zero Go.wp_at_succ
theorem aDb {α:Type} (f:Nat→α) (t:Nat) (a b:α):aI (aI f t a) t b=aI f t b:=by funext k;unfold aI;split<;>rfl
theorem TV:(Tryz.prog.info? 22).map (fun i=>(i.zero,i.size,i.bytes))=some (some (.slice none 0 0),1,24):=by kernel_rfl
section
variable {L:DL} {S:Nat→Prop} {Y:aR} {w:World} {bC:Nat→Nat} {vo vp:Nat→Value} {vb:Value} {bv:Nat→Value} {t:Nat}
theorem DR.pub (h:DR L S Y w bC vo vp vb bv) (ht:t<L.n) {w2 w4:World} (hb:Below w.heap.size w w2) (cG:w2.grownBy w4 vb.ownBlock) {g c:Nat} (hg:vb.ownBlock=some g∨g=w2.heap.size)
  (hown:w4.ownsRow 0 22 1 (.slice (some ⟨g,0,none⟩) (Y.bs.length+1) c) (Y.bs.length+1) ((List.range Y.bs.length).map bv++[vp t])) (VQ:g<w4.heap.size) {x':aT} {w5:World}
  (h5:w5=((w4.setCell ⟨L.b,8,none⟩ (.slice (some ⟨g,0,none⟩) (Y.bs.length+1) c)).setCell ⟨L.bT t,9,none⟩ (.slice none 0 0)).setCell ⟨L.bT t,5,none⟩ (.int .i64 (x'.aE:Int)))
  (hx:x' = {Y.th t with aK:=[],aE:=x'.aE}):dL L S w ⟨aI Y.th t x',Y.bs++[(Y.th t).aK]⟩ w5:=by
 have qb:=h.zD
 have qt:=h.zE t ht
 have hz:=hb.size
 have hlb:=h.lt _ qb.1
 have hlt:=h.lt _ qt.1
 have hvb:∀ k,vb.ownBlock=some k→k<w.heap.size:=fun k e=>h.lt k (h.qA k e).1
 have hne:=h.ne ht
 -- blocks that were not touched
 have old:∀ k,k<w.heap.size→k≠L.b→k≠L.bT t→vb.ownBlock≠some k→w5.heap[k]?=w.heap[k]?:=fun k hk h1 h2 h3=>by
  rw [h5,Below.heap_setCell _ _ _ k h2,Below.heap_setCell _ _ _ k h2,Below.heap_setCell _ _ _ k h1,cG.block k (by omega) (fun e=>h3 e.symm)]
  exact hb.block k hk
 have keep:∀ k,S k→bC k≠0→bC k≠2→bC k≠4*t+4→w5.heap[k]?=w.heap[k]?:=fun k hS h0 h2 h4=>old k (h.lt k hS) (fun e=>h0 (by rw [e];exact qb.2)) (fun e=>h4 (by rw [e];exact qt.2)) (fun e=>h2 (h.qA k e).2)
 have r4b:Row w4 L.b 105 (dob L vb):=h.obj.of_block ((cG.block _ (by omega) (fun e=>by have:=(h.qA _ e.symm).2;rw [qb.2] at this;omega)).trans (hb.block _ hlb))
 have r4t:Row w4 (L.bT t) 109 (vT (Y.th t) (L.bF t) L.n (vo t) (vp t)):=(h.th t ht).of_block ((cG.block _ (by omega) (fun e=>by have:=(h.qA _ e.symm).2;rw [qt.2] at this;omega)).trans (hb.block _ hlt))
 have r5b:Row w5 L.b 105 (dob L (.slice (some ⟨g,0,none⟩) (Y.bs.length+1) c)):=by
  rw [h5]
  exact ((r4b.set 8 _).setOther (by simpa using hne) _).setOther (by simpa using hne) _
 have r5t:Row w5 (L.bT t) 109 (vT x' (L.bF t) L.n (vo t) (.slice none 0 0)):=by
  rw [h5]
  have:=((r4t.setOther (a:=⟨L.b,8,none⟩) (by simpa using hne.symm) (.slice (some ⟨g,0,none⟩) (Y.bs.length+1) c)).set 9 (.slice none 0 0)).set 5 (.int .i64 (x'.aE:Int))
  rw [hx]
  exact this
 have uY:g≠L.b∧g≠L.bT t:=by
  rcases hg with e|e
  ·have:=(h.qA g e).2
   exact ⟨fun q=>by rw [q,qb.2] at this;omega,fun q=>by rw [q,qt.2] at this;omega⟩
  ·exact ⟨by omega,by omega⟩
 have TW:w5.ownsRow 0 22 1 (.slice (some ⟨g,0,none⟩) (Y.bs.length+1) c) (Y.bs.length+1) ((List.range Y.bs.length).map bv++[vp t]):=by
  rw [h5]
  refine bJ hown fun k e=>?_
  have e:g=k:=by simpa [Value.ownBlock] using e
  subst e
  rw [Below.heap_setCell _ _ _ g uY.2,Below.heap_setCell _ _ _ g uY.2,Below.heap_setCell _ _ _ g uY.1]
 have hz5:w5.heap.size=w4.heap.size:=by rw [h5];simp [World.setCell]
 have hS:∀ k,S k→Grow S w w5 k∧xV bC w 2 k=bC k:=fun k hS=>⟨.inl hS,kS (h.lt k hS)⟩
 have hmap:(List.range (Y.bs++[(Y.th t).aK]).length).map (aI bv Y.bs.length (vp t))=(List.range Y.bs.length).map bv++[vp t]:=by
  rw [List.length_append,List.length_singleton,List.range_succ,List.map_append,List.map_singleton,aC]
  congr 1
  exact List.map_congr_left fun k hk=>aD _ _ (by have:=List.mem_range.1 hk;omega)
 refine ⟨⟨xV bC w 2,aI vo t (vo t),aI vp t (.slice none 0 0),.slice (some ⟨g,0,none⟩) (Y.bs.length+1) c,aI bv Y.bs.length (vp t),?_⟩,?_⟩
 ·refine DR.move h ht (fun k hS h0 h2 h4 _ _=>keep k hS h0 h2 h4) hS (fun k hk=>?_) r5b r5t ?_ ?_ (fun k e=>⟨(hS k (h.pK t ht k e).1).1,(hS k (h.pK t ht k e).1).2.trans (h.pK t ht k e).2⟩) ?_ ?_ ?_ ?_ ?_ ?_
  ·rcases hk with hk|hk
   ·have:=h.lt k hk;have:=cG.size;omega
   ·exact hk.2
  ·rw [show x'.flipped=(Y.th t).flipped by rw [hx]]
   exact (h.fl t ht).of_block (keep _ (h.zF t ht).1 (by rw [(h.zF t ht).2];omega) (by rw [(h.zF t ht).2];omega) (by rw [(h.zF t ht).2];omega))
  ·rw [show x'.ops=(Y.th t).ops by rw [hx]]
   exact bJ (h.ops t ht) fun k e=>keep k (h.pK t ht k e).1 (by rw [(h.pK t ht k e).2];omega) (by rw [(h.pK t ht k e).2];omega) (by rw [(h.pK t ht k e).2];omega)
  ·rw [hmap,List.length_append,List.length_singleton]
   exact TW
  ·intro k e
   have e:g=k:=by simpa [Value.ownBlock] using e
   subst e
   rcases hg with q|q
   ·exact ⟨.inl (h.qA g q).1,(kS (h.lt g (h.qA g q).1)).trans (h.qA g q).2⟩
   ·exact ⟨.inr ⟨by omega,by omega⟩,xW (by omega)⟩
  ·intro i hi
   by_cases e:i=Y.bs.length
   ·subst e
    rw [aC,List.getElem_append_right (Nat.le_refl _)]
    simp only [Nat.sub_self,List.getElem_cons_zero]
    exact (h.vQ t ht).of_block fun k e=>keep k (h.uA t ht k e).1 (by rw [(h.uA t ht k e).2];omega) (by rw [(h.uA t ht k e).2];omega) (by rw [(h.uA t ht k e).2];omega)
   ·have hi':i<Y.bs.length:=by simp at hi;omega
    rw [aD _ _ e,List.getElem_append_left hi']
    exact (h.KU i hi').of_block fun k e=>keep k (h.rZ i hi' k e).1 (by rw [(h.rZ i hi' k e).2];omega) (by rw [(h.rZ i hi' k e).2];omega) (by rw [(h.rZ i hi' k e).2];omega)
  ·intro i hi k e
   by_cases q:i=Y.bs.length
   ·subst q
    rw [aC] at e
    exact ⟨.inl (h.uA t ht k e).1,(kS (h.lt k (h.uA t ht k e).1)).trans (h.uA t ht k e).2⟩
   ·have hi':i<Y.bs.length:=by simp at hi;omega
    rw [aD _ _ q] at e
    exact ⟨.inl (h.rZ i hi' k e).1,(kS (h.lt k (h.rZ i hi' k e).1)).trans (h.rZ i hi' k e).2⟩
  ·rw [show x'.aK=[] by rw [hx]]
   exact KT.nil _
  ·intro k e;simp [Value.ownBlock] at e
 ·refine ⟨?_,?_,?_,?_,?_⟩
  ·rw [h5];exact cG.os.trans hb.os
  ·rw [h5];exact cG.tape.trans hb.tape
  ·rw [h5];exact cG.output.trans hb.output
  ·have:=cG.size;omega
  ·intro k hk hS
   exact old k hk (fun e=>hS (e▸qb.1)) (fun e=>hS (e▸qt.1)) (fun e=>hS (h.qA k e).1)
theorem xX {w w4:World} {row:Option Nat} {E N i j:Nat} {q:Value} (hg:w.grownBy w4 row) (h:w.cell? ⟨N,i,none⟩=some q∧w.there E j 1) (hE:some E≠row) (hN:some N≠row) :
  w4.cell? ⟨N,i,none⟩=some q∧w4.there E j 1:=by
 refine ⟨hg.cell h.1 hN,fun k hk=>?_⟩
 obtain ⟨h1,h2⟩:=h.2 k hk
 obtain ⟨u,hu⟩:=Option.isSome_iff_exists.1 h1
 have hlt:=World.block_lt_of_cell? w _ hu
 rw [hg.cell_far ⟨E,j+k,none⟩ hlt hE,hg.frozen_far ⟨E,j+k,none⟩ hlt hE]
 exact ⟨h1,h2⟩
theorem dL.widen {Y':aR} {w':World} {S':Nat→Prop} (h:dL L S w Y' w') (hS:∀ k,S k→S' k) (hlt:∀ k,S' k→k<w.heap.size):dL L S' w Y' w' :=
 ⟨h.doc.stay (fun _ _=>rfl) (fun k hk=>by rcases hk with hk|hk;exact .inl (hS k hk);exact .inr hk) (fun k hk=>by
  rcases hk with hk|hk
  ·exact Nat.lt_of_lt_of_le (hlt k hk) h.fr.size
  ·exact hk.2),⟨h.fr.os,h.fr.tape,h.fr.output,h.fr.size,fun k hk hn=>h.fr.block k hk fun c=>hn (hS k c)⟩⟩
theorem cL.then {Y' vK:aR} {w1 w2:World} (h:cL L S Y' bC vo vp vb bv w w1) (h':dL L S w1 vK w2):dL L S w vK w2 :=
 dL.next h.left (h'.widen (fun _=>.inl) fun k hk=>by
  rcases hk with hk|hk
  ·exact h.dr.lt k hk
  ·exact hk.2)
end
end Go.Proofs.YtefjhnhdagolhaaGreat
namespace Go.Proofs.YtefjhnhdagolhaaGreat
open Go.RowKit
open M (aI aC aD aR aT cnt)
attribute [local go_sem ↓] Go.wp_at_zero Go.wp_at_succ
section
variable {L:DL} {S:Nat→Prop} {Y:aR} {w:World} {bC:Nat→Nat} {vo vp:Nat→Value} {vb:Value} {bv:Nat→Value} {t:Nat}
theorem XJ.left {w':World} {l:List Nat} {v:Value} (q:XJ L t (Y.th t) vo w w' l v) (h:DR L S Y w bC vo vp vb bv) (ht:t<L.n):dL L S w (Y.set t {Y.th t with aK:=l}) w' :=
 ⟨⟨_,_,_,_,_,q.dr h ht rfl rfl⟩,⟨q.fr.os,q.fr.tape,q.fr.output,q.fr.size,fun k hk hS=>q.fr.block k hk fun e=>hS (by rw [show k=L.bT t from e];exact (h.zE t ht).1)⟩⟩
set_option maxRecDepth 20000 in
set_option maxHeartbeats 4000000 in
theorem sZ (h:DR L S Y w bC vo vp vb bv) (ht:t<L.n) (p:Nat) (hp:(Y.th t).part=p) (sA:p=7∨p=10) (hne:Y.bs.length≠(Y.th t).stamp) (hb:(Y.th t).aE≤L.cap) :
  Calls Tryz.prog 87 #[.pointer (some ⟨L.b,0,none⟩),.int .i64 (t:Int)] w fun e w'=>e = .returned (.int .i64 1)∧dL L S w (Y.set t ((Y.th t).fail L.n L.cap)) w':=by
 obtain ⟨⟨a,c,ev⟩,hm⟩:=bG h.AU
 have hmx:maxLen=9223372036854775807:=rfl
 have c7:w.cell? ⟨L.b,7,none⟩=some (.slice (some ⟨L.g,0,none⟩) L.n L.gc):=h.cS rfl
 have c8:w.cell? ⟨L.b,8,none⟩=some (.slice a Y.bs.length c):=by have:w.cell? ⟨L.b,8,none⟩=some vb:=h.cS rfl;rw [ev] at this;exact this
 have cp:=h.ptr t ht
 have fG:(0:Int)≤(t:Int):=by omega
 have dD:(t:Int)<(L.n:Int):=by omega
 have t3:w.cell? ⟨L.bT t,3,none⟩=some (.int .i64 ((Y.th t).part:Int)):=h.cR ht rfl
 have t7:w.cell? ⟨L.bT t,7,none⟩=some (.int .i64 ((Y.th t).stamp:Int)):=h.cR ht rfl
 rw [hp] at t3
 have hs:((Y.bs.length:Int) == ((Y.th t).stamp:Int))=false:=by simp;omega
 have HE:=aA (fun k=>XG (h.drewN k) ht hb)
 have HR:=aA (fun k=>cL.refl h k)
 clear h hb hne ev
 rcases sA with rfl|rfl
 all_goals
  go_enter Tryz.func87,Tryz.ntmps87
  go_upto_region 2 with fail
  go_quiet (fail)
  go_wp2_with fail
  refine (HE.out nq).mono ?_
  rintro e w3 ⟨rfl,h3⟩
  have H4:=aA ((HR.out nq).next h3)
  clear h3
  go_wp2_with fail
  go_ret
  exact ⟨rfl,H4.out.left⟩
set_option maxRecDepth 20000 in
set_option maxHeartbeats 4000000 in
theorem PE (h:DR L S Y w bC vo vp vb bv) (ht:t<L.n) (hp:(Y.th t).part=7) (hst:Y.bs.length=(Y.th t).stamp) (hc:∀ k,k<L.n→cnt Y.bs k≤1000000000∧(Y.th t).flipped k≤1000000000) :
  Calls Tryz.prog 87 #[.pointer (some ⟨L.b,0,none⟩),.int .i64 (t:Int)] w fun e w'=>e = .returned (.int .i64 1)∧dL L S w (Y.set t (aT.enter L.n {Y.th t with aK:=Y.pending L.n (Y.th t)} (if t∈Y.pending L.n (Y.th t) then 8 else 11))) w':=by
 obtain ⟨⟨a,c,ev⟩,hm⟩:=bG h.AU
 have hmx:maxLen=9223372036854775807:=rfl
 have c7:w.cell? ⟨L.b,7,none⟩=some (.slice (some ⟨L.g,0,none⟩) L.n L.gc):=h.cS rfl
 have c8:w.cell? ⟨L.b,8,none⟩=some (.slice a Y.bs.length c):=by have:w.cell? ⟨L.b,8,none⟩=some vb:=h.cS rfl;rw [ev] at this;exact this
 have cp:=h.ptr t ht
 have fG:(0:Int)≤(t:Int):=by omega
 have dD:(t:Int)<(L.n:Int):=by omega
 have t3:w.cell? ⟨L.bT t,3,none⟩=some (.int .i64 ((Y.th t).part:Int)):=h.cR ht rfl
 have t7:w.cell? ⟨L.bT t,7,none⟩=some (.int .i64 ((Y.th t).stamp:Int)):=h.cR ht rfl
 rw [hp] at t3
 have hs:((Y.bs.length:Int) == ((Y.th t).stamp:Int))=true:=by simp [hst]
 have HE:=aA (fun k=>TT (h.drewN k) ht hc)
 have HH:=aA (fun k=>h.drewN k)
 have HN:=aA (Nat.le_trans (M.uV L.n Y (Y.th t)) h.n64)
 have HR:=aA (fun k=>cL.refl h k)
 have TU:=aA h.lt
 clear h hst ev
 go_enter Tryz.func87,Tryz.ntmps87
 go_upto_region 2 with fail
 go_quiet (fail)
 go_wp2_with fail
 refine (HE.out nq).mono ?_
 rintro e w3 ⟨rfl,v,hI⟩
 have hD:=hI.dr (HH.out nq) ht rfl rfl
 have HL:=aA (dL.next (HR.out nq).left (show dL L (Grow S w (w.drewN nq)) (w.drewN nq) _ w3 from
  XJ.left hI ((HH.out nq).stay (fun _ _=>rfl) (fun _=>.inl) (fun k hk=>by
   rcases hk with hk|hk
   ·exact TU.out k hk
   ·exact hk.2)) ht))
 have HD:=aA hD
 clear hI hD HE
 have d3:w3.cell? ⟨L.bT t,3,none⟩=some (.int .i64 7):=by have:=HD.out.cR ht (j:=3) rfl;rw [bD] at this;rw [this,hp];rfl
 clear hp
 by_cases hmem:t∈Y.pending L.n (Y.th t)
 ·rw [show decide (t∈Y.pending L.n (Y.th t))=true from decide_eq_true hmem]
  go_wp2_with fail
  refine (gM HD.out ht 8 (by decide) (by decide) (fun _ _=>by rw [bD];exact HN.out)).mono ?_
  rintro e w4 ⟨rfl,h4⟩
  have H4:=aA (h4.cast (by rw [bD,set_set]))
  clear h4
  go_wp2_with fail
  go_ret
  refine ⟨rfl,?_⟩
  exact HL.out.next H4.out.left
 ·rw [show decide (t∈Y.pending L.n (Y.th t))=false from decide_eq_false hmem]
  go_wp2_with fail
  refine (gM HD.out ht 11 (by decide) (by decide) (fun _ h=>absurd h (by decide))).mono ?_
  rintro e w4 ⟨rfl,h4⟩
  have H4:=aA (h4.cast (by rw [bD,set_set]))
  clear h4
  go_wp2_with fail
  go_ret
  refine ⟨rfl,?_⟩
  exact HL.out.next H4.out.left
set_option maxRecDepth 20000 in
set_option maxHeartbeats 4000000 in
theorem LA (h:DR L S Y w bC vo vp vb bv) (ht:t<L.n) (hp:(Y.th t).part=10) (hst:Y.bs.length=(Y.th t).stamp) (hN:Y.bs.length≤1000000000) (hb:(Y.th t).aE≤L.cap) :
  Calls Tryz.prog 87 #[.pointer (some ⟨L.b,0,none⟩),.int .i64 (t:Int)] w fun e w'=>e = .returned (.int .i64 1)∧dL L S w ⟨aI Y.th t (aT.enter L.n {Y.th t with aK:=[],aE:=(Y.th t).aE / 2} 11),Y.bs++[(Y.th t).aK]⟩ w':=by
 obtain ⟨si,hsi,hsz⟩:=Option.map_eq_some_iff.1 TV
 simp only [Prod.mk.injEq] at hsz
 obtain ⟨hs1,hs2,hs3⟩:=hsz
 have HSI:=aA hsi
 have NB:=aA hs1
 have ZC:=aA hs2
 have HS3:=aA hs3
 clear hsi hs1 hs2 hs3
 obtain ⟨⟨a,c,ev⟩,hm⟩:=bG h.AU
 have hmx:maxLen=9223372036854775807:=rfl
 have c7:w.cell? ⟨L.b,7,none⟩=some (.slice (some ⟨L.g,0,none⟩) L.n L.gc):=h.cS rfl
 have c8:w.cell? ⟨L.b,8,none⟩=some (.slice a Y.bs.length c):=by have:w.cell? ⟨L.b,8,none⟩=some vb:=h.cS rfl;rw [ev] at this;exact this
 have cp:=h.ptr t ht
 have fG:(0:Int)≤(t:Int):=by omega
 have dD:(t:Int)<(L.n:Int):=by omega
 have t3:w.cell? ⟨L.bT t,3,none⟩=some (.int .i64 ((Y.th t).part:Int)):=h.cR ht rfl
 have t7:w.cell? ⟨L.bT t,7,none⟩=some (.int .i64 ((Y.th t).stamp:Int)):=h.cR ht rfl
 rw [hp] at t3
 have hs:((Y.bs.length:Int) == ((Y.th t).stamp:Int))=true:=by simp [hst]
 have hcap:=h.vD
 have HH:=aA h
 have HEV:=aA ev
 have HHP:=aA hp
 clear h hst ev hp
 go_enter Tryz.func87,Tryz.ntmps87
 go_upto_region 2 with fail
 go_quiet (fail)
 generalize jE:w.drewN nq=W0 at *
 have q0:DR L S Y W0 bC vo vp vb bv:=by rw [←jE];exact HH.out.drewN nq
 have HQ:=aA q0
 have hR0:=aA (show cL L S Y bC vo vp vb bv w W0 by rw [←jE];exact cL.refl HH.out nq)
 have u3:W0.cell? ⟨L.bT t,3,none⟩=some (.int .i64 10):=by rw [←jE];exact t3
 have cv:W0.cell? ⟨L.b,8,none⟩=some vb:=q0.cS rfl
 have c9:W0.cell? ⟨L.bT t,9,none⟩=some (vp t):=q0.cR ht rfl
 have tM:W0.there L.b 8 1:=q0.obj.there (by simp [dob,VM])
 have xY:some (L.bT t)≠vb.ownBlock:=fun e=>by have h1:=(q0.qA _ e.symm).2;have h2:=(q0.zE t ht).2;rw [h2] at h1;omega
 have vL:some L.b≠vb.ownBlock:=fun e=>by have h1:=(q0.qA _ e.symm).2;have h2:=q0.zD.2;rw [h2] at h1;omega
 have hbt:=q0.ne ht
 obtain ⟨pa,pc,ep⟩:=(q0.vQ t ht).form
 have HEP:=aA ep
 have qZ:=aA cv
 have hsz:(Tryz.prog.info? 58).map (·.size)=some 1:=by kernel_rfl
 clear q0 cv ep jE c7 c8 cp t3 t7
 go_upto_region 21 with fail
 rw [HEP.out] at c9
 refine gO (S:=(fun w'=>w'.cell? ⟨L.bT t,9,none⟩=some (.slice pa (Y.th t).aK.length pc)∧w'.there L.b 8 1)) 14 rfl (by kernel_rfl) ?_ (fun hHeld=>?_)
 ·exact ⟨c9,tM⟩
 iterate 4 (refine tk 13 (by rfl) (by kernel_rfl) (by exact fun _ _ _ h=>h) (.inl ⟨by rfl,fun w hS=>by (try dsimp only at hS);go_simp;(try with_reducible rfl)⟩) (by assumption) ?_;try go_frame)
 iterate 4 (refine tk 14 (by rfl) (by kernel_rfl) (by exact fun _ _ _ h=>h) (.inl ⟨by rfl,fun w hS=>by (try dsimp only at hS);go_simp;(try with_reducible rfl)⟩) (by assumption) ?_;try go_frame)
 refine wpAnyH_ready (rs:=[4,9]) (by kernel_rfl) (by simp) (rc (by rfl) (fun K hK=>?_) (rc (by rfl) (fun K hK=>?_) AllReadyH.nil))
 ·rw [if_pos (by rfl)]
  refine bZ _ _ rfl _ _ vb rfl (by kernel_rfl) (by refine cell_later ?_ qZ.out;repeat (first|exact Below.refl _ _|refine Below.drew ?_|refine Below.alloc ?_ (by first|(simp;done)|(simp;omega)) _)) ?_
  refine hK.out _ _ ?_ (fun hHeld=>?_)
  ·exact hHeld
  clear hK K
  (try go_frame)
  refine aU 9 (by rfl) (by kernel_rfl) (fun K hK=>?_)
  go_simp
  refine hK.out _ _ ?_ (fun hHeld=>?_)
  ·exact ⟨cell_later (aB _ _) hHeld.1,World.there_alloc hHeld.2 _⟩
  clear hK K
  (try go_frame)
  refine aU 10 (by rfl) (by kernel_rfl) (fun K hK=>?_)
  refine step_append_lies _ rfl (.tmp 77) (.tmp 82) 58 rfl 0 22 si (.slice none 0 0) 1 24 Tryz.underlying58 HSI.out NB.out ZC.out HS3.out rfl (by decide) vb Y.bs.length ((List.range Y.bs.length).map bv) rfl ?_ ⟨W0.heap.size,0,none⟩ 1 1 [.slice pa (Y.th t).aK.length pc] rfl rfl ?_ (by simp [Value.oneCell']) (by decide) (by unfold maxLen;omega) (by omega) (Nat.zero_le _) _ rfl ?_
  ·exact HQ.out.AU.alloc _
  ·exact World.news_of_block (Row.new' (by simp))
  intro g gc w4 hown cG hat gF
  have HO:=aA hown
  have HG:=aA cG
  have HA:=aA hat
  have PG:=gF
  clear hown cG hat gF
  refine hK.out _ _ ?_ (fun hHeld=>?_)
  ·exact xX HG.out hHeld vL xY
  clear hK K
  (try go_frame)
  iterate 2 (refine tk 13 (by rfl) (by kernel_rfl) (by exact fun _ _ _ h=>h) (.inl ⟨by rfl,fun w hS=>by (try dsimp only at hS);go_simp;(try with_reducible rfl)⟩) (by assumption) ?_;try go_frame)
  refine aU 13 (by rfl) (by kernel_rfl) (fun K hK=>?_)
  rw [if_pos (by rfl)]
  refine aM _ _ _ rfl L.b 8 (.slice (some ⟨g,0,none⟩) (Y.bs.length+1) gc) rfl rfl rfl rfl hHeld.2 hsz ?_
  refine hK.out _ _ ?_ (fun hHeld=>?_)
  ·exact ⟨(World.cell?_setCell_far _ _ _ _ (by simp;omega)).trans hHeld.1,aQ hHeld.2 _ rfl _⟩
  clear hK K
  (try go_frame)
  refine wpAnyH_done (by kernel_rfl) ?_ _
  have tG:Row w4 (L.bT t) 109 (vT (Y.th t) (L.bF t) L.n (vo t) (vp t)):=(HQ.out.th t ht).of_block ((HG.out.block _ (by simp;exact Nat.lt_succ_of_lt (HQ.out.th t ht).lt) xY).trans ((aB _ _).block _ (HQ.out.th t ht).lt))
  have jJ:=tG.setOther (a:=⟨L.b,8,none⟩) (by simpa using hbt.symm) (.slice (some ⟨g,0,none⟩) (Y.bs.length+1) gc)
  have HR5:=aA jJ
  have x9:=jJ.cell_of (i:=9) rfl
  have x5:_=some (Value.int .i64 ((Y.th t).aE:Int)):=jJ.cell_of (i:=5) rfl
  have x3:_=some (Value.int .i64 ((Y.th t).part:Int)):=jJ.cell_of (i:=3) rfl
  have y9:=jJ.frozen 9
  have y5:=jJ.frozen 5
  rw [HHP.out] at x3
  have TX:=aA (DR.pub HQ.out ht (w2:=_) (Below.drew (aB _ _)) HG.out HA.out (by rw [HEP.out];exact HO.out) PG (x':={Y.th t with aK:=[],aE:=(Y.th t).aE / 2}) rfl rfl)
  clear tG jJ hHeld HG HA HO
  generalize World.setCell w4 ⟨L.b,8,none⟩ (.slice (some ⟨g,0,none⟩) (Y.bs.length+1) gc)=W5 at *
  obtain ⟨nH,CI,vp',vb',bv',hD⟩:=TX.out.doc
  have HD:=aA hD
  clear hD
  go_wp2_with fail
  refine (gM HD.out ht 11 (by decide) (by decide) (fun _ h=>absurd h (by decide))).mono ?_
  rintro e w6 ⟨rfl,h6⟩
  have H6:=aA (hR0.out.then (TX.out.next h6.left))
  clear h6
  go_wp2_with fail
  go_ret
  refine ⟨rfl,H6.out.cast ?_⟩
  simp [M.aR.set,aC,aDb]
 ·go_simp
  refine hK.out _ _ ?_ (fun hHeld=>?_)
  ·exact ⟨cell_later (aB _ _) hHeld.1,World.there_alloc hHeld.2 _⟩
  clear hK K
  (try go_frame)
  refine aU 4 (by rfl) (by kernel_rfl) (fun K hK=>?_)
  rw [if_pos (by rfl)]
  refine bZ _ _ rfl _ _ vb rfl (by kernel_rfl) (by refine cell_later ?_ qZ.out;repeat (first|exact Below.refl _ _|refine Below.drew ?_|refine Below.alloc ?_ (by first|(simp;done)|(simp;omega)) _)) ?_
  refine hK.out _ _ ?_ (fun hHeld=>?_)
  ·exact hHeld
  clear hK K
  (try go_frame)
  refine aU 10 (by rfl) (by kernel_rfl) (fun K hK=>?_)
  refine step_append_lies _ rfl (.tmp 77) (.tmp 82) 58 rfl 0 22 si (.slice none 0 0) 1 24 Tryz.underlying58 HSI.out NB.out ZC.out HS3.out rfl (by decide) vb Y.bs.length ((List.range Y.bs.length).map bv) rfl ?_ ⟨W0.heap.size,0,none⟩ 1 1 [.slice pa (Y.th t).aK.length pc] rfl rfl ?_ (by simp [Value.oneCell']) (by decide) (by unfold maxLen;omega) (by omega) (Nat.zero_le _) _ rfl ?_
  ·exact HQ.out.AU.alloc _
  ·exact World.news_of_block (Row.new' (by simp))
  intro g gc w4 hown cG hat gF
  have HO:=aA hown
  have HG:=aA cG
  have HA:=aA hat
  have PG:=gF
  clear hown cG hat gF
  refine hK.out _ _ ?_ (fun hHeld=>?_)
  ·exact xX HG.out hHeld vL xY
  clear hK K
  (try go_frame)
  iterate 2 (refine tk 13 (by rfl) (by kernel_rfl) (by exact fun _ _ _ h=>h) (.inl ⟨by rfl,fun w hS=>by (try dsimp only at hS);go_simp;(try with_reducible rfl)⟩) (by assumption) ?_;try go_frame)
  refine aU 13 (by rfl) (by kernel_rfl) (fun K hK=>?_)
  rw [if_pos (by rfl)]
  refine aM _ _ _ rfl L.b 8 (.slice (some ⟨g,0,none⟩) (Y.bs.length+1) gc) rfl rfl rfl rfl hHeld.2 hsz ?_
  refine hK.out _ _ ?_ (fun hHeld=>?_)
  ·exact ⟨(World.cell?_setCell_far _ _ _ _ (by simp;omega)).trans hHeld.1,aQ hHeld.2 _ rfl _⟩
  clear hK K
  (try go_frame)
  refine wpAnyH_done (by kernel_rfl) ?_ _
  have tG:Row w4 (L.bT t) 109 (vT (Y.th t) (L.bF t) L.n (vo t) (vp t)):=(HQ.out.th t ht).of_block ((HG.out.block _ (by simp;exact Nat.lt_succ_of_lt (HQ.out.th t ht).lt) xY).trans ((aB _ _).block _ (HQ.out.th t ht).lt))
  have jJ:=tG.setOther (a:=⟨L.b,8,none⟩) (by simpa using hbt.symm) (.slice (some ⟨g,0,none⟩) (Y.bs.length+1) gc)
  have HR5:=aA jJ
  have x9:=jJ.cell_of (i:=9) rfl
  have x5:_=some (Value.int .i64 ((Y.th t).aE:Int)):=jJ.cell_of (i:=5) rfl
  have x3:_=some (Value.int .i64 ((Y.th t).part:Int)):=jJ.cell_of (i:=3) rfl
  have y9:=jJ.frozen 9
  have y5:=jJ.frozen 5
  rw [HHP.out] at x3
  have TX:=aA (DR.pub HQ.out ht (w2:=_) (Below.drew (aB _ _)) HG.out HA.out (by rw [HEP.out];exact HO.out) PG (x':={Y.th t with aK:=[],aE:=(Y.th t).aE / 2}) rfl rfl)
  clear tG jJ hHeld HG HA HO
  generalize World.setCell w4 ⟨L.b,8,none⟩ (.slice (some ⟨g,0,none⟩) (Y.bs.length+1) gc)=W5 at *
  obtain ⟨nH,CI,vp',vb',bv',hD⟩:=TX.out.doc
  have HD:=aA hD
  clear hD
  go_wp2_with fail
  refine (gM HD.out ht 11 (by decide) (by decide) (fun _ h=>absurd h (by decide))).mono ?_
  rintro e w6 ⟨rfl,h6⟩
  have H6:=aA (hR0.out.then (TX.out.next h6.left))
  clear h6
  go_wp2_with fail
  go_ret
  refine ⟨rfl,H6.out.cast ?_⟩
  simp [M.aR.set,aC,aDb]
end
end Go.Proofs.YtefjhnhdagolhaaGreat
