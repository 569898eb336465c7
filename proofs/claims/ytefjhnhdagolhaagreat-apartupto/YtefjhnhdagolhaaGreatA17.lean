import Derived.Test.YtefjhnhdagolhaaGreatA04
import Derived.Test.YtefjhnhdagolhaaGreatA16
import Derived.Test.YtefjhnhdagolhaaGreatA05
set_option maxHeartbeats 4000000
set_option maxRecDepth 20000
namespace Go.Proofs.YtefjhnhdagolhaaGreat
open Tryz
open Go.RowKit
open M (aM aC aD aR bJ cnt)
attribute [local go_sem ↓] Go.wp_at_zero Go.wp_at_succ
section
variable {L:DL} {S:Nat→Prop} {Y:aR} {w:World} {bZ:Nat→Nat} {vo vp:Nat→Value} {vb:Value} {bv:Nat→Value} {t:Nat}
def eW (Y:aR) (x:bJ) (k:Nat):List Nat:=(List.range k).filter fun i=>decide ((x.flipped i+cnt Y.bs i) % 2=1)
theorem ZB (Y:aR) (x:bJ) (k:Nat):eW Y x (k+1)=eW Y x k++if (x.flipped k+cnt Y.bs k) % 2=1 then [k] else []:=by
 unfold eW;rw [pR,zZ];congr 1
 by_cases h:(x.flipped k+cnt Y.bs k) % 2=1<;>simp [h]
theorem jf (Y:aR) (x:bJ) (k:Nat):(eW Y x k).length≤k:=by
 unfold eW;exact bK (List.length_filter_le _ _) (by simp)
theorem xk (Y:aR) (x:bJ) (k:Nat):∀ i∈eW Y x k,i<k:=by
 intro i hi;unfold eW at hi;exact List.mem_range.1 (List.mem_filter.1 hi).1
structure CkI (L:DL) (t:Nat) (x:bJ) (vo:Nat→Value) (w w':World) (l:List Nat) (v:Value):Prop where
 row:Row w' (L.bT t) 109 (QJ x (L.bF t) L.n (vo t) v)
 own:w'.ownsRow w.heap.size 3 1 v l.length (ints (l.map Int.ofNat))
 fr:Fr (fun k=>k=L.bT t) w w'
def OJ (bZ:Nat→Nat) (w:World) (c:Nat):Nat→Nat:=fun k=>if w.heap.size≤k then c else bZ k
theorem uW {c:Nat} {k:Nat} (h:k<w.heap.size):OJ bZ w c k=bZ k:=by unfold OJ;rw [aN (by omega)]
theorem OK {c:Nat} {k:Nat} (h:w.heap.size≤k):OJ bZ w c k=c:=by unfold OJ;rw [aJ h]
theorem CkI.dr {x':bJ} {w':World} {l:List Nat} {v:Value} (q:CkI L t x' vo w w' l v) (h:DR L S Y w bZ vo vp vb bv) (ht:t<L.n) (h1:x'.ops=(Y.th t).ops) (h2:x'.flipped=(Y.th t).flipped):DR L (Grow S w w') (Y.set t {x' with aK:=l}) w' (OJ bZ w 3) vo (aM vp t v) vb bv:=by
 have hq:=h.PW t ht;have hne:∀ k,S k→bZ k≠4*t+4→w'.heap[k]?=w.heap[k]?:=fun k hS hl=>q.fr.block k (h.lt k hS) fun e=>hl (by rw [show k=L.bT t from e,hq.2])
 have hS:∀ k,S k→Grow S w w' k∧OJ bZ w 3 k=bZ k:=fun k hS=>⟨.inl hS,uW (h.lt k hS)⟩
 have hlt:=q.own.lt;have:=DR.move (w':=w') (S':=Grow S w w') (AG:=OJ bZ w 3) (bv':=bv) (bs':=Y.bs) (x':={x' with aK:=l}) (PN:=vo t) (vp':=v) h ht (fun k hS _ _ h4 _ _=>hne k hS h4) hS
  (fun k hk=>by
   rcases hk with hk|hk
   ·exact cH (h.lt k hk) q.fr.size
   ·exact hk.2) (h.obj.of_block (hne _ h.PV.1 (by rw [h.PV.2];omega))) q.row
  (by rw [show ({x' with aK:=l}:bJ).flipped=(Y.th t).flipped from h2];exact (h.fl t ht).of_block (hne _ (h.PT t ht).1 (by rw [(h.PT t ht).2];omega)))
  (by rw [show ({x' with aK:=l}:bJ).ops=(Y.th t).ops from h1];exact aZ (h.ops t ht) fun k e=>hne k (h.BB t ht k e).1 (by rw [(h.BB t ht k e).2];omega)) (fun k e=>⟨(hS k (h.BB t ht k e).1).1,(hS k (h.BB t ht k e).1).2.trans (h.BB t ht k e).2⟩)
  (aZ h.TL fun k e=>hne k (h.CA k e).1 (by rw [(h.CA k e).2];omega)) (fun k e=>⟨(hS k (h.CA k e).1).1,(hS k (h.CA k e).1).2.trans (h.CA k e).2⟩)
  (fun i hi=>(h.ez i hi).of_block fun k e=>hne k (h.FB i hi k e).1 (by rw [(h.FB i hi k e).2];omega)) (fun i hi k e=>⟨(hS k (h.FB i hi k e).1).1,(hS k (h.FB i hi k e).1).2.trans (h.FB i hi k e).2⟩)
  (dW q.own (aW _)) (fun k e=>⟨.inr (hlt k e),OK (hlt k e).1⟩)
 rw [JZ vo t _ rfl] at this;exact this
theorem aBy (a b:Nat):(((a:Int)-(b:Int)).tmod 2=0)↔¬(a+b) % 2=1:=by
 rw [Int.tmod_eq_emod]
 split<;>omega
theorem aAt (h:DR L S Y w bZ vo vp vb bv) (ht:t<L.n) (hc:∀ k,k<L.n→cnt Y.bs k≤1000000000∧(Y.th t).flipped k≤1000000000) :
  Calls prog 111 #[.pointer (some ⟨L.b,0,none⟩),.int .i64 (t:Int)] w fun e w'=>e = .returned (.bool (decide (t∈Y.pending L.n (Y.th t))))∧∃ v,CkI L t (Y.th t) vo w w' (Y.pending L.n (Y.th t)) v:=by
 obtain ⟨mi,YE,YF⟩:=eZ.1 UF;simp only [fW] at YF;obtain ⟨AX,AY,AZ⟩:=YF;have zv:=aA YE;have kq:=aA AX;have zq:=aA AY;have zu:=aA AZ;have hn:=h.n64;have c7:w.cell? ⟨L.b,7,none⟩=some (.slice (some ⟨L.g,0,none⟩) L.n L.gc):=h.dV rfl;have cp:=h.ptr t ht;have mP:(0:Int)≤(t:Int):=by omega
 have fM:(t:Int)<(L.n:Int):=by omega
 have c9:w.cell? ⟨L.bT t,9,none⟩=some (vp t):=h.dR ht rfl;have f9:=(h.th t ht).frozen 9;have hne:=h.ne ht;have HT:=aA (h.th t ht);have HH:=aA h;clear h YE AX AY AZ;go_enter func111,ntmps111;go_wp2
 go_loopw [6,7] (fun o i w'=>∃ k:Nat,k≤L.n∧i = .int .i64 (k:Int)∧o = .bool (decide (t∈eW Y (Y.th t) k))∧∃ v,CkI L t (Y.th t) vo w w' (eW Y (Y.th t) k) v) (fun _ i _=>L.n-(intOf i).toNat)
 case atStart =>
  refine ⟨0,aW _,rfl,rfl,.slice none 0 0,?_,jZ _ _ _ _,Fr.set (own:=fun k=>k=L.bT t) w (a:=⟨L.bT t,9,none⟩) rfl _⟩;exact HT.out.set 9 _
 case round =>
  obtain ⟨k,hk,rfl,rfl,v,hI⟩:=hrel;have q:=hI.dr HH.out ht rfl rfl;have d7:wr.cell? ⟨L.b,7,none⟩=some (.slice (some ⟨L.g,0,none⟩) L.n L.gc):=q.dV rfl
  by_cases hlt:k<L.n
  ·have hlt':(k:Int)<(L.n:Int):=by omega
   have WU:(0:Int)≤(k:Int):=by omega
   obtain ⟨b1,b2⟩:=hc k hlt;have HA:=aA (show Calls prog 141 #[.pointer (some ⟨L.b,0,none⟩),.int .i64 (k:Int)] wr fun e w'=>e = .returned (.int .i64 (cnt Y.bs k:Int))∧w'=wr from gf q k b1);have d8:wr.cell? ⟨L.bT t,8,none⟩=some (.slice (some ⟨L.bF t,0,none⟩) L.n L.n):=q.dR ht (j:=8) rfl;have d9:wr.cell? ⟨L.bT t,9,none⟩=some v:=hI.row.cell_of rfl;have dF:wr.cell? ⟨L.bF t,k,none⟩=some (.int .i64 ((Y.th t).flipped k:Int)):=by have:=(q.fl t ht).cell hlt;rw [cD] at this;exact this
   have HP:=aA (aBy ((Y.th t).flipped k) (cnt Y.bs k));have HS:=aA (ZB Y (Y.th t) k);have HN:=aA (jf Y (Y.th t) k);have yg:=aA (fun i hi=>xk Y (Y.th t) k i hi);have HI:=aA hI;have htl:L.bT t<w.heap.size:=HT.out.lt;have hzw:w.heap.size≤wr.heap.size:=hI.fr.size;clear q hI;generalize hfl:(Y.th t).flipped k=fk at *;generalize oh:cnt Y.bs k=cn at *
   by_cases vt:(fk+cn) % 2=1
   ·have hm:¬((fk:Int)-(cn:Int)).tmod 2=0:=fun c=>(HP.out.mp c) vt
    have zy:=aA (show eW Y (Y.th t) (k+1)=eW Y (Y.th t) k++[k] by rw [HS.out,aJ vt]);clear vt;go_wp2_with fail;refine HA.out.mono ?_;rintro e w1 ⟨rfl,rfl⟩;have HL:=aA yg;clear HA HP HS;go_wp2_with (at_builtin;refine cY _ rfl (.tmp 46) (.tmp 48) 22 rfl w.heap.size 3 mi (.int .i64 0) 1 8 underlying22 zv.out kq.out zq.out zu.out rfl (by decide) v (eW Y (Y.th t) k).length _ rfl (HI.out.own.alloc _) ⟨w1.heap.size,0,none⟩ 1 1 [.int .i64 (k:Int)] rfl rfl (jH (dH _ _ _)) (by simp [Value.oneCell']) (by decide) (by have:=HN.out;unfold maxLen;omega) (by have:=HN.out;omega) (by simp;omega) ?_);intro g3 c3 w3 hown dP DX DK;have hvl:=HI.out.own.lt;have gz:some (L.bT t)≠v.ownBlock:=fun e=>by have:=(hvl _ e.symm).1;omega
    have hR:Row w3 (L.bT t) 109 (QJ (Y.th t) (L.bF t) L.n (vo t) v):=(HI.out.row.alloc _).of_block (dP.block _ (by simp;omega) gz);have e9:w3.cell? ⟨L.bT t,9,none⟩=some v:=hR.cell_of rfl;have g9:=hR.frozen 9;have HX:=aA (show CkI L t (Y.th t) vo w (w3.setCell ⟨L.bT t,9,none⟩ (.slice (some ⟨g3,0,none⟩) ((eW Y (Y.th t) k).length+1) c3)) (eW Y (Y.th t) (k+1)) (.slice (some ⟨g3,0,none⟩) ((eW Y (Y.th t) k).length+1) c3) from by
     refine ⟨hR.set 9 _,?_,?_⟩
     ·rw [zy.out]
      have h9:w.heap.size≤g3:=(hown.lt g3 rfl).1;have:=ownsRow_setCell_other hown (a:=⟨L.bT t,9,none⟩) (by simp [Value.ownBlock];omega) (.slice (some ⟨g3,0,none⟩) ((eW Y (Y.th t) k).length+1) c3);simpa [ints] using this
     ·refine Fr.here (own:=fun k=>k=L.bT t) ?_ rfl _ _
      refine ⟨dP.os.trans HI.out.fr.os,dP.tape.trans HI.out.fr.tape,dP.output.trans HI.out.fr.output,bK HI.out.fr.size (bK (by simp) dP.size),fun b hb ho=>?_⟩;rw [dP.block b (by simp;omega) (fun e=>by have:=(hvl _ e.symm).1;omega),(aB w1 _).block b (by omega)];exact HI.out.fr.block b hb ho)
    clear hown dP DX DK hvl gz hR
    by_cases hmem:t∈eW Y (Y.th t) k
    ·have YC:t∈eW Y (Y.th t) (k+1):=by rw [zy.out];exact List.mem_append_left _ hmem
     have hd2:decide (t∈eW Y (Y.th t) (k+1))=true:=kE YC;rw [show decide (t∈eW Y (Y.th t) k)=true from kE hmem];go_wp2;go_roundw
     case rel=>exact ⟨k+1,by omega,by go_num,by rw [hd2],_,HX.out⟩
     case measure=>simp [intOf];omega
    ·rw [show decide (t∈eW Y (Y.th t) k)=false from decide_eq_false hmem]
     by_cases UD:k=t
     ·have aE0:((k:Int) == (t:Int))=true:=by simp [UD]
      have YC:t∈eW Y (Y.th t) (k+1):=by rw [zy.out,UD];exact List.mem_append_right _ (oP.2 rfl)
      have hd2:decide (t∈eW Y (Y.th t) (k+1))=true:=kE YC;clear UD;go_wp2;go_roundw
      case rel=>exact ⟨k+1,by omega,by go_num,by rw [hd2];try rw [aE0],_,HX.out⟩
      case measure=>simp [intOf];omega
     ·have aE0:((k:Int) == (t:Int))=false:=by simp;omega
      have YC:¬t∈eW Y (Y.th t) (k+1):=by rw [zy.out];intro c;rcases tB.1 c with c|c;exact hmem c;exact UD (oP.1 c).symm
      have hd2:decide (t∈eW Y (Y.th t) (k+1))=false:=decide_eq_false YC;clear UD;go_wp2;go_roundw
      case rel=>exact ⟨k+1,by omega,by go_num,by rw [hd2];try rw [aE0],_,HX.out⟩
      case measure=>simp [intOf];omega
   ·have hm:((fk:Int)-(cn:Int)).tmod 2=0:=HP.out.mpr vt
    have zy:=aA (show eW Y (Y.th t) (k+1)=eW Y (Y.th t) k by rw [HS.out,aN vt,List.append_nil]);clear vt;go_wp2_with fail;refine HA.out.mono ?_;rintro e w1 ⟨rfl,rfl⟩;clear HA HP HS;go_wp2;go_roundw
    case rel=>exact ⟨k+1,by omega,by go_num,by rw [zy.out],v,by rw [zy.out];exact HI.out⟩
    case measure=>simp [intOf];omega
  ·have hlt':¬(k:Int)<(L.n:Int):=by omega
   have hkn:k=L.n:=by omega
   have HX:=aA (show CkI L t (Y.th t) vo w wr (Y.pending L.n (Y.th t)) v by rw [hkn] at hI;exact hI);have HD:=aA (show decide (t∈eW Y (Y.th t) k)=decide (t∈Y.pending L.n (Y.th t)) by rw [hkn];rfl);rw [HD.out];clear q hI hkn;go_wp2;go_ret;exact ⟨rfl,v,HX.out⟩
end
theorem dA.left {L:DL} {S:Nat→Prop} {Y':aR} {w w':World} {bZ:Nat→Nat} {vo vp:Nat→Value} {vb:Value} {bv:Nat→Value} (h:dA L S Y' bZ vo vp vb bv w w'):eO L S w Y' w':=eO.of ⟨bZ,vo,vp,vb,bv,h.dr⟩ h.fr
section
variable {L:DL} {S:Nat→Prop} {Y:aR} {w:World} {bZ:Nat→Nat} {vo vp:Nat→Value} {vb:Value} {bv:Nat→Value} {t:Nat}
theorem um (h:DR L S Y w bZ vo vp vb bv) (ht:t<L.n) (hp:(Y.th t).part=2) (hf:(Y.th t).aO≤1000000000) :
  Calls prog 87 #[.pointer (some ⟨L.b,0,none⟩),.int .i64 (t:Int)] w fun e w'=>e = .returned (.int .i64 1)∧eO L S w (Y.set t (bJ.enter L.n {Y.th t with aO:=(Y.th t).aO+1,tries:=1} 3)) w':=by
 obtain ⟨⟨a,c,rfl⟩,hm⟩:=bM h.TL;have hmx:maxLen=9223372036854775807:=rfl;have c7:w.cell? ⟨L.b,7,none⟩=some (.slice (some ⟨L.g,0,none⟩) L.n L.gc):=h.dV rfl;have c8:w.cell? ⟨L.b,8,none⟩=some (.slice a Y.bs.length c):=h.dV rfl;have cp:=h.ptr t ht;have mP:(0:Int)≤(t:Int):=by omega
 have fM:(t:Int)<(L.n:Int):=by omega
 have t3:w.cell? ⟨L.bT t,3,none⟩=some (.int .i64 ((Y.th t).part:Int)):=h.dR ht rfl;have t7:w.cell? ⟨L.bT t,7,none⟩=some (.int .i64 ((Y.th t).stamp:Int)):=h.dR ht rfl;rw [hp] at t3;have t2:w.cell? ⟨L.bT t,2,none⟩=some (.int .i64 ((Y.th t).aO:Int)):=h.dR ht rfl;have t6:w.cell? ⟨L.bT t,6,none⟩=some (.int .i64 ((Y.th t).tries:Int)):=h.dR ht rfl;have f2:=(h.th t ht).frozen 2;have f6:=(h.th t ht).frozen 6;have HP:=aA (fun k=>(show dA L S (Y.set t {Y.th t with aO:=(Y.th t).aO+1,tries:=1}) bZ vo vp _ bv w (((w.drewN k).setCell ⟨L.bT t,2,none⟩ (.int .i64 (((Y.th t).aO+1:Nat):Int))).setCell ⟨L.bT t,6,none⟩ (.int .i64 ((1:Nat):Int))) from by
  have q1:=(h.drewN k).put ht 2 (.int .i64 (((Y.th t).aO+1:Nat):Int)) (x':={Y.th t with aO:=(Y.th t).aO+1}) rfl rfl rfl rfl;have q2:=q1.dr.put ht 6 (.int .i64 ((1:Nat):Int)) (x':={Y.th t with aO:=(Y.th t).aO+1,tries:=1}) (by rw [cD];rfl) (by rw [cD]) (by rw [cD]) (by rw [cD]);exact (dA.refl h k).next (q1.next (q2.cast (set_set _ _ _ _)))))
 have HW:=aA (show (((Y.th t).aO+1:Nat):Int)=((Y.th t).aO:Int)+1 by push_cast;rfl);rw [HW.out] at HP;clear h;go_enter func87,ntmps87;go_upto_region 2 with fail;go_quiet (fail);go_wp2_with fail;have hq:=HP.out nq;refine (nE hq.dr ht 3 (by decide) (by decide) (fun h=>absurd h (by decide))).mono ?_;rintro e w3 ⟨rfl,h3⟩;have H4:=aA (hq.next (h3.cast (by rw [cD,set_set])));clear h3 hq;go_wp2_with fail;go_ret;exact ⟨rfl,H4.out.left⟩
theorem uo (h:DR L S Y w bZ vo vp vb bv) (ht:t<L.n) (hp:(Y.th t).part=4) :
  Calls prog 87 #[.pointer (some ⟨L.b,0,none⟩),.int .i64 (t:Int)] w fun e w'=>e = .returned (.int .i64 1)∧eO L S w (Y.set t (bJ.enter L.n {Y.th t with stamp:=Y.bs.length} 5)) w':=by
 obtain ⟨⟨a,c,rfl⟩,hm⟩:=bM h.TL;have hmx:maxLen=9223372036854775807:=rfl;have c7:w.cell? ⟨L.b,7,none⟩=some (.slice (some ⟨L.g,0,none⟩) L.n L.gc):=h.dV rfl;have c8:w.cell? ⟨L.b,8,none⟩=some (.slice a Y.bs.length c):=h.dV rfl;have cp:=h.ptr t ht;have mP:(0:Int)≤(t:Int):=by omega
 have fM:(t:Int)<(L.n:Int):=by omega
 have t3:w.cell? ⟨L.bT t,3,none⟩=some (.int .i64 ((Y.th t).part:Int)):=h.dR ht rfl;have t7:w.cell? ⟨L.bT t,7,none⟩=some (.int .i64 ((Y.th t).stamp:Int)):=h.dR ht rfl;rw [hp] at t3;have f7:=(h.th t ht).frozen 7;have HP:=aA (fun k=>(show dA L S (Y.set t {Y.th t with stamp:=Y.bs.length}) bZ vo vp _ bv w ((w.drewN k).setCell ⟨L.bT t,7,none⟩ (.int .i64 (Y.bs.length:Int))) from
  (dA.refl h k).next ((h.drewN k).put ht 7 (.int .i64 (Y.bs.length:Int)) (x':={Y.th t with stamp:=Y.bs.length}) rfl rfl rfl rfl)))
 clear h;go_enter func87,ntmps87;go_upto_region 2 with fail;go_quiet (fail);go_wp2_with fail;have hq:=HP.out nq;refine (nE hq.dr ht 5 (by decide) (by decide) (fun h=>absurd h (by decide))).mono ?_;rintro e w3 ⟨rfl,h3⟩;have H4:=aA (hq.next (h3.cast (by rw [cD,set_set])));clear h3 hq;go_wp2_with fail;go_ret;exact ⟨rfl,H4.out.left⟩
theorem gj (h:DR L S Y w bZ vo vp vb bv) (ht:t<L.n) (hp:(Y.th t).part=11) (hf:(Y.th t).ended≤1000000000) :
  Calls prog 87 #[.pointer (some ⟨L.b,0,none⟩),.int .i64 (t:Int)] w fun e w'=>e = .returned (.int .i64 2)∧eO L S w (Y.set t {Y.th t with part:=0,ended:=(Y.th t).ended+1}) w':=by
 obtain ⟨⟨a,c,rfl⟩,hm⟩:=bM h.TL;have hmx:maxLen=9223372036854775807:=rfl;have c7:w.cell? ⟨L.b,7,none⟩=some (.slice (some ⟨L.g,0,none⟩) L.n L.gc):=h.dV rfl;have c8:w.cell? ⟨L.b,8,none⟩=some (.slice a Y.bs.length c):=h.dV rfl;have cp:=h.ptr t ht;have mP:(0:Int)≤(t:Int):=by omega
 have fM:(t:Int)<(L.n:Int):=by omega
 have t3:w.cell? ⟨L.bT t,3,none⟩=some (.int .i64 ((Y.th t).part:Int)):=h.dR ht rfl;have t7:w.cell? ⟨L.bT t,7,none⟩=some (.int .i64 ((Y.th t).stamp:Int)):=h.dR ht rfl;rw [hp] at t3;have t1:w.cell? ⟨L.bT t,1,none⟩=some (.int .i64 ((Y.th t).ended:Int)):=h.dR ht rfl;have f1:=(h.th t ht).frozen 1;have f3:=(h.th t ht).frozen 3;have HP:=aA (fun k=>(show dA L S (Y.set t {Y.th t with part:=0,ended:=(Y.th t).ended+1}) bZ vo vp _ bv w (((w.drewN k).setCell ⟨L.bT t,3,none⟩ (.int .i64 ((0:Nat):Int))).setCell ⟨L.bT t,1,none⟩ (.int .i64 (((Y.th t).ended+1:Nat):Int))) from by
  have q1:=(h.drewN k).put ht 3 (.int .i64 ((0:Nat):Int)) (x':={Y.th t with part:=0}) rfl rfl rfl rfl;have q2:=q1.dr.put ht 1 (.int .i64 (((Y.th t).ended+1:Nat):Int)) (x':={Y.th t with part:=0,ended:=(Y.th t).ended+1}) (by rw [cD];rfl) (by rw [cD]) (by rw [cD]) (by rw [cD]);exact (dA.refl h k).next (q1.next (q2.cast (set_set _ _ _ _)))))
 have HW:=aA (show (((Y.th t).ended+1:Nat):Int)=((Y.th t).ended:Int)+1 by push_cast;rfl);rw [HW.out] at HP;clear h;go_enter func87,ntmps87;go_upto_region 2 with fail;go_quiet (fail);go_wp2_with fail;go_ret;exact ⟨rfl,(HP.out nq).left⟩
theorem mT (h:DR L S Y w bZ vo vp vb bv) (ht:t<L.n) (p:Nat) (hp:(Y.th t).part=p) (hc:p=1∨p=3∨p=5∨p=6∨p=8∨p=9) (hl:p=8∨p=9→(Y.th t).aK.length≤64) :
  Calls prog 87 #[.pointer (some ⟨L.b,0,none⟩),.int .i64 (t:Int)] w fun e w'=>e = .returned (.int .i64 1)∧eO L S w (Y.set t ((Y.th t).enter L.n (p+1))) w':=by
 obtain ⟨⟨a,c,rfl⟩,hm⟩:=bM h.TL;have hmx:maxLen=9223372036854775807:=rfl;have c7:w.cell? ⟨L.b,7,none⟩=some (.slice (some ⟨L.g,0,none⟩) L.n L.gc):=h.dV rfl;have c8:w.cell? ⟨L.b,8,none⟩=some (.slice a Y.bs.length c):=h.dV rfl;have cp:=h.ptr t ht;have mP:(0:Int)≤(t:Int):=by omega
 have fM:(t:Int)<(L.n:Int):=by omega
 have t3:w.cell? ⟨L.bT t,3,none⟩=some (.int .i64 ((Y.th t).part:Int)):=h.dR ht rfl;have t7:w.cell? ⟨L.bT t,7,none⟩=some (.int .i64 ((Y.th t).stamp:Int)):=h.dR ht rfl;rw [hp] at t3;have HP:=aA (fun k=>(h.drewN k));have HE:=aA (fun k=>(nE (h.drewN k) ht (p+1) (by omega) (by omega) (fun _ _=>hl (by omega))));have HR:=aA (fun k=>dA.refl h k);clear h hl
 rcases hc with rfl|rfl|rfl|rfl|rfl|rfl
 all_goals
  go_enter func87,ntmps87;go_upto_region 2 with fail;go_quiet (fail);go_wp2_with fail;refine (HE.out nq).mono ?_;rintro e w3 ⟨rfl,h3⟩;have H4:=aA ((HR.out nq).next h3);clear h3;go_wp2_with fail;go_ret;exact ⟨rfl,H4.out.left⟩
end
theorem aMR {α:Type} (f:Nat→α) (t:Nat) (a b:α):aM (aM f t a) t b=aM f t b:=by funext k;unfold aM;split<;>rfl
theorem aBf:(prog.info? 22).map (fun i=>(i.zero,i.size,i.bytes))=some (some (.slice none 0 0),1,24):=by kernel_rfl
section
variable {L:DL} {S:Nat→Prop} {Y:aR} {w:World} {bZ:Nat→Nat} {vo vp:Nat→Value} {vb:Value} {bv:Nat→Value} {t:Nat}
theorem DR.pub (h:DR L S Y w bZ vo vp vb bv) (ht:t<L.n) {w2 w4:World} (hb:Below w.heap.size w w2) (dP:w2.grownBy w4 vb.ownBlock) {g c:Nat} (hg:vb.ownBlock=some g∨g=w2.heap.size)
  (hown:w4.ownsRow 0 22 1 (.slice (some ⟨g,0,none⟩) (Y.bs.length+1) c) (Y.bs.length+1) ((List.range Y.bs.length).map bv++[vp t])) (hg4:g<w4.heap.size) {x':bJ} {w5:World}
  (h5:w5=((w4.setCell ⟨L.b,8,none⟩ (.slice (some ⟨g,0,none⟩) (Y.bs.length+1) c)).setCell ⟨L.bT t,9,none⟩ (.slice none 0 0)).setCell ⟨L.bT t,5,none⟩ (.int .i64 (x'.aG:Int)))
  (hx:x' = {Y.th t with aK:=[],aG:=x'.aG}):eO L S w ⟨aM Y.th t x',Y.bs++[(Y.th t).aK]⟩ w5:=by
 have qb:=h.PV;have qt:=h.PW t ht;have hz:=hb.size;have hlb:=h.lt _ qb.1;have hlt:=h.lt _ qt.1;have hvb:∀ k,vb.ownBlock=some k→k<w.heap.size:=fun k e=>h.lt k (h.CA k e).1
 have hne:=h.ne ht
 -- blocks that were not touched
 have old:∀ k,k<w.heap.size→k≠L.b→k≠L.bT t→vb.ownBlock≠some k→w5.heap[k]?=w.heap[k]?:=fun k hk h1 h2 h3=>by
  rw [h5,cZ _ _ _ k h2,cZ _ _ _ k h2,cZ _ _ _ k h1,dP.block k (by omega) (fun e=>h3 e.symm)];exact hb.block k hk
 have keep:∀ k,S k→bZ k≠0→bZ k≠2→bZ k≠4*t+4→w5.heap[k]?=w.heap[k]?:=fun k hS h0 h2 h4=>old k (h.lt k hS) (fun e=>h0 (by rw [e];exact qb.2)) (fun e=>h4 (by rw [e];exact qt.2)) (fun e=>h2 (h.CA k e).2)
 have r4b:Row w4 L.b 105 (dob L vb):=h.obj.of_block ((dP.block _ (by omega) (fun e=>by have:=(h.CA _ e.symm).2;rw [qb.2] at this;omega)).trans (hb.block _ hlb));have r4t:Row w4 (L.bT t) 109 (QJ (Y.th t) (L.bF t) L.n (vo t) (vp t)):=(h.th t ht).of_block ((dP.block _ (by omega) (fun e=>by have:=(h.CA _ e.symm).2;rw [qt.2] at this;omega)).trans (hb.block _ hlt));have r5b:Row w5 L.b 105 (dob L (.slice (some ⟨g,0,none⟩) (Y.bs.length+1) c)):=by
  rw [h5];exact ((r4b.set 8 _).setOther (by simpa using hne) _).setOther (by simpa using hne) _
 have r5t:Row w5 (L.bT t) 109 (QJ x' (L.bF t) L.n (vo t) (.slice none 0 0)):=by
  rw [h5];have:=((r4t.setOther (a:=⟨L.b,8,none⟩) (by simpa using hne.symm) (.slice (some ⟨g,0,none⟩) (Y.bs.length+1) c)).set 9 (.slice none 0 0)).set 5 (.int .i64 (x'.aG:Int));rw [hx];exact this
 have DU:g≠L.b∧g≠L.bT t:=by
  rcases hg with e|e
  ·have:=(h.CA g e).2
   exact ⟨fun q=>by rw [q,qb.2] at this;omega,fun q=>by rw [q,qt.2] at this;omega⟩
  ·exact ⟨by omega,by omega⟩
 have aAY:w5.ownsRow 0 22 1 (.slice (some ⟨g,0,none⟩) (Y.bs.length+1) c) (Y.bs.length+1) ((List.range Y.bs.length).map bv++[vp t]):=by
  rw [h5];refine aZ hown fun k e=>?_
  have e:g=k:=by simpa [Value.ownBlock] using e
  subst e;rw [cZ _ _ _ g DU.2,cZ _ _ _ g DU.2,cZ _ _ _ g DU.1]
 have hz5:w5.heap.size=w4.heap.size:=by rw [h5];simp [World.setCell]
 have hS:∀ k,S k→Grow S w w5 k∧OJ bZ w 2 k=bZ k:=fun k hS=>⟨.inl hS,uW (h.lt k hS)⟩
 have hmap:(List.range (Y.bs++[(Y.th t).aK]).length).map (aM bv Y.bs.length (vp t))=(List.range Y.bs.length).map bv++[vp t]:=by
  rw [eD,JA,pR,List.map_append,List.map_singleton,aC];congr 1;exact List.map_congr_left fun k hk=>aD _ _ (by have:=List.mem_range.1 hk;omega)
 refine ⟨⟨OJ bZ w 2,aM vo t (vo t),aM vp t (.slice none 0 0),.slice (some ⟨g,0,none⟩) (Y.bs.length+1) c,aM bv Y.bs.length (vp t),?_⟩,?_⟩
 ·refine DR.move h ht (fun k hS h0 h2 h4 _ _=>keep k hS h0 h2 h4) hS (fun k hk=>?_) r5b r5t ?_ ?_ (fun k e=>⟨(hS k (h.BB t ht k e).1).1,(hS k (h.BB t ht k e).1).2.trans (h.BB t ht k e).2⟩) ?_ ?_ ?_ ?_ ?_ ?_
  ·rcases hk with hk|hk
   ·have:=h.lt k hk;have:=dP.size;omega
   ·exact hk.2
  ·rw [show x'.flipped=(Y.th t).flipped by rw [hx]]
   exact (h.fl t ht).of_block (keep _ (h.PT t ht).1 (by rw [(h.PT t ht).2];omega) (by rw [(h.PT t ht).2];omega) (by rw [(h.PT t ht).2];omega))
  ·rw [show x'.ops=(Y.th t).ops by rw [hx]]
   exact aZ (h.ops t ht) fun k e=>keep k (h.BB t ht k e).1 (by rw [(h.BB t ht k e).2];omega) (by rw [(h.BB t ht k e).2];omega) (by rw [(h.BB t ht k e).2];omega)
  ·rw [hmap,eD,JA]
   exact aAY
  ·intro k e
   have e:g=k:=by simpa [Value.ownBlock] using e
   subst e
   rcases hg with q|q
   ·exact ⟨.inl (h.CA g q).1,(uW (h.lt g (h.CA g q).1)).trans (h.CA g q).2⟩
   ·exact ⟨.inr ⟨by omega,by omega⟩,OK (by omega)⟩
  ·intro i hi
   by_cases e:i=Y.bs.length
   ·subst e
    rw [aC,List.getElem_append_right (bQ _)];simp only [Nat.sub_self,List.getElem_cons_zero];exact (h.MP t ht).of_block fun k e=>keep k (h.JV t ht k e).1 (by rw [(h.JV t ht k e).2];omega) (by rw [(h.JV t ht k e).2];omega) (by rw [(h.JV t ht k e).2];omega)
   ·have hi':i<Y.bs.length:=by simp at hi;omega
    rw [aD _ _ e,List.getElem_append_left hi'];exact (h.ez i hi').of_block fun k e=>keep k (h.FB i hi' k e).1 (by rw [(h.FB i hi' k e).2];omega) (by rw [(h.FB i hi' k e).2];omega) (by rw [(h.FB i hi' k e).2];omega)
  ·intro i hi k e
   by_cases q:i=Y.bs.length
   ·subst q
    rw [aC] at e;exact ⟨.inl (h.JV t ht k e).1,(uW (h.lt k (h.JV t ht k e).1)).trans (h.JV t ht k e).2⟩
   ·have hi':i<Y.bs.length:=by simp at hi;omega
    rw [aD _ _ q] at e;exact ⟨.inl (h.FB i hi' k e).1,(uW (h.lt k (h.FB i hi' k e).1)).trans (h.FB i hi' k e).2⟩
  ·rw [show x'.aK=[] by rw [hx]]
   exact bx.nil _
  ·intro k e;simp [Value.ownBlock] at e
 ·refine ⟨?_,?_,?_,?_,?_⟩
  ·rw [h5];exact dP.os.trans hb.os
  ·rw [h5];exact dP.tape.trans hb.tape
  ·rw [h5];exact dP.output.trans hb.output
  ·have:=dP.size;omega
  ·intro k hk hS
   exact old k hk (fun e=>hS (e▸qb.1)) (fun e=>hS (e▸qt.1)) (fun e=>hS (h.CA k e).1)
theorem aBk {w w4:World} {row:Option Nat} {E N i j:Nat} {q:Value} (hg:w.grownBy w4 row) (h:w.cell? ⟨N,i,none⟩=some q∧w.there E j 1) (hE:some E≠row) (hN:some N≠row) :
  w4.cell? ⟨N,i,none⟩=some q∧w4.there E j 1:=by
 refine ⟨hg.cell h.1 hN,fun k hk=>?_⟩;obtain ⟨h1,h2⟩:=h.2 k hk;obtain ⟨u,hu⟩:=pQ.1 h1;have hlt:=mX w _ hu;rw [hg.cell_far ⟨E,j+k,none⟩ hlt hE,hg.frozen_far ⟨E,j+k,none⟩ hlt hE];exact ⟨h1,h2⟩
theorem eO.widen {Y':aR} {w':World} {S':Nat→Prop} (h:eO L S w Y' w') (hS:∀ k,S k→S' k) (hlt:∀ k,S' k→k<w.heap.size):eO L S' w Y' w' :=
 ⟨h.doc.stay (fun _ _=>rfl) (fun k hk=>by rcases hk with hk|hk;exact .inl (hS k hk);exact .inr hk) (fun k hk=>by
  rcases hk with hk|hk
  ·exact cH (hlt k hk) h.fr.size
  ·exact hk.2),⟨h.fr.os,h.fr.tape,h.fr.output,h.fr.size,fun k hk hn=>h.fr.block k hk fun c=>hn (hS k c)⟩⟩
theorem dA.then {Y' NF:aR} {w1 w2:World} (h:dA L S Y' bZ vo vp vb bv w w1) (h':eO L S w1 NF w2):eO L S w NF w2 :=
 eO.next h.left (h'.widen (fun _=>.inl) fun k hk=>by
  rcases hk with hk|hk
  ·exact h.dr.lt k hk
  ·exact hk.2)
end
section
variable {L:DL} {S:Nat→Prop} {Y:aR} {w:World} {bZ:Nat→Nat} {vo vp:Nat→Value} {vb:Value} {bv:Nat→Value} {t:Nat}
theorem CkI.left {w':World} {l:List Nat} {v:Value} (q:CkI L t (Y.th t) vo w w' l v) (h:DR L S Y w bZ vo vp vb bv) (ht:t<L.n):eO L S w (Y.set t {Y.th t with aK:=l}) w' :=
 ⟨⟨_,_,_,_,_,q.dr h ht rfl rfl⟩,⟨q.fr.os,q.fr.tape,q.fr.output,q.fr.size,fun k hk hS=>q.fr.block k hk fun e=>hS (by rw [show k=L.bT t from e];exact (h.PW t ht).1)⟩⟩
theorem FQ (h:DR L S Y w bZ vo vp vb bv) (ht:t<L.n) (p:Nat) (hp:(Y.th t).part=p) (RS:p=7∨p=10) (hne:Y.bs.length≠(Y.th t).stamp) (hb:(Y.th t).aG≤L.cap) :
  Calls prog 87 #[.pointer (some ⟨L.b,0,none⟩),.int .i64 (t:Int)] w fun e w'=>e = .returned (.int .i64 1)∧eO L S w (Y.set t ((Y.th t).fail L.n L.cap)) w':=by
 obtain ⟨⟨a,c,ev⟩,hm⟩:=bM h.TL;have hmx:maxLen=9223372036854775807:=rfl;have c7:w.cell? ⟨L.b,7,none⟩=some (.slice (some ⟨L.g,0,none⟩) L.n L.gc):=h.dV rfl;have c8:w.cell? ⟨L.b,8,none⟩=some (.slice a Y.bs.length c):=by have:w.cell? ⟨L.b,8,none⟩=some vb:=h.dV rfl;rw [ev] at this;exact this
 have cp:=h.ptr t ht;have mP:(0:Int)≤(t:Int):=by omega
 have fM:(t:Int)<(L.n:Int):=by omega
 have t3:w.cell? ⟨L.bT t,3,none⟩=some (.int .i64 ((Y.th t).part:Int)):=h.dR ht rfl;have t7:w.cell? ⟨L.bT t,7,none⟩=some (.int .i64 ((Y.th t).stamp:Int)):=h.dR ht rfl;rw [hp] at t3;have hs:((Y.bs.length:Int) == ((Y.th t).stamp:Int))=false:=by simp;omega
 have HE:=aA (fun k=>aCK (h.drewN k) ht hb);have HR:=aA (fun k=>dA.refl h k);clear h hb hne ev
 rcases RS with rfl|rfl
 all_goals
  go_enter func87,ntmps87;go_upto_region 2 with fail;go_quiet (fail);go_wp2_with fail;refine (HE.out nq).mono ?_;rintro e w3 ⟨rfl,h3⟩;have H4:=aA ((HR.out nq).next h3);clear h3;go_wp2_with fail;go_ret;exact ⟨rfl,H4.out.left⟩
theorem uq (h:DR L S Y w bZ vo vp vb bv) (ht:t<L.n) (hp:(Y.th t).part=7) (hst:Y.bs.length=(Y.th t).stamp) (hc:∀ k,k<L.n→cnt Y.bs k≤1000000000∧(Y.th t).flipped k≤1000000000) :
  Calls prog 87 #[.pointer (some ⟨L.b,0,none⟩),.int .i64 (t:Int)] w fun e w'=>e = .returned (.int .i64 1)∧eO L S w (Y.set t (bJ.enter L.n {Y.th t with aK:=Y.pending L.n (Y.th t)} (if t∈Y.pending L.n (Y.th t) then 8 else 11))) w':=by
 obtain ⟨⟨a,c,ev⟩,hm⟩:=bM h.TL;have hmx:maxLen=9223372036854775807:=rfl;have c7:w.cell? ⟨L.b,7,none⟩=some (.slice (some ⟨L.g,0,none⟩) L.n L.gc):=h.dV rfl;have c8:w.cell? ⟨L.b,8,none⟩=some (.slice a Y.bs.length c):=by have:w.cell? ⟨L.b,8,none⟩=some vb:=h.dV rfl;rw [ev] at this;exact this
 have cp:=h.ptr t ht;have mP:(0:Int)≤(t:Int):=by omega
 have fM:(t:Int)<(L.n:Int):=by omega
 have t3:w.cell? ⟨L.bT t,3,none⟩=some (.int .i64 ((Y.th t).part:Int)):=h.dR ht rfl;have t7:w.cell? ⟨L.bT t,7,none⟩=some (.int .i64 ((Y.th t).stamp:Int)):=h.dR ht rfl;rw [hp] at t3;have hs:((Y.bs.length:Int) == ((Y.th t).stamp:Int))=true:=by simp [hst]
 have HE:=aA (fun k=>aAt (h.drewN k) ht hc);have HH:=aA (fun k=>h.drewN k);have HN:=aA (bK (M.KW L.n Y (Y.th t)) h.n64);have HR:=aA (fun k=>dA.refl h k);have yg:=aA h.lt;clear h hst ev;go_enter func87,ntmps87;go_upto_region 2 with fail;go_quiet (fail);go_wp2_with fail;refine (HE.out nq).mono ?_;rintro e w3 ⟨rfl,v,hI⟩;have hD:=hI.dr (HH.out nq) ht rfl rfl;have HL:=aA (eO.next (HR.out nq).left (show eO L (Grow S w (w.drewN nq)) (w.drewN nq) _ w3 from
  CkI.left hI ((HH.out nq).stay (fun _ _=>rfl) (fun _=>.inl) (fun k hk=>by
   rcases hk with hk|hk
   ·exact yg.out k hk
   ·exact hk.2)) ht))
 have HD:=aA hD;clear hI hD HE;have d3:w3.cell? ⟨L.bT t,3,none⟩=some (.int .i64 7):=by have:=HD.out.dR ht (j:=3) rfl;rw [cD] at this;rw [this,hp];rfl
 clear hp
 by_cases hmem:t∈Y.pending L.n (Y.th t)
 ·rw [show decide (t∈Y.pending L.n (Y.th t))=true from kE hmem]
  go_wp2_with fail;refine (nE HD.out ht 8 (by decide) (by decide) (fun _ _=>by rw [cD];exact HN.out)).mono ?_;rintro e w4 ⟨rfl,h4⟩;have H4:=aA (h4.cast (by rw [cD,set_set]));clear h4;go_wp2_with fail;go_ret;refine ⟨rfl,?_⟩;exact HL.out.next H4.out.left
 ·rw [show decide (t∈Y.pending L.n (Y.th t))=false from decide_eq_false hmem]
  go_wp2_with fail;refine (nE HD.out ht 11 (by decide) (by decide) (fun _ h=>absurd h (by decide))).mono ?_;rintro e w4 ⟨rfl,h4⟩;have H4:=aA (h4.cast (by rw [cD,set_set]));clear h4;go_wp2_with fail;go_ret;refine ⟨rfl,?_⟩;exact HL.out.next H4.out.left
theorem gi (h:DR L S Y w bZ vo vp vb bv) (ht:t<L.n) (hp:(Y.th t).part=10) (hst:Y.bs.length=(Y.th t).stamp) (hN:Y.bs.length≤1000000000) (hb:(Y.th t).aG≤L.cap) :
  Calls prog 87 #[.pointer (some ⟨L.b,0,none⟩),.int .i64 (t:Int)] w fun e w'=>e = .returned (.int .i64 1)∧eO L S w ⟨aM Y.th t (bJ.enter L.n {Y.th t with aK:=[],aG:=(Y.th t).aG / 2} 11),Y.bs++[(Y.th t).aK]⟩ w':=by
 obtain ⟨si,hsi,hsz⟩:=eZ.1 aBf;simp only [fW] at hsz;obtain ⟨hs1,hs2,hs3⟩:=hsz;have HSI:=aA hsi;have zy:=aA hs1;have HS2:=aA hs2;have HS3:=aA hs3;clear hsi hs1 hs2 hs3;obtain ⟨⟨a,c,ev⟩,hm⟩:=bM h.TL;have hmx:maxLen=9223372036854775807:=rfl;have c7:w.cell? ⟨L.b,7,none⟩=some (.slice (some ⟨L.g,0,none⟩) L.n L.gc):=h.dV rfl;have c8:w.cell? ⟨L.b,8,none⟩=some (.slice a Y.bs.length c):=by have:w.cell? ⟨L.b,8,none⟩=some vb:=h.dV rfl;rw [ev] at this;exact this
 have cp:=h.ptr t ht;have mP:(0:Int)≤(t:Int):=by omega
 have fM:(t:Int)<(L.n:Int):=by omega
 have t3:w.cell? ⟨L.bT t,3,none⟩=some (.int .i64 ((Y.th t).part:Int)):=h.dR ht rfl;have t7:w.cell? ⟨L.bT t,7,none⟩=some (.int .i64 ((Y.th t).stamp:Int)):=h.dR ht rfl;rw [hp] at t3;have hs:((Y.bs.length:Int) == ((Y.th t).stamp:Int))=true:=by simp [hst]
 have hcap:=h.RK;have HH:=aA h;have HEV:=aA ev;have HHP:=aA hp;clear h hst ev hp;go_enter func87,ntmps87;go_upto_region 2 with fail;go_quiet (fail);generalize pT:w.drewN nq=W0 at *;have q0:DR L S Y W0 bZ vo vp vb bv:=by rw [←pT];exact HH.out.drewN nq
 have HQ:=aA q0;have hR0:=aA (show dA L S Y bZ vo vp vb bv w W0 by rw [←pT];exact dA.refl HH.out nq);have u3:W0.cell? ⟨L.bT t,3,none⟩=some (.int .i64 10):=by rw [←pT];exact t3
 have cv:W0.cell? ⟨L.b,8,none⟩=some vb:=q0.dV rfl;have c9:W0.cell? ⟨L.bT t,9,none⟩=some (vp t):=q0.dR ht rfl;have FC:W0.there L.b 8 1:=q0.obj.there (by simp [dob,XI]);have aAX:some (L.bT t)≠vb.ownBlock:=fun e=>by have h1:=(q0.CA _ e.symm).2;have h2:=(q0.PW t ht).2;rw [h2] at h1;omega
 have gz:some L.b≠vb.ownBlock:=fun e=>by have h1:=(q0.CA _ e.symm).2;have h2:=q0.PV.2;rw [h2] at h1;omega
 have hbt:=q0.ne ht;obtain ⟨pa,pc,ep⟩:=(q0.MP t ht).form;have HEP:=aA ep;have zk:=aA cv;have hsz:(prog.info? 58).map (·.size)=some 1:=by kernel_rfl
 clear q0 cv ep pT c7 c8 cp t3 t7;go_upto_region 21 with fail;rw [HEP.out] at c9;refine fH (S:=(fun w'=>w'.cell? ⟨L.bT t,9,none⟩=some (.slice pa (Y.th t).aK.length pc)∧w'.there L.b 8 1)) 14 rfl (by kernel_rfl) ?_ (fun hHeld=>?_)
 ·exact ⟨c9,FC⟩
 repeat' first
  |(
   (first|refine ZY [4,9,10,13] 13 (by rfl) (by decide +kernel) ?_|refine ZY [4,9,10,13] 14 (by rfl) (by decide +kernel) ?_)
   refine ⟨_,by exact fun _ _ _ h=>h,.inl ⟨by rfl,fun w hS=>by (try dsimp only at hS);go_simp;(try with_reducible rfl)⟩,by assumption,?_⟩
   (try go_frame)
   )
  |(
   (first|refine pF 9 (by rfl) (by decide +kernel) (fun K hK PY=>?_)|refine pF 10 (by rfl) (by decide +kernel) (fun K hK PY=>?_)|refine pF 13 (by rfl) (by decide +kernel) (fun K hK PY=>?_)|refine pF 4 (by rfl) (by decide +kernel) (fun K hK PY=>?_)|refine fC (rs:=[4,9]) (by decide +kernel) (by simp) (JF (by rfl) (fun K hK PY=>?_) (JF (by rfl) (fun K hK PY=>?_) AllReadyH.nil)))
   all_goals first
    |(
     have _:On 4:=PY;rw [aJ (by rfl)];refine jG _ _ rfl _ _ vb rfl (by kernel_rfl) (by refine aI ?_ zk.out;repeat (first|exact aT _ _|refine dU ?_|refine cI ?_ (by first|(simp;done)|(simp;omega)) _)) ?_;refine hK.out _ _ ?_ (fun hHeld=>?_)
     ·exact hHeld
     clear hK K PY
     (try go_frame)
     )
    |(
     have _:On 9:=PY;go_simp;refine hK.out _ _ ?_ (fun hHeld=>?_)
     ·exact ⟨aI (aB _ _) hHeld.1,BJ hHeld.2 _⟩
     clear hK K PY
     (try go_frame)
     )
    |(
     have _:On 10:=PY;refine yE _ rfl (.tmp 77) (.tmp 82) 58 rfl 0 22 si (.slice none 0 0) 1 24 underlying58 HSI.out zy.out HS2.out HS3.out rfl (by decide) vb Y.bs.length ((List.range Y.bs.length).map bv) rfl ?_ ⟨W0.heap.size,0,none⟩ 1 1 [.slice pa (Y.th t).aK.length pc] rfl rfl ?_ (by simp [Value.oneCell']) (by decide) (by unfold maxLen;omega) (by omega) (aW _) _ rfl ?_
     ·exact HQ.out.TL.alloc _
     ·exact jH (aV (by simp))
     intro g gc w4 hown dP hat oQ;have HO:=aA hown;have HG:=aA dP;have HA:=aA hat;have hl4:=oQ;clear hown dP hat oQ;refine hK.out _ _ ?_ (fun hHeld=>?_)
     ·exact aBk HG.out hHeld gz aAX
     clear hK K PY
     (try go_frame)
     )
    |(
     rw [aJ (by rfl)];refine aY _ _ _ rfl L.b 8 (.slice (some ⟨g,0,none⟩) (Y.bs.length+1) gc) rfl rfl rfl rfl hHeld.2 hsz ?_;refine hK.out _ _ ?_ (fun hHeld=>?_)
     ·exact ⟨(IY _ _ _ _ (by simp;omega)).trans hHeld.1,bA hHeld.2 _ rfl _⟩
     clear hK K PY
     (try go_frame)
     )
   )
  |(
   refine cC (by decide +kernel) ?_ _;have KP:Row w4 (L.bT t) 109 (QJ (Y.th t) (L.bF t) L.n (vo t) (vp t)):=(HQ.out.th t ht).of_block ((HG.out.block _ (by simp;exact Nat.lt_succ_of_lt (HQ.out.th t ht).lt) aAX).trans ((aB _ _).block _ (HQ.out.th t ht).lt));have GD:=KP.setOther (a:=⟨L.b,8,none⟩) (by simpa using hbt.symm) (.slice (some ⟨g,0,none⟩) (Y.bs.length+1) gc);have HR5:=aA GD;have x9:=GD.cell_of (i:=9) rfl;have x5:_=some (Value.int .i64 ((Y.th t).aG:Int)):=GD.cell_of (i:=5) rfl;have x3:_=some (Value.int .i64 ((Y.th t).part:Int)):=GD.cell_of (i:=3) rfl;have y9:=GD.frozen 9;have y5:=GD.frozen 5;rw [HHP.out] at x3;have aG5:=aA (DR.pub HQ.out ht (w2:=_) (dU (aB _ _)) HG.out HA.out (by rw [HEP.out];exact HO.out) hl4 (x':={Y.th t with aK:=[],aG:=(Y.th t).aG / 2}) rfl rfl);clear KP GD hHeld HG HA HO;generalize World.setCell w4 ⟨L.b,8,none⟩ (.slice (some ⟨g,0,none⟩) (Y.bs.length+1) gc)=W5 at *;obtain ⟨AG,PN,vp',vb',bv',hD⟩:=aG5.out.doc;have HD:=aA hD;clear hD;go_wp2_with fail;refine (nE HD.out ht 11 (by decide) (by decide) (fun _ h=>absurd h (by decide))).mono ?_;rintro e w6 ⟨rfl,h6⟩;have H6:=aA (hR0.out.then (aG5.out.next h6.left));clear h6;go_wp2_with fail;go_ret;refine ⟨rfl,H6.out.cast ?_⟩;simp [M.aR.set,aC,aMR]
   )
end
end Go.Proofs.YtefjhnhdagolhaaGreat
