import Derived.Test.YtefjhnhdagolhaaGreatA18
import Derived.Test.YtefjhnhdagolhaaGreatA16
set_option maxHeartbeats 2000000
set_option maxRecDepth 20000
namespace Go.Proofs.YtefjhnhdagolhaaGreat
open Tryz
open Go.RowKit
open M (aM aC aD aR bJ cnt marks tagged num)
attribute [local go_sem ↓] Go.wp_at_zero Go.wp_at_succ
def yH (L:DL) (vh:Value):List Value:=[.int .i64 L.kind,.int .i64 L.st,.int .i64 L.co,L.vn,L.vo,vh]
structure qi {σ:Type} (L:DL) (P:M.Plain σ) (tell:σ→List Int) (sz:σ→Nat) (HM:World→Value→σ→Prop) (Au:Nat→World→Prop):Prop where
 stay:∀ w w' v s,HM w v s→(∀ k,v.ownBlock=some k→w'.heap[k]?=w.heap[k]?)→HM w' v s
 lt:∀ w v s,HM w v s→∀ k,v.ownBlock=some k→k<w.heap.size
 form:∀ w v s,HM w v s→∃ a l c,v = .slice a l c
 au:∀ B w w',Au B w→(∀ k,k<B→w'.heap[k]?=w.heap[k]?)→Au B w'
 sz0:sz P.first≤2
 LA:∀ s op,sz (P.apply s op).1≤sz s+2
 first:∀ w,Calls prog 113 #[.agg (XI L.kind L.n L.cap L.st L.co L.vn L.vo).toArray] w fun e w'=>∃ vh,e = .returned (.agg (yH L vh).toArray)∧HM w' vh P.first∧(∀ k,vh.ownBlock=some k→w.heap.size≤k)∧Below w.heap.size w w'
 does:∀ B w b vh s (op:M.Op),Au B w→B≤b→Row w b 159 (yH L vh)→HM w vh s→(∀ k,vh.ownBlock=some k→B≤k∧k≠b)→sz s≤1000000000000 →
  Calls prog 114 #[.pointer (some ⟨b,0,none⟩),.agg #[.int .i64 op.c,.int .i64 op.a,.int .i64 op.b]] w fun e w'=>e = .returned (.agg #[.int .i64 (P.apply s op).2.s,.int .i64 (P.apply s op).2.v]) ∧
   ∃ kU,Row w' b 159 (yH L kU)∧HM w' kU (P.apply s op).1∧(∀ k,kU.ownBlock=some k→k≠b∧(vh.ownBlock=some k∨w.heap.size≤k))∧Fr (fun k=>k=b∨vh.ownBlock=some k) w w'
 tells:∀ w b vh s,Row w b 159 (yH L vh)→HM w vh s→sz s≤1000000000000 →
  Calls prog 89 #[.pointer (some ⟨b,0,none⟩)] w fun e w'=>∃ v,e = .returned v∧w'.ownsRow w.heap.size 3 1 v (tell s).length (ints (tell s))∧Below w.heap.size w w'
def bh (L:DL) (B:Nat) (w:World):Prop :=
 L.kind=5→∃ g1 g2,L.vn = .slice (some ⟨g1,0,none⟩) L.nx.length L.nx.length∧L.vo = .slice (some ⟨g2,0,none⟩) L.ou.length L.ou.length∧Row w g1 3 (ints L.nx)∧Row w g2 3 (ints L.ou)∧g1<B∧g2<B
theorem bh.au {L:DL} (B:Nat) (w w':World) (h:bh L B w) (hk:∀ k,k<B→w'.heap[k]?=w.heap[k]?):bh L B w':=fun q =>
 let ⟨g1,g2,h1,h2,h3,h4,h5,h6⟩:=h q
 ⟨g1,g2,h1,h2,h3.of_block (hk _ h5),h4.of_block (hk _ h6),h5,h6⟩
def qO (w w':World) (g:Nat):Prop:=w'.heap[g]?=w.heap[g]?
theorem xI {w w1:World} {g:Nat} (h:w1.heap[g]?=w.heap[g]?) (o:Nat) (v:Value):(w1.setCell ⟨g,o,none⟩ v).heap[g]?=(w.setCell ⟨g,o,none⟩ v).heap[g]?:=by
 simp [World.setCell,Array.getElem?_modify,h]
theorem ZL {w:World} {g o:Nat} {u:Value} (h:w.cell? ⟨g,o,none⟩=some u) (v:Value):(w.setCell ⟨g,o,none⟩ v).cell? ⟨g,o,none⟩=some v:=World.cell?_setCell_same' _ _ _ (by rw [h];rfl)
theorem YW {w:World} {g c:Nat} {s:Int} (h:w.ownsRow 0 3 1 (.slice (some ⟨g,0,none⟩) 1 c) 1 (ints [s])) (s':Int):(w.setCell ⟨g,0,none⟩ (.int .i64 s')).ownsRow 0 3 1 (.slice (some ⟨g,0,none⟩) 1 c) 1 (ints [s']):=by
 rcases h.2 with ⟨e,-⟩|⟨g',cap,cur,e,h3,h4,h5,h6,h7,h8⟩
 ·cases e
 ·injection e with e1 e2 e3
  injection e1 with e1
  injection e1 with e1
  subst e1 e3;refine ⟨rfl,.inr ⟨g,c,cur.set! 0 (.int .i64 s'),rfl,h3,?_,h5,h6,by simpa using h7,?_⟩⟩
  ·simp [World.setCell,Array.getElem?_modify,h4]
  ·have hl:0<cur.size:=by omega
   obtain ⟨l,rfl⟩:∃ l,cur=List.toArray l:=⟨cur.toList,by simp⟩
   cases l with
   |nil=>simp at hl
   |cons x xs=>simp [ints]
section
variable (st co s a b2:Int) (s1 s2:Value) (b g c:Nat) (w:World)
theorem QG (k:Int) (hk:k<1∨2<k) :
  Calls prog 143 #[.pointer (some ⟨b,0,none⟩),.agg #[.int .i64 k,.int .i64 a,.int .i64 b2]] w fun e w'=>e = .returned (.agg #[.int .i64 4,.int .i64 0])∧Below w.heap.size w w':=by
 by_cases h1:k<1
 ·clear hk
  go_enter func143,ntmps143;go_wp2;exact cR (v:=.agg #[.int .i64 4,.int .i64 0]) (by simp [results,results143,go_sem]) rfl ⟨rfl,(by repeat (first|exact aT _ _|assumption|refine aX ?_ _|refine cI ?_ (by simp) _))⟩
 ·have h2:2<k:=by omega
  clear hk;go_enter func143,ntmps143;go_wp2;exact cR (v:=.agg #[.int .i64 4,.int .i64 0]) (by simp [results,results143,go_sem]) rfl ⟨rfl,(by repeat (first|exact aT _ _|assumption|refine aX ?_ _|refine cI ?_ (by simp) _))⟩
theorem QH (hR:Row w b 159 [.int .i64 1,.int .i64 st,.int .i64 co,s1,s2,.slice (some ⟨g,0,none⟩) 1 c]) (hc:w.cell? ⟨g,0,none⟩=some (.int .i64 s)) :
  Calls prog 143 #[.pointer (some ⟨b,0,none⟩),.agg #[.int .i64 2,.int .i64 a,.int .i64 b2]] w fun e w'=>e = .returned (.agg #[.int .i64 1,.int .i64 s])∧Below w.heap.size w w':=by
 have c5:=hR.cell_of (i:=5) rfl;go_enter func143,ntmps143;go_upto_region 1 with fail;generalize hW:World.alloc (World.alloc w _) _=W;have hb:Below w.heap.size w W:=by rw [←hW];exact ((aT _ _).alloc (bQ _) _).alloc (by simp) _
 have r0:Row W w.heap.size 36 [.int .i64 2,.int .i64 a,.int .i64 b2]:=by rw [←hW];exact (aV rfl).alloc _
 have r1:Row W (w.heap.size+1) 94 [.int .i64 0,.int .i64 0]:=by rw [←hW];exact aV (by simp)
 have d5:=aI hb c5;have dg:=aI hb hc;have x0:=r0.cell_of (i:=0) rfl;have y0:=r1.cell_of (i:=0) rfl;have y1:=r1.cell_of (i:=1) rfl;have z0:=r1.frozen 0;have z1:=r1.frozen 1;have sB:=aA (r1.set 0 (.int .i64 1) |>.set 1 (.int .i64 s));have HB:=aA hb;clear hW hR c5 hc r0 r1 hb;go_wp2_with fail;have q1:=sB.out.cell_of (i:=0) rfl;have q2:=sB.out.cell_of (i:=1) rfl;exact cR (v:=.agg #[.int .i64 1,.int .i64 s]) (by simp [results,results143,go_sem,q1,q2]) rfl ⟨rfl,(HB.out.setCell (by simp) _).setCell (by simp) _⟩
theorem QF (hR:Row w b 159 [.int .i64 1,.int .i64 st,.int .i64 co,s1,s2,.slice (some ⟨g,0,none⟩) 1 c]) (hc:w.cell? ⟨g,0,none⟩=some (.int .i64 s)) (hf:w.frozen? ⟨g,0,none⟩=false) :
  Calls prog 143 #[.pointer (some ⟨b,0,none⟩),.agg #[.int .i64 1,.int .i64 a,.int .i64 b2]] w fun e w'=>e = .returned (.agg #[.int .i64 1,.int .i64 (wrap64 (s+a))])∧qO (w.setCell ⟨g,0,none⟩ (.int .i64 (wrap64 (s+a)))) w' g∧Fr (fun k=>k=g) w w':=by
 have c5:=hR.cell_of (i:=5) rfl;have uL:g<w.heap.size:=mX w _ hc;go_enter func143,ntmps143;go_upto_region 1 with fail;generalize hW:World.alloc (World.alloc w _) _=W;have hb:Below w.heap.size w W:=by rw [←hW];exact ((aT _ _).alloc (bQ _) _).alloc (by simp) _
 have r0:Row W w.heap.size 36 [.int .i64 1,.int .i64 a,.int .i64 b2]:=by rw [←hW];exact (aV rfl).alloc _
 have r1:Row W (w.heap.size+1) 94 [.int .i64 0,.int .i64 0]:=by rw [←hW];exact aV (by simp)
 have hzW:w.heap.size+1<W.heap.size:=r1.lt;have d5:=aI hb c5;have dg:=aI hb hc;have df:W.frozen? ⟨g,0,none⟩=false:=by rw [hb.frozen (p:=⟨g,0,none⟩) uL];exact hf
 have x0:=r0.cell_of (i:=0) rfl;have x1:=r0.cell_of (i:=1) rfl;have pX:=aA r1;have HB:=aA hb;have WQ:b<w.heap.size:=hR.lt;have HRb:=aA (hR.old hb);clear hW hR c5 hc r0 r1 hb;go_upto_region 4 with fail;have DU:g≠b∨g=b:=by omega
 go_region
 have HS:=aA (aP (show (W.setCell ⟨g,0,none⟩ (.int .i64 (wrap64 (s+a)))).drew.heap[g]?=(w.setCell ⟨g,0,none⟩ (.int .i64 (wrap64 (s+a)))).heap[g]? from xI (HB.out.block g uL) 0 _) (show Fr (fun k=>k=g) w (W.setCell ⟨g,0,none⟩ (.int .i64 (wrap64 (s+a)))).drew from ((Fr.cA (own:=fun k=>k=g) HB.out).here (b:=g) rfl 0 _).drew));have e5:(W.setCell ⟨g,0,none⟩ (.int .i64 (wrap64 (s+a)))).drew.cell? ⟨b,5,none⟩=some (.slice (some ⟨g,0,none⟩) 1 c):=aH d5 (.inr (by simp));have eg:(W.setCell ⟨g,0,none⟩ (.int .i64 (wrap64 (s+a)))).drew.cell? ⟨g,0,none⟩=some (.int .i64 (wrap64 (s+a))):=ZL dg _;have BA:Row (W.setCell ⟨g,0,none⟩ (.int .i64 (wrap64 (s+a)))).drew (w.heap.size+1) 94 [.int .i64 0,.int .i64 0]:=pX.out.setOther (show w.heap.size+1≠g by omega) _;generalize (W.setCell ⟨g,0,none⟩ (.int .i64 (wrap64 (s+a)))).drew=W2 at *;have y0:=BA.cell_of (i:=0) rfl;have y1:=BA.cell_of (i:=1) rfl;have z0:=BA.frozen 0;have z1:=BA.frozen 1;have sB:=aA (BA.set 0 (.int .i64 1) |>.set 1 (.int .i64 (wrap64 (s+a))));clear BA pX d5 dg df;go_wp2_with fail;have q1:=sB.out.cell_of (i:=0) rfl;have q2:=sB.out.cell_of (i:=1) rfl;refine cR (v:=.agg #[.int .i64 1,.int .i64 (wrap64 (s+a))]) (by simp [results,results143,go_sem,q1,q2]) rfl ⟨rfl,?_,?_⟩
 ·unfold qO
  rw [cZ _ _ _ g (show g≠w.heap.size+1 by omega),cZ _ _ _ g (show g≠w.heap.size+1 by omega)];exact HS.out.1
 ·refine HS.out.2.grow (own':=fun k=>k=w.heap.size+1) (((Fr.refl (fun k=>k=w.heap.size+1) _).here (b:=w.heap.size+1) rfl _ _).here (b:=w.heap.size+1) rfl _ _) (fun k hk=>.inr (by omega))
theorem sH (k x y:Int) (wG:World) (hR:Row w b 159 [.int .i64 1,.int .i64 st,.int .i64 co,s1,s2,.slice (some ⟨g,0,none⟩) 1 c]) (uL:g<w.heap.size)
  (hq:∀ W,Below w.heap.size w W→Calls prog 143 #[.pointer (some ⟨b,0,none⟩),.agg #[.int .i64 k,.int .i64 a,.int .i64 b2]] W fun e w'=>e = .returned (.agg #[.int .i64 x,.int .i64 y])∧qO wG w' g∧Fr (fun k=>k=g) W w') :
  Calls prog 114 #[.pointer (some ⟨b,0,none⟩),.agg #[.int .i64 k,.int .i64 a,.int .i64 b2]] w fun e w'=>e = .returned (.agg #[.int .i64 x,.int .i64 y])∧qO wG w' g∧Fr (fun k=>k=g) w w':=by
 have c0:=hR.cell_of (i:=0) rfl;go_enter func114,ntmps114;go_upto_region 1 with fail;generalize hW:World.alloc (World.alloc w _) _=W;have hb:Below w.heap.size w W:=by rw [←hW];exact ((aT _ _).alloc (bQ _) _).alloc (by simp) _
 have r0:Row W w.heap.size 36 [.int .i64 k,.int .i64 a,.int .i64 b2]:=by rw [←hW];exact (aV rfl).alloc _
 have r1:Row W (w.heap.size+1) 94 [.int .i64 0,.int .i64 0]:=by rw [←hW];exact aV (by simp)
 have d0:=aI hb c0;have x0:=r0.cell_of (i:=0) rfl;have x1:=r0.cell_of (i:=1) rfl;have x2:=r0.cell_of (i:=2) rfl;have pX:=aA r1;have HB:=aA hb;have HQ:=aA (hq W hb);clear hW hR c0 r0 r1 hb hq;go_wp2_with fail;refine HQ.out.mono ?_;rintro e w3 ⟨rfl,hG,hF⟩;have r3:Row w3 (w.heap.size+1) 94 [.int .i64 0,.int .i64 0]:=pX.out.of_block (hF.block _ pX.out.lt (by omega));have y0:=r3.cell_of (i:=0) rfl;have y1:=r3.cell_of (i:=1) rfl;have z0:=r3.frozen 0;have z1:=r3.frozen 1;have sB:=aA (r3.set 0 (.int .i64 x) |>.set 1 (.int .i64 y));have HG:=aA hG;have HF:=aA hF;clear hG hF r3;go_wp2_with fail;have q1:=sB.out.cell_of (i:=0) rfl;have q2:=sB.out.cell_of (i:=1) rfl;refine cR (v:=.agg #[.int .i64 x,.int .i64 y]) (by simp [results,results114,go_sem,q1,q2]) rfl ⟨rfl,?_,?_⟩
 ·unfold qO
  rw [cZ _ _ _ g (show g≠w.heap.size+1 by omega),cZ _ _ _ g (show g≠w.heap.size+1 by omega)];exact HG.out
 ·refine ((Fr.cA (own:=fun k=>k=g) HB.out).trans HF.out).grow (own':=fun k=>k=w.heap.size+1) (((Fr.refl (fun k=>k=w.heap.size+1) _).here (b:=w.heap.size+1) rfl _ _).here (b:=w.heap.size+1) rfl _ _) (fun k hk=>.inr (by omega))
theorem FR (kind:Int) (hk:kind=1∨kind=5) (hR:Row w b 159 [.int .i64 kind,.int .i64 st,.int .i64 co,s1,s2,.slice (some ⟨g,0,none⟩) 1 c]) (hg:w.cell? ⟨g,0,none⟩=some (.int .i64 s)) :
  Calls prog 89 #[.pointer (some ⟨b,0,none⟩)] w fun e w'=>∃ v,e = .returned v∧w'.ownsRow w.heap.size 3 1 v 1 (ints [s])∧Below w.heap.size w w':=by
 have c0:w.cell? ⟨b,0,none⟩=some (.int .i64 kind):=hR.cell_of rfl;have c5:w.cell? ⟨b,5,none⟩=some (.slice (some ⟨g,0,none⟩) 1 c):=hR.cell_of rfl;have k2:(kind == 2)=false:=mO.2 (by omega);have k4:(kind == 4)=false:=mO.2 (by omega);obtain ⟨ti,vM,uM⟩:=eZ.1 eF;simp only [fW] at uM;obtain ⟨jR,jS,jT⟩:=uM;have DH:=aA vM;have JG:=aA jR;have AH:=aA jS;have vN:=aA jT;have WY:=aA c5;have HG:=aA hg;clear vM jR jS jT hR hk hg;go_enter func89,ntmps89;go_wp2;clear c5
 go_loopw [3,6] (fun o i w'=>Below w.heap.size w w'∧((o = .slice none 0 0∧i = .int .i64 0)∨(i = .int .i64 1∧w'.ownsRow w.heap.size 3 1 o 1 (ints [s])))) (fun _ i _=>1-(intOf i).toNat)
 case atStart=>exact ⟨aT _ _,.inl ⟨rfl,rfl⟩⟩
 case round =>
  obtain ⟨hb,⟨rfl,rfl⟩|⟨rfl,ho⟩⟩:=hrel
  ·have c5:wr.cell? ⟨b,5,none⟩=some (.slice (some ⟨g,0,none⟩) 1 c):=aI hb WY.out
   have hg:wr.cell? ⟨g,0,none⟩=some (.int .i64 s):=aI hb HG.out;have TA:=aA hb;clear hb;go_wp2_with (at_builtin;refine wpList_append_lies _ rfl (.tmp 47) (.tmp 55) 22 rfl w.heap.size 3 ti (.int .i64 0) 1 8 underlying22 DH.out JG.out AH.out vN.out rfl (by decide) (.slice none 0 0) 0 [] rfl (jZ _ _ _ _) ⟨wr.heap.size,0,none⟩ 1 1 [.int .i64 s] rfl rfl ?_ (by simp [Value.oneCell']) (by decide) (by decide) (by decide) ?_ (wr.heap.size+1) (by simp) ?_)
   ·exact jH (dH wr _ _)
   ·have:=TA.out.size;simp;omega
   ·intro g1 aGP w4 hown dP hat oQ
    have dQ:Below wr.heap.size wr w4:=(aB wr _).grown dP (by simp) (fun q hq=>by simp [Value.ownBlock] at hq);have HO:=aA hown;have FA:=aA (aS TA.out dQ TA.out.size);clear hown dP hat dQ c5 hg;go_wp2;go_roundw
    case rel=>exact ⟨FA.out,.inr ⟨rfl,HO.out⟩⟩
    case measure=>simp [intOf]
  ·have TA:=aA hb
   have HO:=aA ho;clear hb ho;go_wp2;go_ret;exact ⟨_,rfl,HO.out,TA.out⟩
end
theorem fh (L:DL) (hk:L.kind=1) (a1 a2:Option Addr) (l1 c1 l2 c2:Nat) (hn:L.vn = .slice a1 l1 c1) (ho:L.vo = .slice a2 l2 c2) :
  qi L nC (fun s=>[s]) (fun _=>0) (fun w v s=>w.ownsRow 0 3 1 v 1 (ints [s])) (bh L) where
 stay w w' v s h hb:=aZ h hb
 lt w v s h k e:=(h.lt k e).2
 form w v s h:=by
  obtain ⟨⟨a,c,e⟩,-⟩:=bM h;exact ⟨a,_,c,e⟩
 au:=bh.au
 sz0:=aW _
 LA _ _:=aW _
 first w:=by
  rw [hk,hn,ho];refine (SM 1 (L.n:Int) (L.cap:Int) L.st L.co a1 l1 c1 a2 l2 c2 w (.inl rfl)).mono ?_;rintro e w' ⟨g,rfl,hg,hr,hb⟩;refine ⟨.slice (some ⟨g,0,none⟩) 1 1,?_,⟨rfl,.inr ⟨g,1,#[.int .i64 0],rfl,aW _,hr,bQ _,by decide,rfl,rfl⟩⟩,?_,hb⟩
  ·unfold yH;rw [hk,hn,ho]
  ·intro k e
   have:g=k:=by simpa [Value.ownBlock] using e
   omega
 does B w b vh s op _ hb hR hM hne _:=by
  rcases hM.2 with ⟨-,e⟩|⟨g,cap,cur,rfl,h3,h4,h5,h6,h7,h8⟩
  ·cases e
  ·obtain ⟨g',c',e',hc⟩:=jD hM (i:=0) (u:=.int .i64 s) rfl
   have eg:g=g':=by injection e' with q;injection q with q;injection q
   subst eg;have uL:g<w.heap.size:=mX w _ hc;have DU:g≠b:=(hne g rfl).2;unfold yH at hR;rw [hk] at hR;have hf:w.frozen? ⟨g,0,none⟩=false:=by simp [World.frozen?,h4]
   have fin:∀ (w' wG:World) (s':Int),qO wG w' g→Fr (fun k=>k=g) w w'→wG.ownsRow 0 3 1 (.slice (some ⟨g,0,none⟩) 1 cap) 1 (ints [s'])→∃ kU,Row w' b 159 (yH L kU)∧w'.ownsRow 0 3 1 kU 1 (ints [s'])∧(∀ k,kU.ownBlock=some k→k≠b∧((Value.slice (some ⟨g,0,none⟩) 1 cap).ownBlock=some k∨w.heap.size≤k))∧Fr (fun k=>k=b∨(Value.slice (some ⟨g,0,none⟩) 1 cap).ownBlock=some k) w w':=fun w' wG s' h1 h2 h3=>by
    refine ⟨.slice (some ⟨g,0,none⟩) 1 cap,?_,aZ h3 fun k e=>?_,fun k e=>?_,⟨h2.os,h2.tape,h2.output,h2.size,fun k hk hn=>h2.block k hk fun c=>hn (.inr (by rw [c];rfl))⟩⟩
    ·unfold yH
     rw [hk];exact hR.of_block (h2.block b hR.lt (fun c=>DU c.symm))
    ·have:g=k:=by simpa [Value.ownBlock] using e
     subst this;exact h1
    ·have:g=k:=by simpa [Value.ownBlock] using e
     subst this;exact ⟨DU,.inl rfl⟩
   by_cases k1:op.c=1
   ·have e:nC.apply s op=(wrap64 (s+op.a),⟨1,wrap64 (s+op.a)⟩):=by simp [nC,k1]
    rw [e,k1];refine (sH L.st L.co op.a op.b L.vn L.vo b g cap w 1 1 (wrap64 (s+op.a)) (w.setCell ⟨g,0,none⟩ (.int .i64 (wrap64 (s+op.a)))) hR uL fun W hW=>?_).mono ?_
    ·refine (QF L.st L.co s op.a op.b L.vn L.vo b g cap W (hR.old hW) (aI hW hc) (by rw [hW.frozen (p:=⟨g,0,none⟩) uL];exact hf)).mono ?_
     rintro e w' ⟨rfl,q1,q2⟩;refine ⟨rfl,?_,q2⟩;unfold qO at q1 ⊢;rw [q1];exact xI (hW.block g uL) 0 _
    ·rintro e w' ⟨rfl,q1,q2⟩
     refine ⟨rfl,fin w' _ _ q1 q2 ?_⟩;exact YW hM _
   ·by_cases k2:op.c=2
    ·have e:nC.apply s op=(s,⟨1,s⟩):=by simp [nC,k2]
     rw [e,k2];refine (sH L.st L.co op.a op.b L.vn L.vo b g cap w 2 1 s w hR uL fun W hW=>?_).mono ?_
     ·refine (QH L.st L.co s op.a op.b L.vn L.vo b g cap W (hR.old hW) (aI hW hc)).mono ?_
      rintro e w' ⟨rfl,q⟩;exact ⟨rfl,(q.block g (cH uL hW.size)).trans (hW.block g uL),Fr.cA q⟩
     ·rintro e w' ⟨rfl,q1,q2⟩
      exact ⟨rfl,fin w' _ _ q1 q2 hM⟩
    ·have e:nC.apply s op=(s,⟨4,0⟩):=by simp [nC,k1,k2]
     rw [e];refine (sH L.st L.co op.a op.b L.vn L.vo b g cap w op.c 4 0 w hR uL fun W hW=>?_).mono ?_
     ·refine (QG op.a op.b b W op.c (by omega)).mono ?_
      rintro e w' ⟨rfl,q⟩;exact ⟨rfl,(q.block g (cH uL hW.size)).trans (hW.block g uL),Fr.cA q⟩
     ·rintro e w' ⟨rfl,q1,q2⟩
      exact ⟨rfl,fin w' _ _ q1 q2 hM⟩
 tells w b vh s hR hM _:=by
  obtain ⟨g,c,rfl,hc⟩:=jD hM (i:=0) (u:=.int .i64 s) rfl;unfold yH at hR;exact FR L.st L.co s L.vn L.vo b g c w L.kind (.inl hk) hR hc
theorem lD (Y:aR):Y.order.length=Y.bs.flatten.length:=by
 unfold M.aR.order;rw [M.uN];have:=congrArg List.length Y.ME;simpa using this
theorem SH (Y:aR) (u:Nat) (hu:u<Y.order.length) (hf:u<Y.bs.flatten.length):(Y.order[u]).t=Y.bs.flatten[u]∧(Y.order[u]).s=(Y.bs.flatten.take u).count Y.bs.flatten[u]:=by
 have ha:=Y.ME;have hl:u<Y.all.length:=by have:=congrArg List.length ha;rw [LD] at this;omega
 have e1:(Y.all[u]).2=Y.bs.flatten[u]:=by
  have:(Y.all.map Prod.snd)[u]'(by simpa using hl)=Y.bs.flatten[u]:=by simp only [ha]
  simpa using this
 have e2:(Y.all.take u).map Prod.snd=Y.bs.flatten.take u:=by rw [List.map_take,ha]
 have e3:Y.order[u]=⟨(Y.all[u]).1,(Y.all[u]).2,((Y.all.take u).map Prod.snd).count (Y.all[u]).2⟩:=by
  have:Y.order[u]?=some ⟨(Y.all[u]).1,(Y.all[u]).2,((Y.all.take u).map Prod.snd).count (Y.all[u]).2⟩:=by
   unfold M.aR.order marks;rw [List.getElem?_mapIdx,eT hl];rfl
  rw [eT hu] at this;injection this
 rw [e3];dsimp only;rw [e2,e1];exact ⟨rfl,rfl⟩
section
variable {σ:Type}
def gU (P:M.Plain σ) (Y:aR) (u:Nat):M.Rp σ:=(M.Rp.new P).run P (fun k i=>((Y.th k).ops).getD i ⟨0,0,0⟩) (Y.bs.flatten.take u)
theorem SJ (P:M.Plain σ) (Y:aR) (u:Nat) (hu:u<Y.bs.flatten.length):gU P Y (u+1)=(gU P Y u).next P (fun k i=>((Y.th k).ops).getD i ⟨0,0,0⟩) Y.bs.flatten[u]:=by
 unfold gU;rw [BI hu,M.OZ]
theorem aFw (P:M.Plain σ) (Y:aR) (u k:Nat):(gU P Y u).c k=(Y.bs.flatten.take u).count k:=by
 unfold gU;rw [M.ZK];simp [M.Rp.new]
theorem GR (P:M.Plain σ) (Y:aR):gU P Y Y.bs.flatten.length=M.replay P (fun k i=>((Y.th k).ops).getD i ⟨0,0,0⟩) Y.bs:=by
 unfold gU M.replay;rw [List.take_length]
end
structure JH {σ:Type} (L:DL) (HM:World→Value→σ→Prop) (Y:aR) (w:World) (b8:Nat) (vl:Value) (s:σ) (vh:Value) (an:M.az) (w':World):Prop where
 below:Below w.heap.size w w'
 pl:Row w' b8 159 (yH L vh)
 hm:HM w' vh s
 WW:∀ k,vh.ownBlock=some k→w.heap.size+2≤k∧k≠b8∧k≠b8+1∧vl.ownBlock≠some k
 b8w:w.heap.size+2≤b8
 ar:Row w' (b8+1) 94 [.int .i64 an.s,.int .i64 an.v]
 r6:Row w' w.heap.size 159 [.int .i64 0,.int .i64 0,.int .i64 0,.slice none 0 0,.slice none 0 0,.slice none 0 0]
 r7:Row w' (w.heap.size+1) 94 [.int .i64 0,.int .i64 0]
 ml:w'.ownsRow (b8+2) 81 3 vl Y.order.length (eB Y.order)
section
variable {σ:Type} {L:DL} {P:M.Plain σ} {tell:σ→List Int} {sz:σ→Nat} {HM:World→Value→σ→Prop} {Au:Nat→World→Prop} {Y:aR} {w w1 w2:World} {b8:Nat} {vl vh:Value} {s:σ} {an:M.az}
def JH.K (w:World) (b8:Nat) (vl vh:Value) (k:Nat):Prop:=k<w.heap.size+2∨k=b8∨k=b8+1∨vh.ownBlock=some k∨vl.ownBlock=some k
theorem JH.stay (hD:qi L P tell sz HM Au) (h:JH L HM Y w b8 vl s vh an w1) (hk:∀ k,JH.K w b8 vl vh k→w2.heap[k]?=w1.heap[k]?) (ho:w2.os=w1.os∧w2.tape=w1.tape∧w2.output=w1.output) (hz:w1.heap.size≤w2.heap.size):JH L HM Y w b8 vl s vh an w2 where
 below:=⟨ho.1.trans h.below.os,ho.2.1.trans h.below.tape,ho.2.2.trans h.below.output,bK h.below.size hz,fun k hkk=>(hk k (.inl (by omega))).trans (h.below.block k hkk)⟩
 pl:=h.pl.of_block (hk _ (.inr (.inl rfl)))
 hm:=hD.stay _ _ _ _ h.hm fun k e=>hk k (.inr (.inr (.inr (.inl e))))
 WW:=h.WW
 b8w:=h.b8w
 ar:=h.ar.of_block (hk _ (.inr (.inr (.inl rfl))))
 r6:=h.r6.of_block (hk _ (.inl (by omega)))
 r7:=h.r7.of_block (hk _ (.inl (by omega)))
 ml:=aZ h.ml fun k e=>hk k (.inr (.inr (.inr (.inr e))))
theorem JH.lt (hD:qi L P tell sz HM Au) (h:JH L HM Y w b8 vl s vh an w1):∀ k,JH.K w b8 vl vh k→k<w1.heap.size:=fun k hk=>by
 have h7:=h.r7.lt
 rcases hk with q|q|q|q|q
 ·omega
 ·rw [q];exact h.pl.lt
 ·rw [q];exact h.ar.lt
 ·exact hD.lt _ _ _ h.hm k q
 ·exact (h.ml.lt k q).2
theorem JH.later (hD:qi L P tell sz HM Au) (h:JH L HM Y w b8 vl s vh an w1) (hb:Below w1.heap.size w1 w2):JH L HM Y w b8 vl s vh an w2 :=
 h.stay hD (fun k hk=>hb.block k (h.lt hD k hk)) ⟨hb.os,hb.tape,hb.output⟩ hb.size
theorem JH.does (h:JH L HM Y w b8 vl s vh an w1) {s':σ} {kU:Value} (hr:Row w2 b8 159 (yH L kU)) (hm:HM w2 kU s') (hv:∀ k,kU.ownBlock=some k→k≠b8∧(vh.ownBlock=some k∨w1.heap.size≤k)) (hf:Fr (fun k=>k=b8∨vh.ownBlock=some k) w1 w2):JH L HM Y w b8 vl s' kU an w2:=by
 have old:∀ k,k<w1.heap.size→k≠b8→vh.ownBlock≠some k→w2.heap[k]?=w1.heap[k]?:=fun k hk h1 h2=>hf.block k hk fun c=>by rcases c with c|c;exact h1 c;exact h2 c
 have h8:=h.b8w;have hz:=h.below.size;have h7:=h.r7.lt;have hml:=h.ml.lt;exact {
  below:=⟨hf.os.trans h.below.os,hf.tape.trans h.below.tape,hf.output.trans h.below.output,bK hz hf.size,fun k hk=>(old k (by omega) (by omega) (fun e=>by have:=h.WW k e;omega)).trans (h.below.block k hk)⟩
  pl:=hr
  hm:=hm
  WW:=fun k e=>by
   obtain ⟨q1,q2⟩:=hv k e
   rcases q2 with q2|q2
   ·exact h.WW k q2
   ·have h9:=h.ar.lt
    exact ⟨by omega,q1,by omega,fun c=>by have:=(hml k c).2;omega⟩
  b8w:=h.b8w
  ar:=h.ar.of_block (old _ h.ar.lt (by omega) (fun e=>(h.WW _ e).2.2.1 rfl))
  r6:=h.r6.of_block (old _ h.r6.lt (by omega) (fun e=>by have:=(h.WW _ e).1;omega))
  r7:=h.r7.of_block (old _ h.r7.lt (by omega) (fun e=>by have:=(h.WW _ e).1;omega))
  ml:=aZ h.ml fun k e=>old k (hml k e).2 (fun c=>by have:=(hml k e).1;omega) (fun c=>(h.WW k c).2.2.2 e)}
theorem JH.write (hD:qi L P tell sz HM Au) (h:JH L HM Y w b8 vl s vh an w1) (an':M.az):JH L HM Y w b8 vl s vh an' (w1.setCells (b8+1) 0 [.int .i64 an'.s,.int .i64 an'.v]):=by
 have old:∀ k,k≠b8+1→(w1.setCells (b8+1) 0 [.int .i64 an'.s,.int .i64 an'.v]).heap[k]?=w1.heap[k]?:=fun k hk=>by
  simp only [World.setCells];rw [cZ _ _ _ k hk,cZ _ _ _ k hk]
 have h8:=h.b8w;exact {
  below:=cO (by omega) _ _ _ h.below
  pl:=h.pl.of_block (old _ (by omega))
  hm:=hD.stay _ _ _ _ h.hm fun k e=>old k (fun c=>(h.WW k e).2.2.1 c)
  WW:=h.WW
  b8w:=h.b8w
  ar:=by simp only [World.setCells];exact (h.ar.set 0 _).set 1 _
  r6:=h.r6.of_block (old _ (by omega))
  r7:=h.r7.of_block (old _ (by omega))
  ml:=aZ h.ml fun k e=>old k (by have:=(h.ml.lt k e).1;omega)}
end
end Go.Proofs.YtefjhnhdagolhaaGreat
