import Derived.Test.YtefjhnhdagolhaaGreatA46
import Derived.Test.YtefjhnhdagolhaaGreatA04
import Derived.Lib.AppendZeros
import Derived.Deep.Upon
import Derived.Test.YtefjhnhdagolhaaGreatA45
import Derived.Test.YtefjhnhdagolhaaGreatA44
import Derived.Test.YtefjhnhdagolhaaGreatA26
import Derived.Test.YtefjhnhdagolhaaGreatA48
import Derived.Test.YtefjhnhdagolhaaGreatA49
import Derived.Deep.LoopGhost
set_option maxHeartbeats 4000000
set_option maxRecDepth 20000
namespace Go.Proofs.YtefjhnhdagolhaaGreat
open Tryz
open Go.RowKit
attribute [local go_sem ↓] Go.wp_at_zero Go.wp_at_succ
section
variable {I:Nat→Prop} {w:World} {p1 p2:Option Addr} {s:List Int} {c a b:Int}
theorem UW {s':List Int} {x y:Int} (q:EK I w s p1 p2) (hI:∀ k,I k→k<w.heap.size) (hz:s.length≤1000000000000) (hr:(s',(⟨x,y⟩:M.az))=sS.apply s ⟨c,a,b⟩) :
  Calls prog 370 #[.agg #[],.agg #[.pointer p1,.pointer p2],.agg #[.int .i64 c,.int .i64 a,.int .i64 b]] w (MC I w s' x y):=by
 have nA:=aA hr;clear hr;go_enter func370,ntmps370;go_upto_region 1 with fail;generalize hW:World.alloc (World.alloc (World.alloc (World.alloc (World.alloc w _) _) _) _) _=W;have hb0:Below w.heap.size w W:=by rw [←hW];exact ((((aB w _).alloc (by simp) _).alloc (by simp;omega) _).alloc (by simp;omega) _).alloc (by simp;omega) _
 have r4:Row W (w.heap.size+1) 146 [.pointer p1,.pointer p2]:=by rw [←hW];exact (((aV (by simp)).alloc _).alloc _).alloc _
 have r5:Row W (w.heap.size+1+1) 36 [.int .i64 c,.int .i64 a,.int .i64 b]:=by rw [←hW];exact ((aV (by simp)).alloc _).alloc _
 have r6:Row W (w.heap.size+1+1+1) 146 [.pointer none,.pointer none]:=by rw [←hW];exact (aV (by simp)).alloc _
 have r7:Row W (w.heap.size+1+1+1+1) 94 [.int .i64 0,.int .i64 0]:=by rw [←hW];exact aV (by simp)
 have o0:=r5.cell_of (i:=0) rfl;have o1:=r5.cell_of (i:=1) rfl;have c0:=r4.cell_of (i:=0) rfl;have c1:=r4.cell_of (i:=1) rfl;have hlt:=r7.lt;have fG:=aA hb0;have HR4:=aA r4;have HR6:=aA r6;have DF:=aA r7;have t6:W.there (w.heap.size+1+1+1) 0 2:=r6.there (by simp);have t7:W.there (w.heap.size+1+1+1+1) 0 2:=r7.there (by simp);have HQ:=aA (show EK (KB I W.heap.size W) W s p1 p2 from q.stay fun k hk hl=>⟨.inl hk,hb0.block k hl⟩);have HQ0:=aA (show EK I W s p1 p2 from q.stay fun k hk hl=>⟨hk,hb0.block k hl⟩);have HIW:=aA (show ∀ k,I k→k<W.heap.size from fun k hk=>cH (hI k hk) hb0.size);clear hW hb0 r4 r5 r6 r7 q
 by_cases k1:c=1
 ·subst k1
  obtain ⟨f,g,hfg,qf,qg⟩:=HQ.out;have hlen:s.length=f.length+g.length:=by rw [hfg];simp
  have e9:=nA.out;simp only [sS,if_true,fW,M.az.mk.injEq] at e9;obtain ⟨e1,e2,e3⟩:=e9;subst e2;obtain ⟨n1,xV⟩:∃ n:Nat,n=s.length+1:=⟨_,rfl⟩;rw [←xV] at e3;subst e3;have HS':=aA e1;have HFG:=aA hfg;have HF:=aA qf;clear nA e1 hfg qf;go_wp2_with fail;refine (jk (I:=I) (B:=W.heap.size) (x:=a) qg (bQ _) (by omega)).mono ?_;rintro e w3 ⟨b3,rfl,t3,cP⟩;have m4:=HR4.out.old cP;have y1:=m4.cell_of (i:=1) rfl;have z1:=m4.frozen 1;have hz3:=cP.size;have vN:=aA t3;have oV:=aA cP;have HM4:=aA m4;clear t3 cP m4 c0 c1 qg;go_upto_region 4 with fail;generalize mU:World.setCell w3 _ _=W3;have r4:Row W3 (w.heap.size+1) 146 [.pointer p1,.pointer (some ⟨b3,0,none⟩)]:=by rw [←mU];exact HM4.out.set 1 _
  have DK:∀ k,k≠w.heap.size+1→W3.heap[k]?=w3.heap[k]?:=fun k hk=>by rw [←mU,cZ _ _ _ k hk]
  have hz4:W3.heap.size=w3.heap.size:=by rw [←mU];simp [World.setCell]
  have HBW:=aA (show Below w.heap.size w W3 by rw [←mU];exact (aS fG.out oV.out fG.out.size).setCell (by simp) _);replace t6:W3.there (w.heap.size+1+1+1) 0 2:=((HR6.out.old oV.out).of_block (DK _ (by omega))).there (by simp);replace t7:W3.there (w.heap.size+1+1+1+1) 0 2:=((DF.out.old oV.out).of_block (DK _ (by omega))).there (by simp);have stay:∀ k,KB I W.heap.size w3 k→k<w3.heap.size→KB I W.heap.size W3 k∧W3.heap[k]?=w3.heap[k]?:=fun k hk hl=>by
   rcases hk with hk|hk
   ·exact ⟨.inl hk,DK k (by have:=hI k hk;omega)⟩
   ·exact ⟨.inr ⟨hk.1,by omega⟩,DK k (by omega)⟩
  have qa:kP (KB I W.heap.size W3) W3 (a::g) (some ⟨b3,0,none⟩):=vN.out.stay stay;have qf:kP (KB I W.heap.size W3) W3 f p1:=(HF.out.later oV.out).stay stay;have HQ3:=aA (show EK (KB I W.heap.size W3) W3 s' p1 (some ⟨b3,0,none⟩) from ⟨f,a::g,by rw [HS'.out,HFG.out];simp,qf,qa⟩);have c0:=r4.cell_of (i:=0) rfl;have c1:=r4.cell_of (i:=1) rfl;have HZ1:=aA (PB (show kP (KB I W.heap.size W3) W3.drew f p1 from qf.stay (w:=W3) (w':=W3.drew) fun k hk _=>⟨hk,rfl⟩));have HZ2:=aA (PB (show kP (KB I W.heap.size W3) W3.drew (a::g) (some ⟨b3,0,none⟩) from qa.stay (w:=W3) (w':=W3.drew) fun k hk _=>⟨hk,rfl⟩));obtain ⟨nf,hnf⟩:∃ n:Nat,n=f.length:=⟨_,rfl⟩;obtain ⟨ng,hng⟩:∃ n:Nat,n=(a::g).length:=⟨_,rfl⟩;rw [←hnf] at HZ1;rw [←hng] at HZ2;have hw:IntKind.i64.wrap ((nf:Int)+(ng:Int))=(n1:Int):=by
   simp only [eM] at hng;rw [eS _ (by omega) (by omega)];omega
  clear mU DK hnf hng xV hlen stay r4 qa qf y1 z1 o0 o1;refine fH (S:=(fun w'=>w'.there (w.heap.size+1+1+1) 0 2∧w'.there (w.heap.size+1+1+1+1) 0 2∧w'.cell? ⟨w.heap.size+1,0,none⟩=some (.pointer p1)∧w'.cell? ⟨w.heap.size+1,1,none⟩=some (.pointer (some ⟨b3,0,none⟩))∧w'.cell? ⟨w.heap.size+1,0,none⟩=some (.pointer p1)∧w'.cell? ⟨w.heap.size+1,1,none⟩=some (.pointer (some ⟨b3,0,none⟩)))) 11 rfl (by kernel_rfl) ?_ (fun hHeld=>?_)
  ·exact ⟨t6,t7,c0,c1,c0,c1⟩
  iterate 3 (refine tk 10 (by rfl) (by kernel_rfl) (by exact fun _ _ _ h=>h) (.inl ⟨by rfl,fun w hS=>by (try dsimp only at hS);go_simp;(try with_reducible rfl)⟩) (by assumption) ?_;try go_frame)
  iterate 2 (refine tk 11 (by rfl) (by kernel_rfl) (by exact fun _ _ _ h=>h) (.inl ⟨by rfl,fun w hS=>by (try dsimp only at hS);go_simp;(try with_reducible rfl)⟩) (by assumption) ?_;try go_frame)
  refine cT 3 (by rfl) (by kernel_rfl) (fun K hK=>?_);go_simp;refine HZ1.out.mono ?_;rintro e w5 ⟨rfl,rfl⟩;go_wp2_with fail;refine hK.out _ _ ?_ (fun hHeld=>?_)
  ·exact hHeld
  clear hK K
  (try go_frame)
  refine cT 6 (by rfl) (by kernel_rfl) (fun K hK=>?_);go_simp;refine HZ2.out.mono ?_;rintro e w5 ⟨rfl,rfl⟩;go_wp2_with fail;refine hK.out _ _ ?_ (fun hHeld=>?_)
  ·exact hHeld
  clear hK K
  (try go_frame)
  iterate 1 (refine tk 10 (by rfl) (by kernel_rfl) (by exact fun _ _ _ h=>h) (.inl ⟨by rfl,fun w hS=>by (try dsimp only at hS);go_simp;(try with_reducible rfl)⟩) (by assumption) ?_;try go_frame)
  refine cT 8 (by rfl) (by kernel_rfl) (fun K hK=>?_);go_simp;refine (uU _ _).mono ?_;rintro e w4 ⟨rfl,dQ⟩;have FA:=aA (Below.dJ dQ);go_wp2_with fail;refine hK.out _ _ ?_ (fun hHeld=>?_)
  ·exact ⟨aU dQ hHeld.1,aU dQ hHeld.2.1,aI dQ hHeld.2.2.1,aI dQ hHeld.2.2.2.1,aI dQ hHeld.2.2.2.2.1,aI dQ hHeld.2.2.2.2.2⟩
  clear hK K
  (try go_frame)
  refine cT 9 (by rfl) (by kernel_rfl) (fun K hK=>?_);rw [aJ (by rfl)];have e1:=pO _ (w.heap.size+1+1+1) 0 [.pointer p1,.pointer (some ⟨b3,0,none⟩)] hHeld.1;refine nK _ _ _ rfl _ 0 #[.pointer p1,.pointer (some ⟨b3,0,none⟩)] rfl rfl hHeld.1 (by kernel_rfl) (by simp [Value.oneCell']) ?_;refine hK.out _ _ ?_ (fun hHeld=>?_)
  ·exact DY hHeld (by omega) (by omega) (by omega) (by omega)
  clear hK K
  (try go_frame)
  refine cT 10 (by rfl) (by kernel_rfl) (fun K hK=>?_);rw [aJ (by rfl)];have e2:=pO _ (w.heap.size+1+1+1+1) 0 [.int .i64 1,.int .i64 (n1:Int)] hHeld.2.1;have e3:=DZ e1 (w.heap.size+1+1+1+1) 0 [.int .i64 1,.int .i64 (n1:Int)] (.inl (by omega));refine nK _ _ _ rfl _ 0 #[.int .i64 1,.int .i64 (n1:Int)] rfl rfl hHeld.2.1 (by kernel_rfl) (by simp [Value.oneCell']) ?_;refine hK.out _ _ ?_ (fun hHeld=>?_)
  ·exact DY hHeld (by omega) (by omega) (by omega) (by omega)
  clear hK K
  (try go_frame)
  refine cC (by kernel_rfl) ?_ _;have q1:=e3 0 _ rfl;have q2:=e3 1 _ rfl;have q3:=e2 0 _ rfl;have q4:=e2 1 _ rfl;have HE:=aA (CT (N:=W.heap.size) (b6:=w.heap.size+1+1+1) (b7:=w.heap.size+1+1+1+1) hI (by omega) (by omega) (by omega) hlt HBW.out HQ3.out [.pointer p1,.pointer (some ⟨b3,0,none⟩)] [.int .i64 1,.int .i64 (n1:Int)] FA.out);clear hHeld e1 e2 e3;go_wp2_with fail;exact cR (v:=.tuple #[.agg #[.pointer p1,.pointer (some ⟨b3,0,none⟩)],.agg #[.int .i64 1,.int .i64 (n1:Int)]]) (by simp [results,results370,go_sem,q1,q2,q3,q4]) rfl ⟨_,_,rfl,HE.out.1,HE.out.2⟩
 ·by_cases k2:c=2
  ·subst k2
   have e9:=nA.out;simp only [sS,if_true] at e9;rw [aN (by decide)] at e9;simp only [fW] at e9;obtain ⟨e1,e2⟩:=e9;obtain ⟨f,g,hfg,qf,qg⟩:=HQ0.out;have HTK:=aA (show Calls prog 184 #[.agg #[.pointer p1,.pointer p2]] W (MC I W s' x y) by
    cases f with
    |nil =>
     have hp:p1=none:=qf;subst hp;rw [List.nil_append] at hfg;refine ye qg HIW.out (by have:=hz;rw [hfg,List.length_reverse] at this;exact this) (by rw [e1,hfg]) ?_ ?_
     ·rw [hfg] at e2;by_cases h0:g.reverse=[]
      ·rw [aJ h0] at e2 ⊢;injection e2
      ·rw [aN h0] at e2 ⊢;injection e2
     ·rw [hfg] at e2;by_cases h0:g.reverse=[]
      ·rw [aJ h0] at e2;rw [h0];injection e2
      ·rw [aN h0] at e2;injection e2
    |cons z f =>
     rw [hfg] at e1 e2;rw [aN (by simp)] at e2;injection e2 with e3 e4
     have e1:s'=f++g.reverse:=by simpa using e1
     have e4:y=z:=by simpa using e4
     subst e1 e3 e4;exact ke qf qg HIW.out)
   clear e1 e2 hfg qf qg nA;go_wp2_with fail;refine HTK.out.mono ?_;rintro e w3 ⟨q1,q2,rfl,t3,cP⟩;have m6:=HR6.out.old cP;have m7:=DF.out.old cP;have y0:=m6.cell_of (i:=0) rfl;have y1:=m6.cell_of (i:=1) rfl;have z0:=m6.frozen 0;have z1:=m6.frozen 1;have x0:=m7.cell_of (i:=0) rfl;have x1:=m7.cell_of (i:=1) rfl;have u0:=m7.frozen 0;have u1:=m7.frozen 1;have n67:w.heap.size+1+1+1≠w.heap.size+1+1+1+1:=by omega
   have HE:=aA (CT (N:=W.heap.size) (b6:=w.heap.size+1+1+1) (b7:=w.heap.size+1+1+1+1) hI (by omega) (by omega) (by omega) hlt (aS fG.out cP fG.out.size) t3 [.pointer q1,.pointer q2] [.int .i64 x,.int .i64 y] (aT _ _));have HA:=aA ((((m6.set 0 (.pointer q1)).set 1 (.pointer q2)).setOther (a:=⟨w.heap.size+1+1+1+1,0,none⟩) n67 (.int .i64 x)).setOther (a:=⟨w.heap.size+1+1+1+1,1,none⟩) n67 (.int .i64 y));have HC:=aA ((((m7.setOther (a:=⟨w.heap.size+1+1+1,0,none⟩) n67.symm (.pointer q1)).setOther (a:=⟨w.heap.size+1+1+1,1,none⟩) n67.symm (.pointer q2)).set 0 (.int .i64 x)).set 1 (.int .i64 y));clear t3 cP m6 m7 HTK;go_wp2_with fail;have k1:=HA.out.cell_of (i:=0) rfl;have k2:=HA.out.cell_of (i:=1) rfl;have k3:=HC.out.cell_of (i:=0) rfl;have k4:=HC.out.cell_of (i:=1) rfl;exact cR (v:=.tuple #[.agg #[.pointer q1,.pointer q2],.agg #[.int .i64 x,.int .i64 y]]) (by simp [results,results370,go_sem,k1,k2,k3,k4]) rfl ⟨_,_,rfl,HE.out.1,HE.out.2⟩
  ·have e9:=nA.out
   simp only [sS,aN k1,aN k2,fW,M.az.mk.injEq] at e9;obtain ⟨rfl,rfl,rfl⟩:=e9;clear nA;go_upto_region 7 with fail;refine fH (S:=(fun w'=>w'.there (w.heap.size+1+1+1) 0 2∧w'.there (w.heap.size+1+1+1+1) 0 2∧w'.cell? ⟨w.heap.size+1,0,none⟩=some (.pointer p1)∧w'.cell? ⟨w.heap.size+1,1,none⟩=some (.pointer p2)∧w'.cell? ⟨w.heap.size+1,0,none⟩=some (.pointer p1)∧w'.cell? ⟨w.heap.size+1,1,none⟩=some (.pointer p2))) 4 rfl (by kernel_rfl) ?_ (fun hHeld=>?_)
   ·exact ⟨t6,t7,c0,c1,c0,c1⟩
   iterate 1 (refine tk 3 (by rfl) (by kernel_rfl) (by exact fun _ _ _ h=>h) (.inl ⟨by rfl,fun w hS=>by (try dsimp only at hS);go_simp;(try with_reducible rfl)⟩) (by assumption) ?_;try go_frame)
   refine cT 1 (by rfl) (by kernel_rfl) (fun K hK=>?_);go_simp;refine (zC _).mono ?_;rintro e w4 ⟨rfl,dQ⟩;have FA:=aA (Below.dJ dQ);go_wp2_with fail;refine hK.out _ _ ?_ (fun hHeld=>?_)
   ·exact ⟨aU dQ hHeld.1,aU dQ hHeld.2.1,aI dQ hHeld.2.2.1,aI dQ hHeld.2.2.2.1,aI dQ hHeld.2.2.2.2.1,aI dQ hHeld.2.2.2.2.2⟩
   clear hK K
   (try go_frame)
   refine cT 2 (by rfl) (by kernel_rfl) (fun K hK=>?_);rw [aJ (by rfl)];have e1:=pO _ (w.heap.size+1+1+1) 0 [.pointer p1,.pointer p2] hHeld.1;refine nK _ _ _ rfl _ 0 #[.pointer p1,.pointer p2] rfl rfl hHeld.1 (by kernel_rfl) (by simp [Value.oneCell']) ?_;refine hK.out _ _ ?_ (fun hHeld=>?_)
   ·exact DY hHeld (by omega) (by omega) (by omega) (by omega)
   clear hK K
   (try go_frame)
   refine cT 3 (by rfl) (by kernel_rfl) (fun K hK=>?_);rw [aJ (by rfl)];have e2:=pO _ (w.heap.size+1+1+1+1) 0 [.int .i64 4,.int .i64 0] hHeld.2.1;have e3:=DZ e1 (w.heap.size+1+1+1+1) 0 [.int .i64 4,.int .i64 0] (.inl (by omega));refine nK _ _ _ rfl _ 0 #[.int .i64 4,.int .i64 0] rfl rfl hHeld.2.1 (by kernel_rfl) (by simp [Value.oneCell']) ?_;refine hK.out _ _ ?_ (fun hHeld=>?_)
   ·exact DY hHeld (by omega) (by omega) (by omega) (by omega)
   clear hK K
   (try go_frame)
   refine cC (by kernel_rfl) ?_ _;have q1:=e3 0 _ rfl;have q2:=e3 1 _ rfl;have q3:=e2 0 _ rfl;have q4:=e2 1 _ rfl;have HE:=aA (CT (N:=W.heap.size) (b6:=w.heap.size+1+1+1) (b7:=w.heap.size+1+1+1+1) hI (by omega) (by omega) (by omega) hlt fG.out HQ.out [.pointer p1,.pointer p2] [.int .i64 4,.int .i64 0] FA.out);clear hHeld e1 e2 e3;go_wp2_with fail;exact cR (v:=.tuple #[.agg #[.pointer p1,.pointer p2],.agg #[.int .i64 4,.int .i64 0]]) (by simp [results,results370,go_sem,q1,q2,q3,q4]) rfl ⟨_,_,rfl,HE.out.1,HE.out.2⟩
end
theorem aEG (n:Nat) (hz:n≤10000000000000) (w:World):Calls prog 374 #[.slice none 0 0,.int .i64 (n:Int)] w fun e w'=>∃ v,e = .returned v∧w'.ownsRow w.heap.size 3 1 v 0 (ints [])∧Below w.heap.size w w':=by
 by_cases h0:n=0
 ·subst h0
  have HP:=aA (show ∃ v,Ending.returned (.slice none 0 0) = .returned v∧w.ownsRow w.heap.size 3 1 v 0 (ints [])∧Below w.heap.size w w from ⟨_,rfl,jZ _ _ _ _,aT _ _⟩);go_enter func374,ntmps374;go_wp2;go_ret;exact HP.out
 ·obtain ⟨ti,vM,uM⟩:=eZ.1 eF
  simp only [fW] at uM;obtain ⟨jR,jS,jT⟩:=uM;have hrun:=fun W=>Go.Lib.run_append_nil_zeros (P:=prog) W 22 3 22 3 ti (.int .i64 0) .i64 .i64 underlying22 underlying3 vM jR n (by omega) (by rw [jS];decide) (by omega) (by rw [jT];omega)
  have aKe:=aA hrun;have hn0:(0:Int)<(n:Int):=by omega
  have xV:¬(n:Int)<0:=by omega
  have hnw:IntKind.i64.wrap (n:Int)=(n:Int):=eS _ (by omega) (by omega);clear vM jR jS jT hrun;go_enter func374,ntmps374;go_wp2_with (at_builtin;refine Go.Lib.wpList_append_run _ rfl (.tmp 20) (.tmp 21) 22 3 rfl _ _ rfl rfl _ _ (aKe.out _) ?_);go_ret;have hge:=grownCap_ge w n 0 3;have hle:=grownCap_le_maxLen w n 0 3 (by unfold maxLen;omega);refine ⟨_,rfl,⟨rfl,.inr ⟨w.heap.size,grownCap w n 0 3,Builtin.zeroCells #[.int .i64 0] n++Builtin.zeroCells #[.int .i64 0] (grownCap w n 0 3-n),rfl,bQ _,?_,aW _,hle,?_,?_⟩⟩,dU (aB _ _)⟩
  ·have h9:=dH w (Builtin.zeroCells #[.int .i64 0] n++Builtin.zeroCells #[.int .i64 0] (grownCap w n 0 3-n)).toList 3
   unfold Row at h9;rw [Array.toArray_toList] at h9;exact h9
  ·simp [Builtin.zeroCells]
   omega
  ·simp [ints]
theorem NI (a:Option Addr) (c:Nat) (base:Option Addr) (n cap:Nat) (h:n≤cap) (w:World):(Builtin.append_ #[22,22] 22 #[.slice base n cap,.slice a 0 c]).run prog w = .ok (.slice base n cap) w:=by
 obtain ⟨ti,vM,uM⟩:=eZ.1 eF;simp only [fW] at uM;refine run_append_nothing (P:=prog) w 22 22 22 3 ti underlying22 vM base n cap h (.slice a 0 c) ⟨.inl ⟨_,underlying22⟩,fun _=>rfl,?_,?_,by simp,fun u hu=>by cases hu⟩
 ·rw [uM.2.1];cases a<;>first|rfl|simp [Builtin.firstCells]
 ·rw [uM.2.1];cases a<;>first|rfl|simp [Builtin.firstCells]
def Acc (l1 l2:List Int) (k:Nat) (acc:List Int):Prop:=(k=0∧acc=[])∨(k=1∧acc=l1)∨(k=2∧acc=l1++l2)
theorem aDe {w:World} {base:Nat} {e:TypeId} {a:Option Addr} {n c:Nat} {xs:List Value} (h:w.ownsRow base e 1 (.slice a n c) n xs):n≤c:=by
 rcases h.2 with ⟨e,h0⟩|⟨g,cap,cur,e,-,-,h5,-⟩
 ·injection e with e1 e2 e3;omega
 ·injection e with e1 e2 e3;omega
theorem aAm (g:Nat) (v1 v2:Value) (l1 l2:List Int) (w:World) (B:Nat) (hg:Row w g 22 [v1,v2]) (o1:w.ownsRow B 3 1 v1 l1.length (ints l1)) (o2:w.ownsRow B 3 1 v2 l2.length (ints l2)) (hz:l1.length+l2.length≤1000000000000) :
  Calls prog 373 #[.slice (some ⟨g,0,none⟩) 2 2] w fun e w'=>∃ v,e = .returned v∧w'.ownsRow w.heap.size 3 1 v (l1++l2).length (ints (l1++l2))∧Below w.heap.size w w':=by
 obtain ⟨ti,vM,uM⟩:=eZ.1 eF;simp only [fW] at uM;obtain ⟨jR,jS,jT⟩:=uM;have DH:=aA vM;have JG:=aA jR;have AH:=aA jS;have vN:=aA jT;clear vM jR jS jT;have HPT:=aA (show ∀ k acc,Acc l1 l2 k acc→k<2→∃ v l,w.cell? ⟨g,k,none⟩=some v∧w.ownsRow B 3 1 v l.length (ints l)∧Acc l1 l2 (k+1) (acc++l)∧acc.length+l.length≤1000000000000 by
  rintro k acc (⟨rfl,rfl⟩|⟨rfl,rfl⟩|⟨rfl,rfl⟩) hk
  ·exact ⟨v1,l1,hg.cell_of rfl,o1,.inr (.inl ⟨rfl,rfl⟩),by simp;omega⟩
  ·exact ⟨v2,l2,hg.cell_of rfl,o2,.inr (.inr ⟨rfl,rfl⟩),hz⟩
  ·omega)
 clear hg o1 o2;go_enter func373,ntmps373;go_wp2
 go_loop [3,11] (fun s i=>∃ (k:Nat) (acc:List Int),k≤2∧Acc l1 l2 k acc∧s = .int .i64 (acc.length:Int)∧i = .int .i64 (k:Int)) (fun _ i=>2-(intOf i).toNat)
 case atStart=>exact ⟨0,[],by omega,.inl ⟨rfl,rfl⟩,rfl,rfl⟩
 case round =>
  obtain ⟨k,acc,hk,hA,rfl,rfl⟩:=hrel
  by_cases hlt:k<2
  ·obtain ⟨v,l,hc,hv,hA2,hl2⟩:=HPT.out k acc hA hlt
   obtain ⟨⟨va,vc,rfl⟩,-⟩:=bM hv;have JD:=aA hA2;have hlt':(k:Int)<2:=by omega
   have WU:(0:Int)≤(k:Int):=by omega
   have hw:IntKind.i64.wrap ((acc.length:Int)+(l.length:Int))=(acc.length:Int)+(l.length:Int):=eS _ (by omega) (by omega);have hw2:¬(acc.length:Int)+(l.length:Int)<0:=by omega
   clear hA2 hA hv;go_wp2
   go_round
   case rel=>exact ⟨k+1,acc++l,by omega,JD.out,by simp,by go_num⟩
   case measure=>simp [intOf];omega
  ·have hlt':¬(k:Int)<2:=by omega
   have hal:acc.length≤1000000000000:=by
    rcases hA with ⟨rfl,rfl⟩|⟨rfl,rfl⟩|⟨rfl,rfl⟩
    ·omega
    ·omega
    ·simpa using hz
   clear hA;go_wp2_with fail;refine (aEG acc.length (by omega) _).mono ?_;rintro e w1 ⟨v0,rfl,ho0,hb0⟩;have HO0:=aA ho0;have fG:=aA hb0;clear ho0 hb0;go_wp2
   go_loopw [6,27] (fun o i w'=>∃ (k:Nat) (acc:List Int),k≤2∧Acc l1 l2 k acc∧i = .int .i64 (k:Int)∧w'.ownsRow w.heap.size 3 1 o acc.length (ints acc)∧Below w.heap.size w w') (fun _ i _=>2-(intOf i).toNat)
   case atStart=>exact ⟨0,[],by omega,.inl ⟨rfl,rfl⟩,rfl,HO0.out,fG.out⟩
   case round =>
    obtain ⟨k,acc,hk,hA,rfl,ho,hb⟩:=hrel;have HB:=aA hb;have hzb:=hb.size
    by_cases hlt:k<2
    ·obtain ⟨v,l,hc,hv,hA2,hl2⟩:=HPT.out k acc hA hlt
     obtain ⟨⟨va,vc,rfl⟩,-⟩:=bM hv;obtain ⟨⟨oa,oc,rfl⟩,-⟩:=bM ho;have JD:=aA hA2;have WS:=aI hb hc;have hlt':(k:Int)<2:=by omega
     have WU:(0:Int)≤(k:Int):=by omega
     have HO:=aA ho;have hle:=aDe ho
     by_cases h0:l.length=0
     ·have DV:l=[]:=List.length_eq_zero_iff.mp h0
      subst DV;have DG:=aA (NI va vc oa acc.length oc hle);have HN:=aA (show Acc l1 l2 (k+1) acc by have:=JD.out;rwa [List.append_nil] at this);clear hA2 hA hv ho hb hc h0 hle;go_wp2_with (at_builtin;refine Go.Lib.wpList_append_run _ rfl (.tmp 31) (.tmp 32) 22 22 rfl _ _ rfl rfl _ _ (DG.out _) ?_);go_roundw
      case rel=>exact ⟨k+1,acc,by omega,HN.out,by go_num,HO.out,HB.out⟩
      case measure=>simp [intOf];omega
     ·obtain ⟨gv,vc',ev,hcell⟩:=jD hv (i:=0) (u:=.int .i64 (l.headD 0)) (by cases l with|nil=>simp at h0|cons x l=>rfl)
      have e1:va=some ⟨gv,0,none⟩:=by injection ev
      subst e1;have HC:=aA (show ∀ j u,(ints l)[j]?=some u→wr.cell? ((⟨gv,0,none⟩:Addr).add j)=some u from fun j u hj=>by
       have:=hv.cells (g:=gv) rfl j u hj;rw [gS] at this ⊢;exact aI hb this)
      clear hA2 hA hv ho hb hc hcell ev;go_wp2_with (at_builtin;refine wpList_append_lies _ rfl (.tmp 31) (.tmp 32) 22 rfl w.heap.size 3 ti (.int .i64 0) 1 8 underlying22 DH.out JG.out AH.out vN.out rfl (by decide) (.slice oa acc.length oc) acc.length (ints acc) rfl HO.out ⟨gv,0,none⟩ l.length vc (ints l) rfl (by simp [ints]) HC.out (xX l) (by omega) (by unfold maxLen;omega) (by omega) hzb wr.heap.size rfl ?_);intro g4 EN w4 hown dP hat oQ;have HN:=aA (show w4.ownsRow w.heap.size 3 1 (.slice (some ⟨g4,0,none⟩) (acc.length+l.length) EN) (acc++l).length (ints (acc++l)) by
       rw [eD];have e3:ints (acc++l)=ints acc++ints l:=by simp [ints]
       rw [e3];exact hown)
      have FA:=aA (show Below w.heap.size w w4 from HB.out.grown dP hzb (fun q hq=>(HO.out.lt q hq).1));clear hown dP hat oQ;go_wp2;go_roundw
      case rel=>exact ⟨k+1,acc++l,by omega,JD.out,by go_num,HN.out,FA.out⟩
      case measure=>simp [intOf];omega
    ·have hlt':¬(k:Int)<2:=by omega
     have ea:acc=l1++l2:=by
      rcases hA with ⟨q,-⟩|⟨q,-⟩|⟨-,q⟩
      ·omega
      ·omega
      ·exact q
     have HEA:=aA ea;have HO:=aA ho;clear hA ea ho hb;go_wp2;go_ret;have ho9:=HO.out;rw [HEA.out] at ho9;exact ⟨_,rfl,by simpa using ho9,HB.out⟩
section
variable {I:Nat→Prop} {w:World} {p p1 p2:Option Addr} {s:List Int}
theorem ZO (q:kP I w s p) (hz:s.length≤1000000000000) :
  Calls prog 366 #[.agg #[],.pointer p] w fun e w'=>∃ v,e = .returned v∧w'.ownsRow w.heap.size 3 1 v s.length (ints s)∧Below w.heap.size w w':=by
 have HQ:=aA q;clear q;go_enter func366,ntmps366;go_wp2_with fail;generalize hW:World.alloc w _=W;have hb0:Below w.heap.size w W:=by rw [←hW];exact aB _ _
 have HB:=aA hb0;have HV:=aA (PM (show kP I W s p from HQ.out.stay fun k hk hl=>⟨hk,hb0.block k hl⟩) hz);clear hW hb0;refine HV.out.mono ?_;rintro e w3 ⟨v,rfl,ho,hb⟩;have HO:=aA ho;have oV:=aA hb;clear ho hb;go_wp2_with fail;go_ret;exact ⟨v,rfl,dW HO.out HB.out.size,aS HB.out oV.out HB.out.size⟩
theorem ZF (q:EK I w s p1 p2) (hz:s.length≤1000000000000) :
  Calls prog 371 #[.agg #[],.agg #[.pointer p1,.pointer p2]] w fun e w'=>∃ v,e = .returned v∧w'.ownsRow w.heap.size 3 1 v s.length (ints s)∧Below w.heap.size w w':=by
 obtain ⟨f,g,hfg,qf,qg⟩:=q;have hl:f.length+g.length≤1000000000000:=by rw [hfg] at hz;simpa using hz
 obtain ⟨gr,dP⟩:∃ gr,gr=g.reverse:=⟨_,rfl⟩;have hlr:f.length+gr.length≤1000000000000:=by rw [dP,List.length_reverse];exact hl
 rw [←dP] at hfg;have HFG:=aA hfg;have HGR:=aA dP;clear hfg dP;go_enter func371,ntmps371;go_upto_region 1 with fail;generalize hW:World.alloc (World.alloc w _) _=W;have hb0:Below w.heap.size w W:=by rw [←hW];exact ((aT _ _).alloc (bQ _) _).alloc (by simp) _
 have r3:Row W (w.heap.size+1) 146 [.pointer p1,.pointer p2]:=by rw [←hW];exact aV (by simp)
 have c0:=r3.cell_of (i:=0) rfl;have c1:=r3.cell_of (i:=1) rfl;have HF:=aA (show kP (KB I W.heap.size W) W f p1 from qf.stay fun k hk hl=>⟨.inl hk,hb0.block k hl⟩);have HG:=aA (show kP (KB I W.heap.size W) W g p2 from qg.stay fun k hk hl=>⟨.inl hk,hb0.block k hl⟩);have HB:=aA hb0;have hzW:=hb0.size;clear hW hb0 r3 qf qg;refine fH (S:=(fun w'=>Below W.heap.size W w'∧w'.cell? ⟨w.heap.size+1,0,none⟩=some (.pointer p1)∧w'.cell? ⟨w.heap.size+1,1,none⟩=some (.pointer p2))) 10 rfl (by kernel_rfl) ?_ (fun hHeld=>?_)
 ·exact ⟨(aT _ _).drew,c0,c1⟩
 iterate 2 (refine tk 9 (by rfl) (by kernel_rfl) (by exact fun _ _ _ h=>h) (.inl ⟨by rfl,fun w hS=>by (try dsimp only at hS);go_simp;(try with_reducible rfl)⟩) (by assumption) ?_;try go_frame)
 iterate 2 (refine tk 10 (by rfl) (by kernel_rfl) (by exact fun _ _ _ h=>h) (.inl ⟨by rfl,fun w hS=>by (try dsimp only at hS);go_simp;(try with_reducible rfl)⟩) (by assumption) ?_;try go_frame)
 refine cT 2 (by rfl) (by kernel_rfl) (fun K hK=>?_);go_simp;refine (PM (HF.out.later hHeld.1) (by omega)).mono ?_;rintro e w2 ⟨v2,rfl,o2',bI⟩;obtain ⟨⟨a2,k2,rfl⟩,-⟩:=bM o2';have o2:=dW o2' (aW _);clear o2';go_wp2_with fail;refine hK.out _ _ ?_ (fun hHeld=>?_)
 ·exact ⟨aS hHeld.1 bI hHeld.1.size,aI bI hHeld.2.1,aI bI hHeld.2.2⟩
 clear hK K
 (try go_frame)
 refine cT 5 (by rfl) (by kernel_rfl) (fun K hK=>?_);go_simp;refine (OX (I:=I) (B:=W.heap.size) (HG.out.later hHeld.1) hHeld.1.size (by omega)).mono ?_;rintro e w5 ⟨p5,rfl,t5,xU⟩;rw [←HGR.out] at t5;go_wp2_with fail;refine hK.out _ _ ?_ (fun hHeld=>?_)
 ·exact ⟨aS hHeld.1 xU hHeld.1.size,aI xU hHeld.2.1,aI xU hHeld.2.2⟩
 clear hK K
 (try go_frame)
 refine cT 6 (by rfl) (by kernel_rfl) (fun K hK=>?_);go_simp;refine (PM t5 (by omega)).mono ?_;rintro e w6 ⟨v6,rfl,o6',hb6⟩;obtain ⟨⟨a6,k6,rfl⟩,-⟩:=bM o6';have o6:=dW o6' (aW _);have o26:=eJ (eJ o2 xU) hb6;clear o6';go_wp2_with fail;refine hK.out _ _ ?_ (fun hHeld=>?_)
 ·exact ⟨aS hHeld.1 hb6 hHeld.1.size,aI hb6 hHeld.2.1,aI hb6 hHeld.2.2⟩
 clear hK K
 (try go_frame)
 refine cT 7 (by rfl) (by kernel_rfl) (fun K hK=>?_);go_simp;refine hK.out _ _ ?_ (fun hHeld=>?_)
 ·exact ⟨aS hHeld.1 (aB _ _) hHeld.1.size,aI (aB _ _) hHeld.2.1,aI (aB _ _) hHeld.2.2⟩
 clear hK K
 (try go_frame)
 refine cT 8 (by rfl) (by kernel_rfl) (fun K hK=>?_);go_simp;refine (aAm w6.heap.size _ _ f gr _ 0 (aV (by simp)) (o26.alloc _) (o6.alloc _) hlr).mono ?_;rintro e w8 ⟨v8,rfl,o8',hb8⟩;have HO8:=aA (show w8.ownsRow w.heap.size 3 1 v8 s.length (ints s) by rw [HFG.out];exact dW o8' (by have:=hHeld.1.size;omega));clear o8';go_wp2_with fail;refine hK.out _ _ ?_ (fun hHeld=>?_)
 ·exact ⟨aS hHeld.1 hb8 hHeld.1.size,aI hb8 hHeld.2.1,aI hb8 hHeld.2.2⟩
 clear hK K
 (try go_frame)
 iterate 1 (refine tk 9 (by rfl) (by kernel_rfl) (by exact fun _ _ _ h=>h) (.inl ⟨by rfl,fun w hS=>by (try dsimp only at hS);go_simp;(try with_reducible rfl)⟩) (by assumption) ?_;try go_frame)
 refine cC (by kernel_rfl) ?_ _;go_wp2_with fail;go_ret;exact ⟨v8,rfl,HO8.out,aS HB.out hHeld.1 HB.out.size⟩
end
def jw:list.SR (List Int) where
 sz s:=s.length
 rep I w s c:=∃ p,c=[.pointer p]∧kP I w s p
 len h:=by obtain ⟨p,e,-⟩:=h;rw [e];rfl
 shape h v hv:=by obtain ⟨p,e,-⟩:=h;rw [e] at hv;exact ⟨_,oP.mp hv⟩
 stay hk h:=by obtain ⟨p,e,q⟩:=h;exact ⟨p,e,q.stay hk⟩
theorem KZ:M.xP (fun s:List Int=>s.length) pM:=by
 refine ⟨aW _,fun s o=>?_⟩;show List.length (Prod.fst (if _ then _ else _))≤_
 split
 ·simp
 ·split
  ·simp;omega
  ·simp
theorem VK (w:World):(method 553 143 (.agg #[]) "Apply").run prog w = .ok (365,.agg #[]) w:=by kernel_rfl
theorem VJ (s o:Value) (w:World):(callFunc 365 #[.agg #[],s,o]).run prog w = .ok (.enter 365 #[.agg #[],s,o]) w:=by kernel_rfl
theorem VP (w:World):(method 553 143 (.agg #[]) "Tell").run prog w = .ok (366,.agg #[]) w:=by kernel_rfl
theorem VO (s:Value) (w:World):(callFunc 366 #[.agg #[],s]).run prog w = .ok (.enter 366 #[.agg #[],s]) w:=by kernel_rfl
theorem aDn (L:int.Lt) (ho:L.oT=143) (hv:L.ov = .agg #[]):list.bG jw pM L 365 (.agg #[]):=by
 refine ⟨KZ,fun W=>by rw [ho,hv];exact VK W,fun s o W=>VJ s o W,fun I W s x op hr hsz hI=>?_⟩;obtain ⟨p,e,q⟩:=hr;have hx:x = .pointer p:=by simpa using e
 subst hx;obtain ⟨c,a,b⟩:=op;refine (VL q hI hsz).mono ?_;rintro e' w' ⟨p',rfl,t',hb⟩;exact ⟨.pointer p',rfl,⟨p',rfl,t'⟩,hb⟩
theorem aDo (L:int.Lt) (ho:L.oT=143) (hv:L.ov = .agg #[]):list.tR jw L (fun s=>s) 366 (.agg #[]) where
 m W:=by rw [ho,hv];exact VP W
 c s W:=VO s W
 f I W s x hr hsz hI:=by
  obtain ⟨p,e,q⟩:=hr;have hx:x=p:=by simpa using e
  subst hx;exact ZO q hsz
def jn:row.SR (List Int) where
 sz s:=s.length
 rep I w s c:=∃ p1 p2,c=[.pointer p1,.pointer p2]∧EK I w s p1 p2
 len h:=by obtain ⟨p1,p2,e,-⟩:=h;rw [e];rfl
 shape h v hv:=by
  obtain ⟨p1,p2,e,-⟩:=h;rw [e] at hv
  rcases BK.mp hv with h|h
  ·exact ⟨_,h⟩
  ·exact ⟨_,oP.mp h⟩
 stay hk h:=by obtain ⟨p1,p2,e,q⟩:=h;exact ⟨p1,p2,e,q.stay hk⟩
theorem KY:M.xP (fun s:List Int=>s.length) sS:=by
 refine ⟨aW _,fun s o=>?_⟩;show List.length (Prod.fst (if _ then _ else _))≤_
 split
 ·simp
 ·split
  ·simp;omega
  ·simp
theorem UU (w:World):(method 553 147 (.agg #[]) "Apply").run prog w = .ok (370,.agg #[]) w:=by kernel_rfl
theorem UT (s o:Value) (w:World):(callFunc 370 #[.agg #[],s,o]).run prog w = .ok (.enter 370 #[.agg #[],s,o]) w:=by kernel_rfl
theorem VA (w:World):(method 553 147 (.agg #[]) "Tell").run prog w = .ok (371,.agg #[]) w:=by kernel_rfl
theorem UZ (s:Value) (w:World):(callFunc 371 #[.agg #[],s]).run prog w = .ok (.enter 371 #[.agg #[],s]) w:=by kernel_rfl
theorem aDi (L:int.Lt) (ho:L.oT=147) (hv:L.ov = .agg #[]):row.bG jn sS L 370 (.agg #[]):=by
 refine ⟨KY,fun W=>by rw [ho,hv];exact UU W,fun s o W=>UT s o W,fun I W s x0 x1 op hr hsz hI=>?_⟩;obtain ⟨p1,p2,e,q⟩:=hr;obtain ⟨rfl,rfl⟩:x0 = .pointer p1∧x1 = .pointer p2:=by simpa using e
 obtain ⟨c,a,b⟩:=op;refine (UW q hI hsz (s':=(sS.apply s ⟨c,a,b⟩).1) (x:=(sS.apply s ⟨c,a,b⟩).2.s) (y:=(sS.apply s ⟨c,a,b⟩).2.v) rfl).mono ?_;rintro e' w' ⟨q1,q2,rfl,t',hb⟩;exact ⟨.pointer q1,.pointer q2,rfl,⟨q1,q2,rfl,t'⟩,hb⟩
theorem aDj (L:int.Lt) (ho:L.oT=147) (hv:L.ov = .agg #[]):row.tR jn L (fun s=>s) 371 (.agg #[]) where
 m W:=by rw [ho,hv];exact VA W
 c s W:=UZ s W
 f I W s x0 x1 hr hsz hI:=by
  obtain ⟨p1,p2,e,q⟩:=hr;obtain ⟨rfl,rfl⟩:x0=p1∧x1=p2:=by simpa using e
  exact ZF q hsz
theorem YQ {P:M.Plain (List Int)} (hg:M.xP (fun s:List Int=>s.length) P) (D:DL) (hn:D.n≤64):pE P (fun s=>s) D:=by
 intro Y hy hL;rw [lD,GR];have h1:=M.yB hg (fun k i=>((Y.th k).ops).getD i ⟨0,0,0⟩) Y.bs;have h2:=hy.all hn (B:=1000000000) hL.1;have h3:(M.replay P (fun k i=>((Y.th k).ops).getD i ⟨0,0,0⟩) Y.bs).st.length≤2+2*Y.bs.flatten.length:=h1;have h4:2+2*Y.bs.flatten.length≤1000000000000:=by omega
 exact bK h3 h4
theorem jv (n cap:Nat) (st co:Int) (nx ou:List Int) (vn vo:Value) (hn:1≤n) (vO:n≤64) (hc:cap≤64):ND n 2 (cap:Int) st co nx ou vn vo (fun w b w'=>list.dL w n (cap:Int) 143 (.agg #[]) b w') where
 ref W _ _:=tZ _ st co nx ou vn vo W 2 n (by decide) (by decide) hn vO (by omega) (by omega)
 new W u1 u2 s1 s2:=aDa n _ st co nx ou u1 u2 W s1 s2 hn vO (by omega) (by omega)
 qQ W b W' h:=by
  obtain ⟨bN,h1,h2,-⟩:=h;exact ⟨_,bN,h1,h2.below.1⟩
theorem jm (n cap:Nat) (st co:Int) (nx ou:List Int) (vn vo:Value) (hn:1≤n) (vO:n≤64) (hc:cap≤64):ND n 3 (cap:Int) st co nx ou vn vo (fun w b w'=>row.dL w n (cap:Int) 147 (.agg #[]) b w') where
 ref W _ _:=tZ _ st co nx ou vn vo W 3 n (by decide) (by decide) hn vO (by omega) (by omega)
 new W u1 u2 s1 s2:=xe n _ st co nx ou u1 u2 W s1 s2 hn vO (by omega) (by omega)
 qQ W b W' h:=by
  obtain ⟨bN,h1,h2,-⟩:=h;exact ⟨_,bN,h1,h2.below.1⟩
section
variable {I:Nat→Prop} {B:Nat} {w:World} {p:Option Addr} {s:gX} {h:Nat} {a b:Int}
def aAz (o:Option Int):Value:=match o with|some v=>.tuple #[.int .i64 v,.bool true]|none=>.tuple #[.int .i64 0,.bool false]
theorem aEF (q:Tr I w p s h) (hs:vJ s):Calls prog 377 #[.pointer p,.int .i64 a] w fun e w'=>e = .returned (aAz (nT s a))∧w'=w:=by
 obtain ⟨d,q⟩:=q;have HQ:=aA q;have HS:=aA hs;clear q hs;go_enter func377,ntmps377;go_wp2
 go_loopg [0] d (fun g v w'=>∃ p' s1 h1,v = .pointer p'∧w'=w∧lH I w g p' s1 h1∧vJ s1∧nT s a=nT s1 a)
 case atStart=>exact ⟨p,s,h,rfl,rfl,HQ.out,HS.out,rfl⟩
 case round =>
  obtain ⟨p',s1,h1,rfl,rfl,hq,hA,hm⟩:=hrel;have HM:=aA hm;have HA:=aA hA;have hc:(p'=none∧s1=[]∧h1=0)∨∃ d' b1 pl pr e sl sr hl hr,gk=d'+1∧p'=some ⟨b1,0,none⟩∧Row wr b1 375 (wY e pl pr h1)∧lH I wr d' pl sl hl∧lH I wr d' pr sr hr∧s1=sl++e::sr:=by
   cases gk with
   |zero=>exact .inl hq
   |succ d' =>
    rcases hq with q|⟨b1,pl,pr,e,sl,sr,hl,hr,h1,-,h3,h4,h5,h6,-⟩
    ·exact .inl q
    ·exact .inr ⟨d',b1,pl,pr,e,sl,sr,hl,hr,rfl,h1,h3,h4,h5,h6⟩
  clear hq hA hm
  rcases hc with ⟨rfl,rfl,-⟩|⟨d',b1,pl,pr,e,sl,sr,hl,hr,rfl,rfl,hR,tl,tr,rfl⟩
  ·have e0:nT ([]:gX) a=none:=rfl
   go_wp2
   go_ret2
   rw [HM.out,e0];exact ⟨rfl,rfl⟩
  ·unfold wY at hR
   have c0:=hR.cell_of (i:=0) rfl;have c1:=hR.cell_of (i:=1) rfl;have c2:=hR.cell_of (i:=2) rfl;have c3:=hR.cell_of (i:=3) rfl;obtain ⟨as1,as2,-,-⟩:=mR.mp HA.out;have HTL:=aA (aP tl as1);have HTR:=aA (aP tr as2);clear tl tr as1 as2 hR
   by_cases ce:e.1=a
   ·have HG:=aA (nv HA.out ce)
    subst ce;go_wp2
    go_ret2
    rw [HM.out,HG.out];exact ⟨rfl,rfl⟩
   ·by_cases ca:a<e.1
    ·have HG:=aA (XV HA.out ca)
     go_wp2
     go_roundg d'
     case measure=>omega
     case rel=>exact ⟨pl,sl,hl,rfl,rfl,HTL.out.1,HTL.out.2,HM.out.trans HG.out⟩
    ·have HG:=aA (RQ HA.out (show e.1<a by omega))
     go_wp2
     go_roundg d'
     case measure=>omega
     case rel=>exact ⟨pr,sr,hr,rfl,rfl,HTR.out.1,HTR.out.2,HM.out.trans HG.out⟩
theorem aC4 {e:Int×Int} {s':gX} (q:Tr I w p (e::s') h):Calls prog 384 #[.pointer p] w fun e' w'=>e' = .returned (.agg #[.int .i64 e.1,.int .i64 e.2])∧Below w.heap.size w w':=by
 obtain ⟨d,q⟩:=q;go_enter func384,ntmps384;go_upto_region 1 with fail;generalize hW:World.alloc w _=W;have hb0:Below w.heap.size w W:=by rw [←hW];exact aB _ _
 have r4:Row W w.heap.size 373 [.int .i64 0,.int .i64 0]:=by rw [←hW];exact aV (by simp)
 have HQ:=aA (show lH I W d p (e::s') h from q.stay fun k hk hl=>⟨hk,hb0.block k hl⟩);have HB:=aA hb0;have HR:=aA r4;clear q hW hb0 r4
 go_loopg [0] d (fun g v w'=>∃ p' s1 h1,v = .pointer p'∧w'=W∧lH I W g p' (e::s1) h1)
 case atStart=>exact ⟨p,s',h,rfl,rfl,HQ.out⟩
 case round =>
  obtain ⟨p',s1,h1,rfl,rfl,hq⟩:=hrel;have hc:∃ d' b1 pl pr e' sl sr hl,gk=d'+1∧p'=some ⟨b1,0,none⟩∧Row wr b1 375 (wY e' pl pr h1)∧lH I wr d' pl sl hl∧e::s1=sl++e'::sr:=by
   cases gk with
   |zero=>exact absurd hq.2.1 (by simp)
   |succ d' =>
    rcases hq with q|⟨b1,pl,pr,e',sl,sr,hl,hr,h1,-,h3,h4,-,h6,-⟩
    ·exact absurd q.2.1 (by simp)
    ·exact ⟨d',b1,pl,pr,e',sl,sr,hl,rfl,h1,h3,h4,h6⟩
  clear hq;obtain ⟨d',b1,pl,pr,e',sl,sr,hl,rfl,rfl,hR,tl,hse⟩:=hc;unfold wY at hR;have c0:=hR.cell_of (i:=0) rfl;have c1:=hR.cell_of (i:=1) rfl;have c2:=hR.cell_of (i:=2) rfl
  rcases Tr.cases ⟨d',tl⟩ with ⟨rfl,rfl,-⟩|⟨b2,-,-,e2,sl2,sr2,-,-,rfl,-,-,-,-,rfl,-⟩
  ·have ee:e=e':=by simpa using (List.cons.inj hse).1
   subst ee;have y0:=HR.out.cell_of (i:=0) rfl;have y1:=HR.out.cell_of (i:=1) rfl;have z0:=HR.out.frozen 0;have z1:=HR.out.frozen 1;have sB:=aA (HR.out.set 0 (.int .i64 e.1) |>.set 1 (.int .i64 e.2));clear hse tl hR;go_wp2;have q1:=sB.out.cell_of (i:=0) rfl;have q2:=sB.out.cell_of (i:=1) rfl;exact cR (v:=.agg #[.int .i64 e.1,.int .i64 e.2]) (by simp [results,results384,go_sem,q1,q2]) rfl ⟨rfl,(HB.out.setCell (by simp) _).setCell (by simp) _⟩
  ·have hx:∃ s9,e::s9=sl2++e2::sr2:=by
    cases sl2 with
    |nil=>simp at hse;exact ⟨sr2,by rw [hse.1];rfl⟩
    |cons x l=>simp at hse;exact ⟨l++e2::sr2,by rw [hse.1];rfl⟩
   obtain ⟨s9,hx⟩:=hx;rw [←hx] at tl;have HTL:=aA tl;clear tl hse hx hR;go_wp2
   go_roundg d'
   case measure=>omega
   case rel=>exact ⟨_,s9,hl,rfl,rfl,HTL.out⟩
end
end Go.Proofs.YtefjhnhdagolhaaGreat
