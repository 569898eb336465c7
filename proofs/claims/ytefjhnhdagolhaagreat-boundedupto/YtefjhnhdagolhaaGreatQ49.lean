import Derived.Test.YtefjhnhdagolhaaGreatQ39
import Derived.Test.YtefjhnhdagolhaaGreatQ17
import Derived.Test.YtefjhnhdagolhaaGreatQ47
import Derived.Test.YtefjhnhdagolhaaGreatQ35
import Derived.Test.YtefjhnhdagolhaaGreatQ14
import Derived.Test.YtefjhnhdagolhaaGreatQ29
import Derived.Test.YtefjhnhdagolhaaGreatQ10
import Derived.Test.YtefjhnhdagolhaaGreatQ40
import Derived.Test.YtefjhnhdagolhaaGreatQ11
import Derived.Lib.AppendZeros
import Derived.Deep.Upon
import Derived.Test.YtefjhnhdagolhaaGreatQ43
import Derived.Test.YtefjhnhdagolhaaGreatRows
import Derived.Test.YtefjhnhdagolhaaGreatQ41
import Derived.Test.YtefjhnhdagolhaaGreatQ48
import Derived.Test.YtefjhnhdagolhaaGreatQ45
set_option maxHeartbeats 4000000
set_option maxRecDepth 100000
namespace Go.Proofs.YtefjhnhdagolhaaGreat
open Go.RowKit
open M (aI aC aD aP bA Dd PI sH)
attribute [local go_sem ↓] Go.wp_at_zero Go.wp_at_succ
section
variable {σ:Type} {P:M.Plain σ} {tell:σ→List Int} {w:World} {Y:aP} {ds:List Dd} {c n cap:Nat} {u:Nat→Option Nat}
theorem aAn {w:World} {b:Nat} {t:TypeId} {x0 x1 x2 x3 x4 x5 x6:Value} (h:Row w b t [x0,x1,x2,x3,x4,x5,x6]):w.cell? ⟨b,0,none⟩=some x0∧w.cell? ⟨b,1,none⟩=some x1∧w.cell? ⟨b,2,none⟩=some x2∧w.cell? ⟨b,3,none⟩=some x3∧w.cell? ⟨b,4,none⟩=some x4∧w.cell? ⟨b,5,none⟩=some x5∧w.cell? ⟨b,6,none⟩=some x6:=⟨h.cell_of rfl,h.cell_of rfl,h.cell_of rfl,h.cell_of rfl,h.cell_of rfl,h.cell_of rfl,h.cell_of rfl⟩
end
section
variable {σ:Type} {P:M.Plain σ} {tell:σ→List Int} {ok:σ→Prop} {Hp:Nat→Nat→σ→World→Prop}
def aAf (P:M.Plain σ) (ok:σ→Prop):Prop:=∃ sz:σ→Nat,M.qA sz P∧∀ s,sz s≤200000000000→ok s
theorem aAf.fits (h:aAf P ok) {Y:aP} {k:Nat} (hk:k≤90000000000):ok (VC P Y k).st:=by
 obtain ⟨sz,h1,h2⟩:=h
 refine h2 _ ?_
 have h3:=M.VN h1 (fun k i=>((Y.th k).ops).getD i ⟨0,0,0⟩) (Y.bs.flatten.take k) (M.Rp.new P)
 have h4:=List.length_take_le k Y.bs.flatten
 have h5:sz (M.Rp.new P).st≤2:=h1.1
 show sz (M.Rp.run _ _ _ _).st≤_
 omega
end
end Go.Proofs.YtefjhnhdagolhaaGreat
namespace Go.Proofs.YtefjhnhdagolhaaGreat
open Go.RowKit
attribute [local go_sem ↓] Go.wp_at_zero Go.wp_at_succ
theorem SS (L:int.Lt) (ho:L.oT=140) (hv:L.ov = .agg #[]):int.sY xO L (fun s=>[s]) 362 (.agg #[]) where
 m W:=by rw [ho,hv];kernel_rfl
 c s W:=EN s W
 f I W s x hr _ _:=by
  have e:x=s:=by simpa [xO] using hr
  subst e
  exact KK x W
section
variable {I:Nat→Prop} {w:World} {p1 p2:Option Addr} {s:List Int} {c a b:Int}
theorem JE {s':List Int} {x y:Int} (q:wE I w s p1 p2) (hI:∀ k,I k→k<w.heap.size) (hz:s.length≤1000000000000) (hr:(s',(⟨x,y⟩:M.TF))=pT.apply s ⟨c,a,b⟩) :
  Calls Tryz.prog 370 #[.agg #[],.agg #[.pointer p1,.pointer p2],.agg #[.int .i64 c,.int .i64 a,.int .i64 b]] w (BF I w s' x y):=by
 have lX:=aA hr
 clear hr
 go_enter Tryz.func370,Tryz.ntmps370
 go_upto_region 1 with fail
 generalize hW:World.alloc (World.alloc (World.alloc (World.alloc (World.alloc w _) _) _) _) _=W
 have hb0:Below w.heap.size w W:=by rw [←hW];exact ((((aB w _).alloc (by simp) _).alloc (by simp;omega) _).alloc (by simp;omega) _).alloc (by simp;omega) _
 have r4:Row W (w.heap.size+1) 146 [.pointer p1,.pointer p2]:=by rw [←hW];exact (((Row.new' (by simp)).alloc _).alloc _).alloc _
 have r5:Row W (w.heap.size+1+1) 36 [.int .i64 c,.int .i64 a,.int .i64 b]:=by rw [←hW];exact ((Row.new' (by simp)).alloc _).alloc _
 have r6:Row W (w.heap.size+1+1+1) 146 [.pointer none,.pointer none]:=by rw [←hW];exact (Row.new' (by simp)).alloc _
 have r7:Row W (w.heap.size+1+1+1+1) 94 [.int .i64 0,.int .i64 0]:=by rw [←hW];exact Row.new' (by simp)
 have o0:=r5.cell_of (i:=0) rfl
 have o1:=r5.cell_of (i:=1) rfl
 have c0:=r4.cell_of (i:=0) rfl
 have c1:=r4.cell_of (i:=1) rfl
 have hlt:=r7.lt
 have jD:=aA hb0
 have HR4:=aA r4
 have YL:=aA r6
 have yC:=aA r7
 have t6:W.there (w.heap.size+1+1+1) 0 2:=r6.there (by simp)
 have t7:W.there (w.heap.size+1+1+1+1) 0 2:=r7.there (by simp)
 have HQ:=aA (show wE (KB I W.heap.size W) W s p1 p2 from q.stay fun k hk hl=>⟨.inl hk,hb0.block k hl⟩)
 have HQ0:=aA (show wE I W s p1 p2 from q.stay fun k hk hl=>⟨hk,hb0.block k hl⟩)
 have HIW:=aA (show ∀ k,I k→k<W.heap.size from fun k hk=>Nat.lt_of_lt_of_le (hI k hk) hb0.size)
 clear hW hb0 r4 r5 r6 r7 q
 by_cases k1:c=1
 ·subst k1
  obtain ⟨f,g,hfg,qf,qg⟩:=HQ.out
  have hlen:s.length=f.length+g.length:=by rw [hfg];simp
  have e9:=lX.out
  simp only [pT,if_true,Prod.mk.injEq,M.TF.mk.injEq] at e9
  obtain ⟨e1,e2,e3⟩:=e9
  subst e2
  obtain ⟨n1,zF⟩:∃ n:Nat,n=s.length+1:=⟨_,rfl⟩
  rw [←zF] at e3
  subst e3
  have HS':=aA e1
  have HFG:=aA hfg
  have HF:=aA qf
  clear lX e1 hfg qf
  go_wp2_with fail
  refine (OT (I:=I) (B:=W.heap.size) (x:=a) qg (Nat.le_refl _) (by omega)).mono ?_
  rintro e w3 ⟨b3,rfl,t3,cE⟩
  have m4:=HR4.out.old cE
  have y1:=m4.cell_of (i:=1) rfl
  have z1:=m4.frozen 1
  have hz3:=cE.size
  have tD:=aA t3
  have tH:=aA cE
  have HM4:=aA m4
  clear t3 cE m4 c0 c1 qg
  go_upto_region 4 with fail
  generalize oG:World.setCell w3 _ _=W3
  have r4:Row W3 (w.heap.size+1) 146 [.pointer p1,.pointer (some ⟨b3,0,none⟩)]:=by rw [←oG];exact HM4.out.set 1 _
  have JX:∀ k,k≠w.heap.size+1→W3.heap[k]?=w3.heap[k]?:=fun k hk=>by rw [←oG,Below.heap_setCell _ _ _ k hk]
  have hz4:W3.heap.size=w3.heap.size:=by rw [←oG];simp [World.setCell]
  have HBW:=aA (show Below w.heap.size w W3 by rw [←oG];exact (Below.next jD.out tH.out jD.out.size).setCell (by simp) _)
  replace t6:W3.there (w.heap.size+1+1+1) 0 2:=((YL.out.old tH.out).of_block (JX _ (by omega))).there (by simp)
  replace t7:W3.there (w.heap.size+1+1+1+1) 0 2:=((yC.out.old tH.out).of_block (JX _ (by omega))).there (by simp)
  have stay:∀ k,KB I W.heap.size w3 k→k<w3.heap.size→KB I W.heap.size W3 k∧W3.heap[k]?=w3.heap[k]?:=fun k hk hl=>by
   rcases hk with hk|hk
   ·exact ⟨.inl hk,JX k (by have:=hI k hk;omega)⟩
   ·exact ⟨.inr ⟨hk.1,by omega⟩,JX k (by omega)⟩
  have qa:iY (KB I W.heap.size W3) W3 (a::g) (some ⟨b3,0,none⟩):=tD.out.stay stay
  have qf:iY (KB I W.heap.size W3) W3 f p1:=(HF.out.later tH.out).stay stay
  have HQ3:=aA (show wE (KB I W.heap.size W3) W3 s' p1 (some ⟨b3,0,none⟩) from ⟨f,a::g,by rw [HS'.out,HFG.out];simp,qf,qa⟩)
  have c0:=r4.cell_of (i:=0) rfl
  have c1:=r4.cell_of (i:=1) rfl
  have HZ1:=aA (DT (show iY (KB I W.heap.size W3) W3.drew f p1 from qf.stay (w:=W3) (w':=W3.drew) fun k hk _=>⟨hk,rfl⟩))
  have HZ2:=aA (DT (show iY (KB I W.heap.size W3) W3.drew (a::g) (some ⟨b3,0,none⟩) from qa.stay (w:=W3) (w':=W3.drew) fun k hk _=>⟨hk,rfl⟩))
  obtain ⟨nf,hnf⟩:∃ n:Nat,n=f.length:=⟨_,rfl⟩
  obtain ⟨ng,hng⟩:∃ n:Nat,n=(a::g).length:=⟨_,rfl⟩
  rw [←hnf] at HZ1
  rw [←hng] at HZ2
  have hw:IntKind.i64.wrap ((nf:Int)+(ng:Int))=(n1:Int):=by
   simp only [List.length_cons] at hng
   rw [dP _ (by omega) (by omega)]
   omega
  clear oG JX hnf hng zF hlen stay r4 qa qf y1 z1 o0 o1
  refine fR (S:=(fun w'=>w'.there (w.heap.size+1+1+1) 0 2∧w'.there (w.heap.size+1+1+1+1) 0 2∧w'.cell? ⟨w.heap.size+1,0,none⟩=some (.pointer p1)∧w'.cell? ⟨w.heap.size+1,1,none⟩=some (.pointer (some ⟨b3,0,none⟩))∧w'.cell? ⟨w.heap.size+1,0,none⟩=some (.pointer p1)∧w'.cell? ⟨w.heap.size+1,1,none⟩=some (.pointer (some ⟨b3,0,none⟩)))) 11 rfl (by kernel_rfl) ?_ (fun hHeld=>?_)
  ·exact ⟨t6,t7,c0,c1,c0,c1⟩
  iterate 3 (refine tk 10 (by rfl) (by kernel_rfl) (by exact fun _ _ _ h=>h) (.inl ⟨by rfl,fun w hS=>by (try dsimp only at hS);go_simp;(try with_reducible rfl)⟩) (by assumption) ?_;try go_frame)
  iterate 2 (refine tk 11 (by rfl) (by kernel_rfl) (by exact fun _ _ _ h=>h) (.inl ⟨by rfl,fun w hS=>by (try dsimp only at hS);go_simp;(try with_reducible rfl)⟩) (by assumption) ?_;try go_frame)
  refine bQ 3 (by rfl) (by kernel_rfl) (fun K hK=>?_)
  go_simp
  refine HZ1.out.mono ?_
  rintro e w5 ⟨rfl,rfl⟩
  go_wp2_with fail
  refine hK.out _ _ ?_ (fun hHeld=>?_)
  ·exact hHeld
  clear hK K
  (try go_frame)
  refine bQ 6 (by rfl) (by kernel_rfl) (fun K hK=>?_)
  go_simp
  refine HZ2.out.mono ?_
  rintro e w5 ⟨rfl,rfl⟩
  go_wp2_with fail
  refine hK.out _ _ ?_ (fun hHeld=>?_)
  ·exact hHeld
  clear hK K
  (try go_frame)
  iterate 1 (refine tk 10 (by rfl) (by kernel_rfl) (by exact fun _ _ _ h=>h) (.inl ⟨by rfl,fun w hS=>by (try dsimp only at hS);go_simp;(try with_reducible rfl)⟩) (by assumption) ?_;try go_frame)
  refine bQ 8 (by rfl) (by kernel_rfl) (fun K hK=>?_)
  go_simp
  refine (rA _ _).mono ?_
  rintro e w4 ⟨rfl,cT⟩
  have XJ:=aA (Below.bR cT)
  go_wp2_with fail
  refine hK.out _ _ ?_ (fun hHeld=>?_)
  ·exact ⟨aT cT hHeld.1,aT cT hHeld.2.1,cell_later cT hHeld.2.2.1,cell_later cT hHeld.2.2.2.1,cell_later cT hHeld.2.2.2.2.1,cell_later cT hHeld.2.2.2.2.2⟩
  clear hK K
  (try go_frame)
  refine bQ 9 (by rfl) (by kernel_rfl) (fun K hK=>?_)
  rw [if_pos (by rfl)]
  have e1:=World.rangeAt_setCells_same _ (w.heap.size+1+1+1) 0 [.pointer p1,.pointer (some ⟨b3,0,none⟩)] hHeld.1
  refine wp_store_mid _ _ _ rfl _ 0 #[.pointer p1,.pointer (some ⟨b3,0,none⟩)] rfl rfl hHeld.1 (by kernel_rfl) (by simp [Value.oneCell']) ?_
  refine hK.out _ _ ?_ (fun hHeld=>?_)
  ·exact vU hHeld (by omega) (by omega) (by omega) (by omega)
  clear hK K
  (try go_frame)
  refine bQ 10 (by rfl) (by kernel_rfl) (fun K hK=>?_)
  rw [if_pos (by rfl)]
  have e2:=World.rangeAt_setCells_same _ (w.heap.size+1+1+1+1) 0 [.int .i64 1,.int .i64 (n1:Int)] hHeld.2.1
  have e3:=World.rangeAt_setCells_apart e1 (w.heap.size+1+1+1+1) 0 [.int .i64 1,.int .i64 (n1:Int)] (.inl (by omega))
  refine wp_store_mid _ _ _ rfl _ 0 #[.int .i64 1,.int .i64 (n1:Int)] rfl rfl hHeld.2.1 (by kernel_rfl) (by simp [Value.oneCell']) ?_
  refine hK.out _ _ ?_ (fun hHeld=>?_)
  ·exact vU hHeld (by omega) (by omega) (by omega) (by omega)
  clear hK K
  (try go_frame)
  refine wpAnyH_done (by kernel_rfl) ?_ _
  have q1:=e3 0 _ rfl
  have q2:=e3 1 _ rfl
  have q3:=e2 0 _ rfl
  have q4:=e2 1 _ rfl
  have HE:=aA (vO (N:=W.heap.size) (b6:=w.heap.size+1+1+1) (b7:=w.heap.size+1+1+1+1) hI (by omega) (by omega) (by omega) hlt HBW.out HQ3.out [.pointer p1,.pointer (some ⟨b3,0,none⟩)] [.int .i64 1,.int .i64 (n1:Int)] XJ.out)
  clear hHeld e1 e2 e3
  go_wp2_with fail
  exact bodyPost_ret (v:=.tuple #[.agg #[.pointer p1,.pointer (some ⟨b3,0,none⟩)],.agg #[.int .i64 1,.int .i64 (n1:Int)]]) (by simp [results,Tryz.results370,go_sem,q1,q2,q3,q4]) rfl ⟨_,_,rfl,HE.out.1,HE.out.2⟩
 ·by_cases k2:c=2
  ·subst k2
   have e9:=lX.out
   simp only [pT,if_true] at e9
   rw [if_neg (by decide)] at e9
   simp only [Prod.mk.injEq] at e9
   obtain ⟨e1,e2⟩:=e9
   obtain ⟨f,g,hfg,qf,qg⟩:=HQ0.out
   have HTK:=aA (show Calls Tryz.prog 184 #[.agg #[.pointer p1,.pointer p2]] W (BF I W s' x y) by
    cases f with
    |nil =>
     have hp:p1=none:=qf
     subst hp
     rw [List.nil_append] at hfg
     refine SV qg HIW.out (by have:=hz;rw [hfg,List.length_reverse] at this;exact this) (by rw [e1,hfg]) ?_ ?_
     ·rw [hfg] at e2;by_cases h0:g.reverse=[]
      ·rw [if_pos h0] at e2 ⊢;injection e2
      ·rw [if_neg h0] at e2 ⊢;injection e2
     ·rw [hfg] at e2;by_cases h0:g.reverse=[]
      ·rw [if_pos h0] at e2;rw [h0];injection e2
      ·rw [if_neg h0] at e2;injection e2
    |cons z f =>
     rw [hfg] at e1 e2
     rw [if_neg (by simp)] at e2
     injection e2 with e3 e4
     have e1:s'=f++g.reverse:=by simpa using e1
     have e4:y=z:=by simpa using e4
     subst e1 e3 e4
     exact OU qf qg HIW.out)
   clear e1 e2 hfg qf qg lX
   go_wp2_with fail
   refine HTK.out.mono ?_
   rintro e w3 ⟨q1,q2,rfl,t3,cE⟩
   have m6:=YL.out.old cE
   have m7:=yC.out.old cE
   have y0:=m6.cell_of (i:=0) rfl
   have y1:=m6.cell_of (i:=1) rfl
   have z0:=m6.frozen 0
   have z1:=m6.frozen 1
   have x0:=m7.cell_of (i:=0) rfl
   have x1:=m7.cell_of (i:=1) rfl
   have u0:=m7.frozen 0
   have u1:=m7.frozen 1
   have n67:w.heap.size+1+1+1≠w.heap.size+1+1+1+1:=by omega
   have HE:=aA (vO (N:=W.heap.size) (b6:=w.heap.size+1+1+1) (b7:=w.heap.size+1+1+1+1) hI (by omega) (by omega) (by omega) hlt (Below.next jD.out cE jD.out.size) t3 [.pointer q1,.pointer q2] [.int .i64 x,.int .i64 y] (Below.refl _ _))
   have HA:=aA ((((m6.set 0 (.pointer q1)).set 1 (.pointer q2)).setOther (a:=⟨w.heap.size+1+1+1+1,0,none⟩) n67 (.int .i64 x)).setOther (a:=⟨w.heap.size+1+1+1+1,1,none⟩) n67 (.int .i64 y))
   have HC:=aA ((((m7.setOther (a:=⟨w.heap.size+1+1+1,0,none⟩) n67.symm (.pointer q1)).setOther (a:=⟨w.heap.size+1+1+1,1,none⟩) n67.symm (.pointer q2)).set 0 (.int .i64 x)).set 1 (.int .i64 y))
   clear t3 cE m6 m7 HTK
   go_wp2_with fail
   have k1:=HA.out.cell_of (i:=0) rfl
   have k2:=HA.out.cell_of (i:=1) rfl
   have k3:=HC.out.cell_of (i:=0) rfl
   have k4:=HC.out.cell_of (i:=1) rfl
   exact bodyPost_ret (v:=.tuple #[.agg #[.pointer q1,.pointer q2],.agg #[.int .i64 x,.int .i64 y]]) (by simp [results,Tryz.results370,go_sem,k1,k2,k3,k4]) rfl ⟨_,_,rfl,HE.out.1,HE.out.2⟩
  ·have e9:=lX.out
   simp only [pT,if_neg k1,if_neg k2,Prod.mk.injEq,M.TF.mk.injEq] at e9
   obtain ⟨rfl,rfl,rfl⟩:=e9
   clear lX
   go_upto_region 7 with fail
   refine fR (S:=(fun w'=>w'.there (w.heap.size+1+1+1) 0 2∧w'.there (w.heap.size+1+1+1+1) 0 2∧w'.cell? ⟨w.heap.size+1,0,none⟩=some (.pointer p1)∧w'.cell? ⟨w.heap.size+1,1,none⟩=some (.pointer p2)∧w'.cell? ⟨w.heap.size+1,0,none⟩=some (.pointer p1)∧w'.cell? ⟨w.heap.size+1,1,none⟩=some (.pointer p2))) 4 rfl (by kernel_rfl) ?_ (fun hHeld=>?_)
   ·exact ⟨t6,t7,c0,c1,c0,c1⟩
   iterate 1 (refine tk 3 (by rfl) (by kernel_rfl) (by exact fun _ _ _ h=>h) (.inl ⟨by rfl,fun w hS=>by (try dsimp only at hS);go_simp;(try with_reducible rfl)⟩) (by assumption) ?_;try go_frame)
   refine bQ 1 (by rfl) (by kernel_rfl) (fun K hK=>?_)
   go_simp
   refine (wW _).mono ?_
   rintro e w4 ⟨rfl,cT⟩
   have XJ:=aA (Below.bR cT)
   go_wp2_with fail
   refine hK.out _ _ ?_ (fun hHeld=>?_)
   ·exact ⟨aT cT hHeld.1,aT cT hHeld.2.1,cell_later cT hHeld.2.2.1,cell_later cT hHeld.2.2.2.1,cell_later cT hHeld.2.2.2.2.1,cell_later cT hHeld.2.2.2.2.2⟩
   clear hK K
   (try go_frame)
   refine bQ 2 (by rfl) (by kernel_rfl) (fun K hK=>?_)
   rw [if_pos (by rfl)]
   have e1:=World.rangeAt_setCells_same _ (w.heap.size+1+1+1) 0 [.pointer p1,.pointer p2] hHeld.1
   refine wp_store_mid _ _ _ rfl _ 0 #[.pointer p1,.pointer p2] rfl rfl hHeld.1 (by kernel_rfl) (by simp [Value.oneCell']) ?_
   refine hK.out _ _ ?_ (fun hHeld=>?_)
   ·exact vU hHeld (by omega) (by omega) (by omega) (by omega)
   clear hK K
   (try go_frame)
   refine bQ 3 (by rfl) (by kernel_rfl) (fun K hK=>?_)
   rw [if_pos (by rfl)]
   have e2:=World.rangeAt_setCells_same _ (w.heap.size+1+1+1+1) 0 [.int .i64 4,.int .i64 0] hHeld.2.1
   have e3:=World.rangeAt_setCells_apart e1 (w.heap.size+1+1+1+1) 0 [.int .i64 4,.int .i64 0] (.inl (by omega))
   refine wp_store_mid _ _ _ rfl _ 0 #[.int .i64 4,.int .i64 0] rfl rfl hHeld.2.1 (by kernel_rfl) (by simp [Value.oneCell']) ?_
   refine hK.out _ _ ?_ (fun hHeld=>?_)
   ·exact vU hHeld (by omega) (by omega) (by omega) (by omega)
   clear hK K
   (try go_frame)
   refine wpAnyH_done (by kernel_rfl) ?_ _
   have q1:=e3 0 _ rfl
   have q2:=e3 1 _ rfl
   have q3:=e2 0 _ rfl
   have q4:=e2 1 _ rfl
   have HE:=aA (vO (N:=W.heap.size) (b6:=w.heap.size+1+1+1) (b7:=w.heap.size+1+1+1+1) hI (by omega) (by omega) (by omega) hlt jD.out HQ.out [.pointer p1,.pointer p2] [.int .i64 4,.int .i64 0] XJ.out)
   clear hHeld e1 e2 e3
   go_wp2_with fail
   exact bodyPost_ret (v:=.tuple #[.agg #[.pointer p1,.pointer p2],.agg #[.int .i64 4,.int .i64 0]]) (by simp [results,Tryz.results370,go_sem,q1,q2,q3,q4]) rfl ⟨_,_,rfl,HE.out.1,HE.out.2⟩
end
theorem aCh (n:Nat) (hz:n≤10000000000000) (w:World):Calls Tryz.prog 374 #[.slice none 0 0,.int .i64 (n:Int)] w fun e w'=>∃ v,e = .returned v∧w'.ownsRow w.heap.size 3 1 v 0 (ints [])∧Below w.heap.size w w':=by
 by_cases h0:n=0
 ·subst h0
  have HP:=aA (show ∃ v,Ending.returned (.slice none 0 0) = .returned v∧w.ownsRow w.heap.size 3 1 v 0 (ints [])∧Below w.heap.size w w from ⟨_,rfl,World.ownsRow_nil _ _ _ _,Below.refl _ _⟩)
  go_enter Tryz.func374,Tryz.ntmps374
  go_wp2
  go_ret
  exact HP.out
 ·obtain ⟨ti,EC,zX⟩:=Option.map_eq_some_iff.1 kF
  simp only [Prod.mk.injEq] at zX
  obtain ⟨tM,tN,tP⟩:=zX
  have hrun:=fun W=>Go.Lib.run_append_nil_zeros (P:=Tryz.prog) W 22 3 22 3 ti (.int .i64 0) .i64 .i64 Tryz.underlying22 Tryz.underlying3 EC tM n (by omega) (by rw [tN];decide) (by omega) (by rw [tP];omega)
  have aId:=aA hrun
  have hn0:(0:Int)<(n:Int):=by omega
  have zF:¬(n:Int)<0:=by omega
  have hnw:IntKind.i64.wrap (n:Int)=(n:Int):=dP _ (by omega) (by omega)
  clear EC tM tN tP hrun
  go_enter Tryz.func374,Tryz.ntmps374
  go_wp2_with (at_builtin;refine Go.Lib.wpList_append_run _ rfl (.tmp 20) (.tmp 21) 22 3 rfl _ _ rfl rfl _ _ (aId.out _) ?_)
  go_ret
  have hge:=grownCap_ge w n 0 3
  have hle:=grownCap_le_maxLen w n 0 3 (by unfold maxLen;omega)
  refine ⟨_,rfl,⟨rfl,.inr ⟨w.heap.size,grownCap w n 0 3,Builtin.zeroCells #[.int .i64 0] n++Builtin.zeroCells #[.int .i64 0] (grownCap w n 0 3-n),rfl,Nat.le_refl _,?_,Nat.zero_le _,hle,?_,?_⟩⟩,Below.drew (aB _ _)⟩
  ·have h9:=Row.new w (Builtin.zeroCells #[.int .i64 0] n++Builtin.zeroCells #[.int .i64 0] (grownCap w n 0 3-n)).toList 3
   unfold Row at h9
   rw [Array.toArray_toList] at h9
   exact h9
  ·simp [Builtin.zeroCells]
   omega
  ·simp [ints]
theorem DW (a:Option Addr) (c:Nat) (base:Option Addr) (n cap:Nat) (h:n≤cap) (w:World):(Builtin.append_ #[22,22] 22 #[.slice base n cap,.slice a 0 c]).run Tryz.prog w = .ok (.slice base n cap) w:=by
 obtain ⟨ti,EC,zX⟩:=Option.map_eq_some_iff.1 kF
 simp only [Prod.mk.injEq] at zX
 refine run_append_nothing (P:=Tryz.prog) w 22 22 22 3 ti Tryz.underlying22 EC base n cap h (.slice a 0 c) ⟨.inl ⟨_,Tryz.underlying22⟩,fun _=>rfl,?_,?_,by simp,fun u hu=>by cases hu⟩
 ·rw [zX.2.1];cases a<;>first|rfl|simp [Builtin.firstCells]
 ·rw [zX.2.1];cases a<;>first|rfl|simp [Builtin.firstCells]
def Acc (l1 l2:List Int) (k:Nat) (acc:List Int):Prop:=(k=0∧acc=[])∨(k=1∧acc=l1)∨(k=2∧acc=l1++l2)
theorem aAp {w:World} {base:Nat} {e:TypeId} {a:Option Addr} {n c:Nat} {xs:List Value} (h:w.ownsRow base e 1 (.slice a n c) n xs):n≤c:=by
 rcases h.2 with ⟨e,h0⟩|⟨g,cap,cur,e,-,-,h5,-⟩
 ·injection e with e1 e2 e3;omega
 ·injection e with e1 e2 e3;omega
theorem XL (g:Nat) (v1 v2:Value) (l1 l2:List Int) (w:World) (B:Nat) (hg:Row w g 22 [v1,v2]) (o1:w.ownsRow B 3 1 v1 l1.length (ints l1)) (o2:w.ownsRow B 3 1 v2 l2.length (ints l2)) (hz:l1.length+l2.length≤1000000000000) :
  Calls Tryz.prog 373 #[.slice (some ⟨g,0,none⟩) 2 2] w fun e w'=>∃ v,e = .returned v∧w'.ownsRow w.heap.size 3 1 v (l1++l2).length (ints (l1++l2))∧Below w.heap.size w w':=by
 obtain ⟨ti,EC,zX⟩:=Option.map_eq_some_iff.1 kF
 simp only [Prod.mk.injEq] at zX
 obtain ⟨tM,tN,tP⟩:=zX
 have zY:=aA EC
 have XE:=aA tM
 have yG:=aA tN
 have tD:=aA tP
 clear EC tM tN tP
 have HPT:=aA (show ∀ k acc,Acc l1 l2 k acc→k<2→∃ v l,w.cell? ⟨g,k,none⟩=some v∧w.ownsRow B 3 1 v l.length (ints l)∧Acc l1 l2 (k+1) (acc++l)∧acc.length+l.length≤1000000000000 by
  rintro k acc (⟨rfl,rfl⟩|⟨rfl,rfl⟩|⟨rfl,rfl⟩) hk
  ·exact ⟨v1,l1,hg.cell_of rfl,o1,.inr (.inl ⟨rfl,rfl⟩),by simp;omega⟩
  ·exact ⟨v2,l2,hg.cell_of rfl,o2,.inr (.inr ⟨rfl,rfl⟩),hz⟩
  ·omega)
 clear hg o1 o2
 go_enter Tryz.func373,Tryz.ntmps373
 go_wp2
 go_loop [3,11] (fun s i=>∃ (k:Nat) (acc:List Int),k≤2∧Acc l1 l2 k acc∧s = .int .i64 (acc.length:Int)∧i = .int .i64 (k:Int)) (fun _ i=>2-(intOf i).toNat)
 case atStart=>exact ⟨0,[],by omega,.inl ⟨rfl,rfl⟩,rfl,rfl⟩
 case round =>
  obtain ⟨k,acc,hk,hA,rfl,rfl⟩:=hrel
  by_cases hlt:k<2
  ·obtain ⟨v,l,hc,hv,hA2,hl2⟩:=HPT.out k acc hA hlt
   obtain ⟨⟨va,vc,rfl⟩,-⟩:=fJ hv
   have QU:=aA hA2
   have hlt':(k:Int)<2:=by omega
   have hk0:(0:Int)≤(k:Int):=by omega
   have hw:IntKind.i64.wrap ((acc.length:Int)+(l.length:Int))=(acc.length:Int)+(l.length:Int):=dP _ (by omega) (by omega)
   have hw2:¬(acc.length:Int)+(l.length:Int)<0:=by omega
   clear hA2 hA hv
   go_wp2
   go_round
   case rel=>exact ⟨k+1,acc++l,by omega,QU.out,by simp,by go_num⟩
   case measure=>simp [intOf];omega
  ·have hlt':¬(k:Int)<2:=by omega
   have hal:acc.length≤1000000000000:=by
    rcases hA with ⟨rfl,rfl⟩|⟨rfl,rfl⟩|⟨rfl,rfl⟩
    ·omega
    ·omega
    ·simpa using hz
   clear hA
   go_wp2_with fail
   refine (aCh acc.length (by omega) _).mono ?_
   rintro e w1 ⟨v0,rfl,ho0,hb0⟩
   have HO0:=aA ho0
   have jD:=aA hb0
   clear ho0 hb0
   go_wp2
   go_loopw [6,27] (fun o i w'=>∃ (k:Nat) (acc:List Int),k≤2∧Acc l1 l2 k acc∧i = .int .i64 (k:Int)∧w'.ownsRow w.heap.size 3 1 o acc.length (ints acc)∧Below w.heap.size w w') (fun _ i _=>2-(intOf i).toNat)
   case atStart=>exact ⟨0,[],by omega,.inl ⟨rfl,rfl⟩,rfl,HO0.out,jD.out⟩
   case round =>
    obtain ⟨k,acc,hk,hA,rfl,ho,hb⟩:=hrel
    have HB:=aA hb
    have hzb:=hb.size
    by_cases hlt:k<2
    ·obtain ⟨v,l,hc,hv,hA2,hl2⟩:=HPT.out k acc hA hlt
     obtain ⟨⟨va,vc,rfl⟩,-⟩:=fJ hv
     obtain ⟨⟨oa,oc,rfl⟩,-⟩:=fJ ho
     have QU:=aA hA2
     have MR:=cell_later hb hc
     have hlt':(k:Int)<2:=by omega
     have hk0:(0:Int)≤(k:Int):=by omega
     have HO:=aA ho
     have hle:=aAp ho
     by_cases h0:l.length=0
     ·have hl0:l=[]:=List.length_eq_zero_iff.mp h0
      subst hl0
      have HRN:=aA (DW va vc oa acc.length oc hle)
      have HN:=aA (show Acc l1 l2 (k+1) acc by have:=QU.out;rwa [List.append_nil] at this)
      clear hA2 hA hv ho hb hc h0 hle
      go_wp2_with (at_builtin;refine Go.Lib.wpList_append_run _ rfl (.tmp 31) (.tmp 32) 22 22 rfl _ _ rfl rfl _ _ (HRN.out _) ?_)
      go_roundw
      case rel=>exact ⟨k+1,acc,by omega,HN.out,by go_num,HO.out,HB.out⟩
      case measure=>simp [intOf];omega
     ·obtain ⟨gv,vc',ev,hcell⟩:=QA hv (i:=0) (u:=.int .i64 (l.headD 0)) (by cases l with|nil=>simp at h0|cons x l=>rfl)
      have e1:va=some ⟨gv,0,none⟩:=by injection ev
      subst e1
      have HC:=aA (show ∀ j u,(ints l)[j]?=some u→wr.cell? ((⟨gv,0,none⟩:Addr).add j)=some u from fun j u hj=>by
       have:=hv.cells (g:=gv) rfl j u hj
       rw [rL] at this ⊢
       exact cell_later hb this)
      clear hA2 hA hv ho hb hc hcell ev
      go_wp2_with (at_builtin;refine wpList_append_lies _ rfl (.tmp 31) (.tmp 32) 22 rfl w.heap.size 3 ti (.int .i64 0) 1 8 Tryz.underlying22 zY.out XE.out yG.out tD.out rfl (by decide) (.slice oa acc.length oc) acc.length (ints acc) rfl HO.out ⟨gv,0,none⟩ l.length vc (ints l) rfl (by simp [ints]) HC.out (JZ l) (by omega) (by unfold maxLen;omega) (by omega) hzb wr.heap.size rfl ?_)
      intro g4 SP w4 hown mR hat tF
      have HN:=aA (show w4.ownsRow w.heap.size 3 1 (.slice (some ⟨g4,0,none⟩) (acc.length+l.length) SP) (acc++l).length (ints (acc++l)) by
       rw [List.length_append]
       have e3:ints (acc++l)=ints acc++ints l:=by simp [ints]
       rw [e3]
       exact hown)
      have XJ:=aA (show Below w.heap.size w w4 from HB.out.grown mR hzb (fun q hq=>(HO.out.lt q hq).1))
      clear hown mR hat tF
      go_wp2
      go_roundw
      case rel=>exact ⟨k+1,acc++l,by omega,QU.out,by go_num,HN.out,XJ.out⟩
      case measure=>simp [intOf];omega
    ·have hlt':¬(k:Int)<2:=by omega
     have ea:acc=l1++l2:=by
      rcases hA with ⟨q,-⟩|⟨q,-⟩|⟨-,q⟩
      ·omega
      ·omega
      ·exact q
     have HEA:=aA ea
     have HO:=aA ho
     clear hA ea ho hb
     go_wp2
     go_ret
     have ho9:=HO.out
     rw [HEA.out] at ho9
     exact ⟨_,rfl,by simpa using ho9,HB.out⟩
section
variable {I:Nat→Prop} {w:World} {p p1 p2:Option Addr} {s:List Int}
theorem LQ (q:iY I w s p) (hz:s.length≤1000000000000) :
  Calls Tryz.prog 366 #[.agg #[],.pointer p] w fun e w'=>∃ v,e = .returned v∧w'.ownsRow w.heap.size 3 1 v s.length (ints s)∧Below w.heap.size w w':=by
 have HQ:=aA q
 clear q
 go_enter Tryz.func366,Tryz.ntmps366
 go_wp2_with fail
 generalize hW:World.alloc w _=W
 have hb0:Below w.heap.size w W:=by rw [←hW];exact aB _ _
 have HB:=aA hb0
 have HV:=aA (DV (show iY I W s p from HQ.out.stay fun k hk hl=>⟨hk,hb0.block k hl⟩) hz)
 clear hW hb0
 refine HV.out.mono ?_
 rintro e w3 ⟨v,rfl,ho,hb⟩
 have HO:=aA ho
 have tH:=aA hb
 clear ho hb
 go_wp2_with fail
 go_ret
 exact ⟨v,rfl,lZ HO.out HB.out.size,Below.next HB.out tH.out HB.out.size⟩
theorem LR (q:wE I w s p1 p2) (hz:s.length≤1000000000000) :
  Calls Tryz.prog 371 #[.agg #[],.agg #[.pointer p1,.pointer p2]] w fun e w'=>∃ v,e = .returned v∧w'.ownsRow w.heap.size 3 1 v s.length (ints s)∧Below w.heap.size w w':=by
 obtain ⟨f,g,hfg,qf,qg⟩:=q
 have hl:f.length+g.length≤1000000000000:=by rw [hfg] at hz;simpa using hz
 obtain ⟨gr,mR⟩:∃ gr,gr=g.reverse:=⟨_,rfl⟩
 have hlr:f.length+gr.length≤1000000000000:=by rw [mR,List.length_reverse];exact hl
 rw [←mR] at hfg
 have HFG:=aA hfg
 have HGR:=aA mR
 clear hfg mR
 go_enter Tryz.func371,Tryz.ntmps371
 go_upto_region 1 with fail
 generalize hW:World.alloc (World.alloc w _) _=W
 have hb0:Below w.heap.size w W:=by rw [←hW];exact ((Below.refl _ _).alloc (Nat.le_refl _) _).alloc (by simp) _
 have r3:Row W (w.heap.size+1) 146 [.pointer p1,.pointer p2]:=by rw [←hW];exact Row.new' (by simp)
 have c0:=r3.cell_of (i:=0) rfl
 have c1:=r3.cell_of (i:=1) rfl
 have HF:=aA (show iY (KB I W.heap.size W) W f p1 from qf.stay fun k hk hl=>⟨.inl hk,hb0.block k hl⟩)
 have HG:=aA (show iY (KB I W.heap.size W) W g p2 from qg.stay fun k hk hl=>⟨.inl hk,hb0.block k hl⟩)
 have HB:=aA hb0
 have hzW:=hb0.size
 clear hW hb0 r3 qf qg
 refine fR (S:=(fun w'=>Below W.heap.size W w'∧w'.cell? ⟨w.heap.size+1,0,none⟩=some (.pointer p1)∧w'.cell? ⟨w.heap.size+1,1,none⟩=some (.pointer p2))) 10 rfl (by kernel_rfl) ?_ (fun hHeld=>?_)
 ·exact ⟨(Below.refl _ _).drew,c0,c1⟩
 iterate 2 (refine tk 9 (by rfl) (by kernel_rfl) (by exact fun _ _ _ h=>h) (.inl ⟨by rfl,fun w hS=>by (try dsimp only at hS);go_simp;(try with_reducible rfl)⟩) (by assumption) ?_;try go_frame)
 iterate 2 (refine tk 10 (by rfl) (by kernel_rfl) (by exact fun _ _ _ h=>h) (.inl ⟨by rfl,fun w hS=>by (try dsimp only at hS);go_simp;(try with_reducible rfl)⟩) (by assumption) ?_;try go_frame)
 refine bQ 2 (by rfl) (by kernel_rfl) (fun K hK=>?_)
 go_simp
 refine (DV (HF.out.later hHeld.1) (by omega)).mono ?_
 rintro e w2 ⟨v2,rfl,o2',aZ⟩
 obtain ⟨⟨a2,k2,rfl⟩,-⟩:=fJ o2'
 have o2:=lZ o2' (Nat.zero_le _)
 clear o2'
 go_wp2_with fail
 refine hK.out _ _ ?_ (fun hHeld=>?_)
 ·exact ⟨Below.next hHeld.1 aZ hHeld.1.size,cell_later aZ hHeld.2.1,cell_later aZ hHeld.2.2⟩
 clear hK K
 (try go_frame)
 refine bQ 5 (by rfl) (by kernel_rfl) (fun K hK=>?_)
 go_simp
 refine (DU (I:=I) (B:=W.heap.size) (HG.out.later hHeld.1) hHeld.1.size (by omega)).mono ?_
 rintro e w5 ⟨p5,rfl,t5,yF⟩
 rw [←HGR.out] at t5
 go_wp2_with fail
 refine hK.out _ _ ?_ (fun hHeld=>?_)
 ·exact ⟨Below.next hHeld.1 yF hHeld.1.size,cell_later yF hHeld.2.1,cell_later yF hHeld.2.2⟩
 clear hK K
 (try go_frame)
 refine bQ 6 (by rfl) (by kernel_rfl) (fun K hK=>?_)
 go_simp
 refine (DV t5 (by omega)).mono ?_
 rintro e w6 ⟨v6,rfl,o6',LA⟩
 obtain ⟨⟨a6,k6,rfl⟩,-⟩:=fJ o6'
 have o6:=lZ o6' (Nat.zero_le _)
 have o26:=gI (gI o2 yF) LA
 clear o6'
 go_wp2_with fail
 refine hK.out _ _ ?_ (fun hHeld=>?_)
 ·exact ⟨Below.next hHeld.1 LA hHeld.1.size,cell_later LA hHeld.2.1,cell_later LA hHeld.2.2⟩
 clear hK K
 (try go_frame)
 refine bQ 7 (by rfl) (by kernel_rfl) (fun K hK=>?_)
 go_simp
 refine hK.out _ _ ?_ (fun hHeld=>?_)
 ·exact ⟨Below.next hHeld.1 (aB _ _) hHeld.1.size,cell_later (aB _ _) hHeld.2.1,cell_later (aB _ _) hHeld.2.2⟩
 clear hK K
 (try go_frame)
 refine bQ 8 (by rfl) (by kernel_rfl) (fun K hK=>?_)
 go_simp
 refine (XL w6.heap.size _ _ f gr _ 0 (Row.new' (by simp)) (o26.alloc _) (o6.alloc _) hlr).mono ?_
 rintro e w8 ⟨v8,rfl,o8',hb8⟩
 have HO8:=aA (show w8.ownsRow w.heap.size 3 1 v8 s.length (ints s) by rw [HFG.out];exact lZ o8' (by have:=hHeld.1.size;omega))
 clear o8'
 go_wp2_with fail
 refine hK.out _ _ ?_ (fun hHeld=>?_)
 ·exact ⟨Below.next hHeld.1 hb8 hHeld.1.size,cell_later hb8 hHeld.2.1,cell_later hb8 hHeld.2.2⟩
 clear hK K
 (try go_frame)
 iterate 1 (refine tk 9 (by rfl) (by kernel_rfl) (by exact fun _ _ _ h=>h) (.inl ⟨by rfl,fun w hS=>by (try dsimp only at hS);go_simp;(try with_reducible rfl)⟩) (by assumption) ?_;try go_frame)
 refine wpAnyH_done (by kernel_rfl) ?_ _
 go_wp2_with fail
 go_ret
 exact ⟨v8,rfl,HO8.out,Below.next HB.out hHeld.1 HB.out.size⟩
end
def OV:list.SR (List Int) where
 sz s:=s.length
 rep I w s c:=∃ p,c=[.pointer p]∧iY I w s p
 len h:=by obtain ⟨p,e,-⟩:=h;rw [e];rfl
 shape h v hv:=by obtain ⟨p,e,-⟩:=h;rw [e] at hv;exact ⟨_,List.mem_singleton.mp hv⟩
 stay hk h:=by obtain ⟨p,e,q⟩:=h;exact ⟨p,e,q.stay hk⟩
theorem LS:M.qA (fun s:List Int=>s.length) nT:=by
 refine ⟨Nat.zero_le _,fun s o=>?_⟩
 show List.length (Prod.fst (if _ then _ else _))≤_
 split
 ·simp
 ·split
  ·simp;omega
  ·simp
theorem JG (w:World):(method 553 143 (.agg #[]) "Apply").run Tryz.prog w = .ok (365,.agg #[]) w:=by kernel_rfl
theorem JH (s o:Value) (w:World):(callFunc 365 #[.agg #[],s,o]).run Tryz.prog w = .ok (.enter 365 #[.agg #[],s,o]) w:=by kernel_rfl
theorem JI (w:World):(method 553 143 (.agg #[]) "Tell").run Tryz.prog w = .ok (366,.agg #[]) w:=by kernel_rfl
theorem JJ (s:Value) (w:World):(callFunc 366 #[.agg #[],s]).run Tryz.prog w = .ok (.enter 366 #[.agg #[],s]) w:=by kernel_rfl
theorem aAr (L:int.Lt) (ho:L.oT=143) (hv:L.ov = .agg #[]):list.bO OV nT L 365 (.agg #[]):=by
 refine ⟨LS,fun W=>by rw [ho,hv];exact JG W,fun s o W=>JH s o W,fun I W s x op hr hsz hI=>?_⟩
 obtain ⟨p,e,q⟩:=hr
 have hx:x = .pointer p:=by simpa using e
 subst hx
 obtain ⟨c,a,b⟩:=op
 refine (JD q hI hsz).mono ?_
 rintro e' w' ⟨p',rfl,t',hb⟩
 exact ⟨.pointer p',rfl,⟨p',rfl,t'⟩,hb⟩
theorem aAs (L:int.Lt) (ho:L.oT=143) (hv:L.ov = .agg #[]):list.sY OV L (fun s=>s) 366 (.agg #[]) where
 m W:=by rw [ho,hv];exact JI W
 c s W:=JJ s W
 f I W s x hr hsz hI:=by
  obtain ⟨p,e,q⟩:=hr
  have hx:x=p:=by simpa using e
  subst hx
  exact LQ q hsz
def OW:row.SR (List Int) where
 sz s:=s.length
 rep I w s c:=∃ p1 p2,c=[.pointer p1,.pointer p2]∧wE I w s p1 p2
 len h:=by obtain ⟨p1,p2,e,-⟩:=h;rw [e];rfl
 shape h v hv:=by
  obtain ⟨p1,p2,e,-⟩:=h
  rw [e] at hv
  rcases List.mem_cons.mp hv with h|h
  ·exact ⟨_,h⟩
  ·exact ⟨_,List.mem_singleton.mp h⟩
 stay hk h:=by obtain ⟨p1,p2,e,q⟩:=h;exact ⟨p1,p2,e,q.stay hk⟩
theorem LU:M.qA (fun s:List Int=>s.length) pT:=by
 refine ⟨Nat.zero_le _,fun s o=>?_⟩
 show List.length (Prod.fst (if _ then _ else _))≤_
 split
 ·simp
 ·split
  ·simp;omega
  ·simp
theorem JK (w:World):(method 553 147 (.agg #[]) "Apply").run Tryz.prog w = .ok (370,.agg #[]) w:=by kernel_rfl
theorem JL (s o:Value) (w:World):(callFunc 370 #[.agg #[],s,o]).run Tryz.prog w = .ok (.enter 370 #[.agg #[],s,o]) w:=by kernel_rfl
theorem JM (w:World):(method 553 147 (.agg #[]) "Tell").run Tryz.prog w = .ok (371,.agg #[]) w:=by kernel_rfl
theorem JN (s:Value) (w:World):(callFunc 371 #[.agg #[],s]).run Tryz.prog w = .ok (.enter 371 #[.agg #[],s]) w:=by kernel_rfl
theorem aAt (L:int.Lt) (ho:L.oT=147) (hv:L.ov = .agg #[]):row.bO OW pT L 370 (.agg #[]):=by
 refine ⟨LU,fun W=>by rw [ho,hv];exact JK W,fun s o W=>JL s o W,fun I W s x0 x1 op hr hsz hI=>?_⟩
 obtain ⟨p1,p2,e,q⟩:=hr
 obtain ⟨rfl,rfl⟩:x0 = .pointer p1∧x1 = .pointer p2:=by simpa using e
 obtain ⟨c,a,b⟩:=op
 refine (JE q hI hsz (s':=(pT.apply s ⟨c,a,b⟩).1) (x:=(pT.apply s ⟨c,a,b⟩).2.s) (y:=(pT.apply s ⟨c,a,b⟩).2.v) rfl).mono ?_
 rintro e' w' ⟨q1,q2,rfl,t',hb⟩
 exact ⟨.pointer q1,.pointer q2,rfl,⟨q1,q2,rfl,t'⟩,hb⟩
theorem aAu (L:int.Lt) (ho:L.oT=147) (hv:L.ov = .agg #[]):row.sY OW L (fun s=>s) 371 (.agg #[]) where
 m W:=by rw [ho,hv];exact JM W
 c s W:=JN s W
 f I W s x0 x1 hr hsz hI:=by
  obtain ⟨p1,p2,e,q⟩:=hr
  obtain ⟨rfl,rfl⟩:x0=p1∧x1=p2:=by simpa using e
  exact LR q hsz
end Go.Proofs.YtefjhnhdagolhaaGreat
namespace Go.Proofs.YtefjhnhdagolhaaGreat
open Go.ChangeShapes Go.WideShapes Go.ChangeAt Go.RowKit Go.Joins Go.Deep
theorem LX:Tryz.prog.cellsOf 38=6:=by kernel_rfl
theorem aAz:Tryz.prog.cellsOf 36=3:=by kernel_rfl
theorem aE1 {α:Type} {l:List α} (h:l.length=6):∃ c0 c1 c2 c3 c4 c5,l=[c0,c1,c2,c3,c4,c5]:=by
 match l,h with
 |[c0,c1,c2,c3,c4,c5],_=>exact ⟨c0,c1,c2,c3,c4,c5,rfl⟩
theorem TB {W:World} {base:Nat} {a:Addr} {n:Nat} {cs:List Value} (h:W.cells? base a n=some cs) (i:Nat) (hi:i<n):W.cell? (a.add i)=cs[i]?:=by
 unfold World.cells? at h
 split at h
 ·exact mapM_some_get h i i (by simp [hi])
 ·cases h
theorem wf_i64 {x:Int} (h:(Lit.int .i64 x).wf=true):tU x:=by
 have m1:IntKind.min .i64 = -9223372036854775808:=by decide +kernel
 have m2:IntKind.max .i64=9223372036854775807:=by decide +kernel
 simp [Lit.wf] at h
 unfold tU
 omega
section
variable {H:Type} {enc:TypeId×Value→H} {W:World}
theorem XQ {fuel:Nat} {cs:List Value} {y:DataW H×List MemPlace} (h:DataW.trod enc Tryz.prog W 0 (fun _=>true) true fuel 38 cs=some y) :
  ∃ x:wZ,cs=[.int .i64 x.k,.int .i64 x.t,.int .i64 x.n,.int .i64 x.c,.int .i64 x.a,.int .i64 x.b]∧tU x.t∧tU x.n∧8≤Rows.uptoBulk y.1:=by
 obtain ⟨y0,y1,y2,y3,m,rfl,hl,h0,h1,h2,h3⟩:=trod_struct4 Tryz.underlying38 h
 obtain ⟨z0,z1,z2,m',hx3,-,k0,k1,k2⟩:=trod_struct3 Tryz.underlying36 h3
 obtain ⟨c0,c1,c2,c3,c4,c5,rfl⟩:=aE1 (hl.trans LX)
 simp only [DX,List.drop_succ_cons,List.drop_zero,List.take_succ_cons,List.take_zero] at h0 h1 h2
 simp only [DX,aAz,List.drop_succ_cons,List.drop_zero,List.take_succ_cons,List.take_zero] at k0 k1 k2
 obtain ⟨x0,e0,rfl,-⟩:=DataW.trod_int Tryz.underlying3 h0
 obtain ⟨x1,e1,rfl,w1⟩:=DataW.trod_int Tryz.underlying3 h1
 obtain ⟨x2,e2,rfl,w2⟩:=DataW.trod_int Tryz.underlying3 h2
 obtain ⟨x3,e3,rfl,-⟩:=DataW.trod_int Tryz.underlying3 k0
 obtain ⟨x4,e4,rfl,-⟩:=DataW.trod_int Tryz.underlying3 k1
 obtain ⟨x5,e5,rfl,-⟩:=DataW.trod_int Tryz.underlying3 k2
 simp only [List.cons.injEq,and_true] at e0 e1 e2 e3 e4 e5
 subst e0 e1 e2 e3 e4 e5 hx3
 exact ⟨⟨x0,x1,x2,x3,x4,x5⟩,rfl,wf_i64 w1,wf_i64 w2,by simp [Rows.uptoBulk,Rows.uptoBulkAll]⟩
theorem FV (k:Nat) (l:List (DataW H)) (h:∀ d∈l,k≤Rows.uptoBulk d):k*l.length≤Rows.uptoBulkAll l:=by
 induction l with
 |nil=>simp [Rows.uptoBulkAll]
 |cons x r ih =>
  have h1:=h x (by simp)
  have h2:=ih fun d hd=>h d (by simp [hd])
  simp only [Rows.uptoBulkAll,List.length_cons,Nat.mul_add,Nat.mul_one]
  omega
theorem LY {base:Nat} {v:Value} {d:DataW H} {p:List MemPlace} (hv:Value.okWide Tryz.prog W .any base 29 v) (h:DataW.Trod enc Tryz.prog W 0 (fun _=>true) true 29 v d p) :
  ∃ l:List wZ,Scr W v l∧(∀ x∈l,tU x.t∧tU x.n)∧8*l.length≤Rows.uptoBulk d:=by
 obtain ⟨a0,l0,c0,rfl⟩:=okWide_slice Tryz.underlying29 hv
 obtain ⟨fuel,hf⟩:=h
 rcases DataW.trod_slice Tryz.underlying29 hf with ⟨hcs,hx⟩|⟨a,len,cap,elems,rest,n,-,hcs,hx,-,hl,hm,hlen,hel,-,-⟩
 ·simp only [Value.cells,List.cons.injEq,Value.slice.injEq,and_true] at hcs
  obtain ⟨rfl,rfl,rfl⟩:=hcs
  exact ⟨[],⟨none,0,rfl,fun h=>absurd h (by decide)⟩,by simp,by simp⟩
 ·simp only [Value.cells,List.cons.injEq,Value.slice.injEq,and_true] at hcs
  obtain ⟨rfl,rfl,rfl⟩:=hcs
  have each:∀ i,i<l0→∃ x:wZ,(∀ j u,[Value.int .i64 x.k,.int .i64 x.t,.int .i64 x.n,.int .i64 x.c,.int .i64 x.a,.int .i64 x.b][j]?=some u→W.cell? ((a.add (i*6)).add j)=some u)∧tU x.t∧tU x.n∧∃ y,elems[i]?=some y∧8≤Rows.uptoBulk y.1:=by
   intro i hi
   have hi':=hel i hi
   rw [LX,List.getElem?_eq_getElem (by omega),Option.bind_eq_some_iff] at hi'
   obtain ⟨cs,q1,q2⟩:=hi'
   obtain ⟨x,rfl,x1,x2,x3⟩:=XQ q2
   refine ⟨x,fun j u hu=>?_,x1,x2,_,List.getElem?_eq_getElem (by omega),x3⟩
   have hj:j<6:=by have:=(List.getElem?_eq_some_iff.1 hu).1;simpa using this
   rw [TB q1 j hj]
   exact hu
  obtain ⟨f,hf'⟩:∃ f:Nat→wZ,∀ i,i<l0→(∀ j u,[Value.int .i64 (f i).k,.int .i64 (f i).t,.int .i64 (f i).n,.int .i64 (f i).c,.int .i64 (f i).a,.int .i64 (f i).b][j]?=some u→W.cell? ((a.add (i*6)).add j)=some u)∧tU (f i).t∧tU (f i).n∧∃ y,elems[i]?=some y∧8≤Rows.uptoBulk y.1:=by
   classical
   exact ⟨fun i=>if h:i<l0 then (each i h).choose else ⟨0,0,0,0,0,0⟩,fun i hi=>by simp only [dif_pos hi];exact (each i hi).choose_spec⟩
  refine ⟨(List.range l0).map f,⟨some a,c0,by simp,fun h0=>?_⟩,?_,?_⟩
  ·have h0':0<l0:=by simpa using h0
   obtain ⟨b,off,spot⟩:=a
   have XM:spot=none:=by
    have:=World.cell?_spot ((hf' 0 h0').1 0 _ rfl)
    simpa [Addr.add] using this
   subst XM
   refine ⟨b,off,rfl,fun i x hx=>?_⟩
   have hi:i<l0:=by have:=(List.getElem?_eq_some_iff.1 hx).1;simpa using this
   simp only [List.getElem?_map,List.getElem?_range hi,Option.map_some,Option.some.injEq] at hx
   subst hx
   have q:=(hf' i hi).1
   simp only [rL] at q
   exact ⟨q 0 _ rfl,q 1 _ rfl,q 2 _ rfl,q 3 _ rfl,q 4 _ rfl,q 5 _ rfl⟩
  ·intro x hx
   obtain ⟨i,hi,rfl⟩:=List.mem_map.1 hx
   have:=hf' i (List.mem_range.1 hi)
   exact ⟨this.2.1,this.2.2.1⟩
  ·have hb:8*(elems.map (·.1)).length≤Rows.uptoBulkAll (elems.map (·.1)):=FV 8 _ fun d hd=>by
    obtain ⟨y,hy,rfl⟩:=List.mem_map.1 hd
    obtain ⟨i,hi⟩:=List.getElem?_of_mem hy
    have hil:i<l0:=by have:=(List.getElem?_eq_some_iff.1 hi).1;omega
    obtain ⟨-,-,-,y',q1,q2⟩:=hf' i hil
    rw [hi] at q1
    cases q1
    exact q2
   simp only [Prod.mk.injEq] at hx
   rw [hx.1]
   simp only [Rows.uptoBulk,List.length_map,List.length_range] at hb ⊢
   omega
end
end Go.Proofs.YtefjhnhdagolhaaGreat
namespace Go.Proofs.YtefjhnhdagolhaaGreat
open Go.RowKit
attribute [local go_sem ↓] Go.wp_at_zero Go.wp_at_succ
section
variable {n cap:Nat} {w w':World} {b:Nat}
theorem JR (hn:1≤n) (lG:n≤64) (hc:cap≤64) (h:int.dK w n (cap:Int) 140 (.agg #[]) b w'):zU wX (fun s=>[s]) n cap w b w' :=
 int.OQ (oT:=140) (fA:=361) (fT:=362) hn lG hc ⟨w,fun _=>False,xO,.agg #[],.agg #[],.agg #[],Below.refl _ _,h,fun _ hk=>hk.elim,fun _ _=>rfl,SE,SS⟩
theorem PJ (hn:1≤n) (lG:n≤64) (hc:cap≤64) (h:list.dK w n (cap:Int) 143 (.agg #[]) b w'):zU nT (fun s=>s) n cap w b w' :=
 list.OQ (oT:=143) (fA:=365) (fT:=366) hn lG hc ⟨w,fun _=>False,OV,.agg #[],.agg #[],.agg #[],Below.refl _ _,h,fun _ hk=>hk.elim,fun _ _=>⟨none,rfl,rfl⟩,aAr,aAs⟩
theorem PK (hn:1≤n) (lG:n≤64) (hc:cap≤64) (h:row.dK w n (cap:Int) 147 (.agg #[]) b w'):zU pT (fun s=>s) n cap w b w' :=
 row.OQ (oT:=147) (fA:=370) (fT:=371) hn lG hc ⟨w,fun _=>False,OW,.agg #[],.agg #[],.agg #[],Below.refl _ _,h,fun _ hk=>hk.elim,fun _ _=>⟨none,none,rfl,[],[],rfl,rfl,rfl⟩,aAt,aAu⟩
theorem XR (hn:1≤n) (lG:n≤64) (hc:cap≤64) (h:tree.dK w n (cap:Int) 150 (.agg #[]) b w'):zU uD flat n cap w b w' :=
 tree.OQ (oT:=150) (fA:=375) (fT:=376) hn lG hc ⟨w,fun _=>False,aCo,.agg #[],.agg #[],.agg #[],Below.refl _ _,h,fun _ hk=>hk.elim,fun _ _=>⟨none,0,rfl,Tr.nil,trivial⟩,aEZ,aE0⟩
end
end Go.Proofs.YtefjhnhdagolhaaGreat
