import Derived.Test.YtefjhnhdagolhabGreatQ35
import Derived.Test.YtefjhnhdagolhabGreatQ10
import Derived.Test.YtefjhnhdagolhabGreatQ36
import Derived.Test.YtefjhnhdagolhabGreatQ14
import Derived.Test.YtefjhnhdagolhabGreatQ31
import Derived.Test.YtefjhnhdagolhabGreatQ13
import Derived.Test.YtefjhnhdagolhabGreatQ34
import Derived.Test.YtefjhnhdagolhabGreatQ37
import Derived.Test.YtefjhnhdagolhabGreatQ11
import Derived.Lib.AppendZeros
import Derived.Deep.Upon
import Derived.Test.YtefjhnhdagolhabGreatQ42
import Derived.Test.YtefjhnhdagolhabGreatQ40
import Derived.Test.YtefjhnhdagolhabGreatQ43
import Derived.Deep.AppendLies
import Derived.Test.YtefjhnhdagolhabGreatQ41
set_option maxHeartbeats 4000000
set_option maxRecDepth 20000
namespace Go.Proofs.YtefjhnhdagolhabGreat
open Go.RowKit
open M (aH aC aE aT bJ Dd PI YR)
attribute [local go_sem ↓] Go.wp_at_zero Go.wp_at_succ
section
variable {σ:Type} {P:M.Plain σ} {tell:σ→List Int} {w:World} {Y:aT} {ds:List Dd} {c n cap:Nat} {u:Nat→Option Nat}
theorem IU {w:World} {b:Nat} {t:TypeId} {x0 x1 x2 x3 x4 x5 x6:Value} (h:Row w b t [x0,x1,x2,x3,x4,x5,x6]):w.cell? ⟨b,0,none⟩=some x0∧w.cell? ⟨b,1,none⟩=some x1∧w.cell? ⟨b,2,none⟩=some x2∧w.cell? ⟨b,3,none⟩=some x3∧w.cell? ⟨b,4,none⟩=some x4∧w.cell? ⟨b,5,none⟩=some x5∧w.cell? ⟨b,6,none⟩=some x6:=⟨h.cell_of rfl,h.cell_of rfl,h.cell_of rfl,h.cell_of rfl,h.cell_of rfl,h.cell_of rfl,h.cell_of rfl⟩
end
section
variable {σ:Type} {P:M.Plain σ} {tell:σ→List Int} {ok:σ→Prop} {Hp:Nat→Nat→σ→World→Prop}
def yZ (P:M.Plain σ) (ok:σ→Prop):Prop:=∃ sz:σ→Nat,M.oQ sz P∧∀ s,sz s≤200000000000→ok s
theorem yZ.fits (h:yZ P ok) {Y:aT} {k:Nat} (hk:k≤90000000000):ok (tF P Y k).st:=by
 obtain ⟨sz,h1,h2⟩:=h
 refine h2 _ ?_
 have h3:=M.MW h1 (fun k i=>((Y.th k).ops).getD i ⟨0,0,0⟩) (Y.bs.flatten.take k) (M.Rp.new P)
 have h4:=List.length_take_le k Y.bs.flatten
 have h5:sz (M.Rp.new P).st≤2:=h1.1
 show sz (M.Rp.run _ _ _ _).st≤_
 omega
end
end Go.Proofs.YtefjhnhdagolhabGreat
namespace Go.Proofs.YtefjhnhdagolhabGreat
open Go.RowKit
attribute [local go_sem ↓] Go.wp_at_zero Go.wp_at_succ
theorem RX (L:int.Lt) (ho:L.oT=62) (hv:L.ov = .agg #[]):int.sL wZ L (fun s=>[s]) 274 (.agg #[]) where
 m W:=by rw [ho,hv];kernel_rfl
 c s W:=EA s W
 f I W s x hr _ _:=by
  have e:x=s:=by simpa [wZ] using hr
  subst e
  exact KC x W
section
variable {I:Nat→Prop} {w:World} {p1 p2:Option Addr} {s:List Int} {c a b:Int}
theorem IV {s':List Int} {x y:Int} (q:vQ I w s p1 p2) (hI:∀ k,I k→k<w.heap.size) (hz:s.length≤1000000000000) (hr:(s',(⟨x,y⟩:M.PY))=lV.apply s ⟨c,a,b⟩) :
  Calls Tryz.prog 282 #[.agg #[],.agg #[.pointer p1,.pointer p2],.agg #[.int .i64 c,.int .i64 a,.int .i64 b]] w (AV I w s' x y):=by
 have lX:=aA hr
 clear hr
 go_enter Tryz.func282,Tryz.ntmps282
 go_upto_region 1 with fail
 generalize hW:World.alloc (World.alloc (World.alloc (World.alloc (World.alloc w _) _) _) _) _=W
 have hb0:Below w.heap.size w W:=by rw [←hW];exact ((((aB w _).alloc (by simp) _).alloc (by simp;omega) _).alloc (by simp;omega) _).alloc (by simp;omega) _
 have r4:Row W (w.heap.size+1) 68 [.pointer p1,.pointer p2]:=by rw [←hW];exact (((Row.new' (by simp)).alloc _).alloc _).alloc _
 have r5:Row W (w.heap.size+1+1) 46 [.int .i64 c,.int .i64 a,.int .i64 b]:=by rw [←hW];exact ((Row.new' (by simp)).alloc _).alloc _
 have r6:Row W (w.heap.size+1+1+1) 68 [.pointer none,.pointer none]:=by rw [←hW];exact (Row.new' (by simp)).alloc _
 have r7:Row W (w.heap.size+1+1+1+1) 38 [.int .i64 0,.int .i64 0]:=by rw [←hW];exact Row.new' (by simp)
 have o0:=r5.cell_of (i:=0) rfl
 have o1:=r5.cell_of (i:=1) rfl
 have c0:=r4.cell_of (i:=0) rfl
 have c1:=r4.cell_of (i:=1) rfl
 have hlt:=r7.lt
 have gH:=aA hb0
 have HR4:=aA r4
 have WY:=aA r6
 have vE:=aA r7
 have t6:W.there (w.heap.size+1+1+1) 0 2:=r6.there (by simp)
 have t7:W.there (w.heap.size+1+1+1+1) 0 2:=r7.there (by simp)
 have HQ:=aA (show vQ (KB I W.heap.size W) W s p1 p2 from q.stay fun k hk hl=>⟨.inl hk,hb0.block k hl⟩)
 have HQ0:=aA (show vQ I W s p1 p2 from q.stay fun k hk hl=>⟨hk,hb0.block k hl⟩)
 have HIW:=aA (show ∀ k,I k→k<W.heap.size from fun k hk=>Nat.lt_of_lt_of_le (hI k hk) hb0.size)
 clear hW hb0 r4 r5 r6 r7 q
 by_cases k1:c=1
 ·subst k1
  obtain ⟨f,g,hfg,qf,qg⟩:=HQ.out
  have hlen:s.length=f.length+g.length:=by rw [hfg];simp
  have e9:=lX.out
  simp only [lV,if_true,Prod.mk.injEq,M.PY.mk.injEq] at e9
  obtain ⟨e1,e2,e3⟩:=e9
  subst e2
  obtain ⟨n1,yS⟩:∃ n:Nat,n=s.length+1:=⟨_,rfl⟩
  rw [←yS] at e3
  subst e3
  have HS':=aA e1
  have HFG:=aA hfg
  have HF:=aA qf
  clear lX e1 hfg qf
  go_wp2_with fail
  refine (NP (I:=I) (B:=W.heap.size) (x:=a) qg (Nat.le_refl _) (by omega)).mono ?_
  rintro e w3 ⟨b3,rfl,t3,cH⟩
  have m4:=HR4.out.old cH
  have y1:=m4.cell_of (i:=1) rfl
  have z1:=m4.frozen 1
  have hz3:=cH.size
  have pL:=aA t3
  have sW:=aA cH
  have HM4:=aA m4
  clear t3 cH m4 c0 c1 qg
  go_upto_region 4 with fail
  generalize nT:World.setCell w3 _ _=W3
  have r4:Row W3 (w.heap.size+1) 68 [.pointer p1,.pointer (some ⟨b3,0,none⟩)]:=by rw [←nT];exact HM4.out.set 1 _
  have JM:∀ k,k≠w.heap.size+1→W3.heap[k]?=w3.heap[k]?:=fun k hk=>by rw [←nT,Below.heap_setCell _ _ _ k hk]
  have hz4:W3.heap.size=w3.heap.size:=by rw [←nT];simp [World.setCell]
  have HBW:=aA (show Below w.heap.size w W3 by rw [←nT];exact (Below.next gH.out sW.out gH.out.size).setCell (by simp) _)
  replace t6:W3.there (w.heap.size+1+1+1) 0 2:=((WY.out.old sW.out).of_block (JM _ (by omega))).there (by simp)
  replace t7:W3.there (w.heap.size+1+1+1+1) 0 2:=((vE.out.old sW.out).of_block (JM _ (by omega))).there (by simp)
  have stay:∀ k,KB I W.heap.size w3 k→k<w3.heap.size→KB I W.heap.size W3 k∧W3.heap[k]?=w3.heap[k]?:=fun k hk hl=>by
   rcases hk with hk|hk
   ·exact ⟨.inl hk,JM k (by have:=hI k hk;omega)⟩
   ·exact ⟨.inr ⟨hk.1,by omega⟩,JM k (by omega)⟩
  have qa:iP (KB I W.heap.size W3) W3 (a::g) (some ⟨b3,0,none⟩):=pL.out.stay stay
  have qf:iP (KB I W.heap.size W3) W3 f p1:=(HF.out.later sW.out).stay stay
  have HQ3:=aA (show vQ (KB I W.heap.size W3) W3 s' p1 (some ⟨b3,0,none⟩) from ⟨f,a::g,by rw [HS'.out,HFG.out];simp,qf,qa⟩)
  have c0:=r4.cell_of (i:=0) rfl
  have c1:=r4.cell_of (i:=1) rfl
  have HZ1:=aA (CX (show iP (KB I W.heap.size W3) W3.drew f p1 from qf.stay (w:=W3) (w':=W3.drew) fun k hk _=>⟨hk,rfl⟩))
  have HZ2:=aA (CX (show iP (KB I W.heap.size W3) W3.drew (a::g) (some ⟨b3,0,none⟩) from qa.stay (w:=W3) (w':=W3.drew) fun k hk _=>⟨hk,rfl⟩))
  obtain ⟨nf,hnf⟩:∃ n:Nat,n=f.length:=⟨_,rfl⟩
  obtain ⟨ng,hng⟩:∃ n:Nat,n=(a::g).length:=⟨_,rfl⟩
  rw [←hnf] at HZ1
  rw [←hng] at HZ2
  have hw:IntKind.i64.wrap ((nf:Int)+(ng:Int))=(n1:Int):=by
   simp only [List.length_cons] at hng
   rw [dR _ (by omega) (by omega)]
   omega
  clear nT JM hnf hng yS hlen stay r4 qa qf y1 z1 o0 o1
  refine fQ (S:=(fun w'=>w'.there (w.heap.size+1+1+1) 0 2∧w'.there (w.heap.size+1+1+1+1) 0 2∧w'.cell? ⟨w.heap.size+1,0,none⟩=some (.pointer p1)∧w'.cell? ⟨w.heap.size+1,1,none⟩=some (.pointer (some ⟨b3,0,none⟩))∧w'.cell? ⟨w.heap.size+1,0,none⟩=some (.pointer p1)∧w'.cell? ⟨w.heap.size+1,1,none⟩=some (.pointer (some ⟨b3,0,none⟩)))) 11 rfl (by kernel_rfl) ?_ (fun hHeld=>?_)
  ·exact ⟨t6,t7,c0,c1,c0,c1⟩
  iterate 3 (refine tk 10 (by rfl) (by kernel_rfl) (by exact fun _ _ _ h=>h) (.inl ⟨by rfl,fun w hS=>by (try dsimp only at hS);go_simp;(try with_reducible rfl)⟩) (by assumption) ?_;try go_frame)
  iterate 2 (refine tk 11 (by rfl) (by kernel_rfl) (by exact fun _ _ _ h=>h) (.inl ⟨by rfl,fun w hS=>by (try dsimp only at hS);go_simp;(try with_reducible rfl)⟩) (by assumption) ?_;try go_frame)
  refine bK 3 (by rfl) (by kernel_rfl) (fun K hK=>?_)
  go_simp
  refine HZ1.out.mono ?_
  rintro e w5 ⟨rfl,rfl⟩
  go_wp2_with fail
  refine hK.out _ _ ?_ (fun hHeld=>?_)
  ·exact hHeld
  clear hK K
  (try go_frame)
  refine bK 6 (by rfl) (by kernel_rfl) (fun K hK=>?_)
  go_simp
  refine HZ2.out.mono ?_
  rintro e w5 ⟨rfl,rfl⟩
  go_wp2_with fail
  refine hK.out _ _ ?_ (fun hHeld=>?_)
  ·exact hHeld
  clear hK K
  (try go_frame)
  iterate 1 (refine tk 10 (by rfl) (by kernel_rfl) (by exact fun _ _ _ h=>h) (.inl ⟨by rfl,fun w hS=>by (try dsimp only at hS);go_simp;(try with_reducible rfl)⟩) (by assumption) ?_;try go_frame)
  refine bK 8 (by rfl) (by kernel_rfl) (fun K hK=>?_)
  go_simp
  refine (qK _ _).mono ?_
  rintro e w4 ⟨rfl,cR⟩
  have VT:=aA (Below.bU cR)
  go_wp2_with fail
  refine hK.out _ _ ?_ (fun hHeld=>?_)
  ·exact ⟨aU cR hHeld.1,aU cR hHeld.2.1,cell_later cR hHeld.2.2.1,cell_later cR hHeld.2.2.2.1,cell_later cR hHeld.2.2.2.2.1,cell_later cR hHeld.2.2.2.2.2⟩
  clear hK K
  (try go_frame)
  refine bK 9 (by rfl) (by kernel_rfl) (fun K hK=>?_)
  rw [if_pos (by rfl)]
  have e1:=World.rangeAt_setCells_same _ (w.heap.size+1+1+1) 0 [.pointer p1,.pointer (some ⟨b3,0,none⟩)] hHeld.1
  refine wp_store_mid _ _ _ rfl _ 0 #[.pointer p1,.pointer (some ⟨b3,0,none⟩)] rfl rfl hHeld.1 (by kernel_rfl) (by simp [Value.oneCell']) ?_
  refine hK.out _ _ ?_ (fun hHeld=>?_)
  ·exact vF hHeld (by omega) (by omega) (by omega) (by omega)
  clear hK K
  (try go_frame)
  refine bK 10 (by rfl) (by kernel_rfl) (fun K hK=>?_)
  rw [if_pos (by rfl)]
  have e2:=World.rangeAt_setCells_same _ (w.heap.size+1+1+1+1) 0 [.int .i64 1,.int .i64 (n1:Int)] hHeld.2.1
  have e3:=World.rangeAt_setCells_apart e1 (w.heap.size+1+1+1+1) 0 [.int .i64 1,.int .i64 (n1:Int)] (.inl (by omega))
  refine wp_store_mid _ _ _ rfl _ 0 #[.int .i64 1,.int .i64 (n1:Int)] rfl rfl hHeld.2.1 (by kernel_rfl) (by simp [Value.oneCell']) ?_
  refine hK.out _ _ ?_ (fun hHeld=>?_)
  ·exact vF hHeld (by omega) (by omega) (by omega) (by omega)
  clear hK K
  (try go_frame)
  refine wpAnyH_done (by kernel_rfl) ?_ _
  have q1:=e3 0 _ rfl
  have q2:=e3 1 _ rfl
  have q3:=e2 0 _ rfl
  have q4:=e2 1 _ rfl
  have HE:=aA (uV (N:=W.heap.size) (b6:=w.heap.size+1+1+1) (b7:=w.heap.size+1+1+1+1) hI (by omega) (by omega) (by omega) hlt HBW.out HQ3.out [.pointer p1,.pointer (some ⟨b3,0,none⟩)] [.int .i64 1,.int .i64 (n1:Int)] VT.out)
  clear hHeld e1 e2 e3
  go_wp2_with fail
  exact bodyPost_ret (v:=.tuple #[.agg #[.pointer p1,.pointer (some ⟨b3,0,none⟩)],.agg #[.int .i64 1,.int .i64 (n1:Int)]]) (by simp [results,Tryz.results282,go_sem,q1,q2,q3,q4]) rfl ⟨_,_,rfl,HE.out.1,HE.out.2⟩
 ·by_cases k2:c=2
  ·subst k2
   have e9:=lX.out
   simp only [lV,if_true] at e9
   rw [if_neg (by decide)] at e9
   simp only [Prod.mk.injEq] at e9
   obtain ⟨e1,e2⟩:=e9
   obtain ⟨f,g,hfg,qf,qg⟩:=HQ0.out
   have HTK:=aA (show Calls Tryz.prog 96 #[.agg #[.pointer p1,.pointer p2]] W (AV I W s' x y) by
    cases f with
    |nil =>
     have hp:p1=none:=qf
     subst hp
     rw [List.nil_append] at hfg
     refine RP qg HIW.out (by have:=hz;rw [hfg,List.length_reverse] at this;exact this) (by rw [e1,hfg]) ?_ ?_
     ·rw [hfg] at e2;by_cases h0:g.reverse=[]
      ·rw [if_pos h0] at e2 ⊢;injection e2
      ·rw [if_neg h0] at e2 ⊢;injection e2
     ·rw [hfg] at e2;by_cases h0:g.reverse=[]
      ·rw [if_pos h0] at e2;rw [h0];injection e2
      ·rw [if_neg h0] at e2;injection e2
    |cons z f =>
     rw [hfg] at e1 e2
     rw [if_neg (by simp)] at e2
     injection e2 with e3 e4
     have e1:s'=f++g.reverse:=by simpa using e1
     have e4:y=z:=by simpa using e4
     subst e1 e3 e4
     exact NT qf qg HIW.out)
   clear e1 e2 hfg qf qg lX
   go_wp2_with fail
   refine HTK.out.mono ?_
   rintro e w3 ⟨q1,q2,rfl,t3,cH⟩
   have m6:=WY.out.old cH
   have m7:=vE.out.old cH
   have y0:=m6.cell_of (i:=0) rfl
   have y1:=m6.cell_of (i:=1) rfl
   have z0:=m6.frozen 0
   have z1:=m6.frozen 1
   have x0:=m7.cell_of (i:=0) rfl
   have x1:=m7.cell_of (i:=1) rfl
   have u0:=m7.frozen 0
   have u1:=m7.frozen 1
   have n67:w.heap.size+1+1+1≠w.heap.size+1+1+1+1:=by omega
   have HE:=aA (uV (N:=W.heap.size) (b6:=w.heap.size+1+1+1) (b7:=w.heap.size+1+1+1+1) hI (by omega) (by omega) (by omega) hlt (Below.next gH.out cH gH.out.size) t3 [.pointer q1,.pointer q2] [.int .i64 x,.int .i64 y] (Below.refl _ _))
   have HA:=aA ((((m6.set 0 (.pointer q1)).set 1 (.pointer q2)).setOther (a:=⟨w.heap.size+1+1+1+1,0,none⟩) n67 (.int .i64 x)).setOther (a:=⟨w.heap.size+1+1+1+1,1,none⟩) n67 (.int .i64 y))
   have HC:=aA ((((m7.setOther (a:=⟨w.heap.size+1+1+1,0,none⟩) n67.symm (.pointer q1)).setOther (a:=⟨w.heap.size+1+1+1,1,none⟩) n67.symm (.pointer q2)).set 0 (.int .i64 x)).set 1 (.int .i64 y))
   clear t3 cH m6 m7 HTK
   go_wp2_with fail
   have k1:=HA.out.cell_of (i:=0) rfl
   have k2:=HA.out.cell_of (i:=1) rfl
   have k3:=HC.out.cell_of (i:=0) rfl
   have k4:=HC.out.cell_of (i:=1) rfl
   exact bodyPost_ret (v:=.tuple #[.agg #[.pointer q1,.pointer q2],.agg #[.int .i64 x,.int .i64 y]]) (by simp [results,Tryz.results282,go_sem,k1,k2,k3,k4]) rfl ⟨_,_,rfl,HE.out.1,HE.out.2⟩
  ·have e9:=lX.out
   simp only [lV,if_neg k1,if_neg k2,Prod.mk.injEq,M.PY.mk.injEq] at e9
   obtain ⟨rfl,rfl,rfl⟩:=e9
   clear lX
   go_upto_region 7 with fail
   refine fQ (S:=(fun w'=>w'.there (w.heap.size+1+1+1) 0 2∧w'.there (w.heap.size+1+1+1+1) 0 2∧w'.cell? ⟨w.heap.size+1,0,none⟩=some (.pointer p1)∧w'.cell? ⟨w.heap.size+1,1,none⟩=some (.pointer p2)∧w'.cell? ⟨w.heap.size+1,0,none⟩=some (.pointer p1)∧w'.cell? ⟨w.heap.size+1,1,none⟩=some (.pointer p2))) 4 rfl (by kernel_rfl) ?_ (fun hHeld=>?_)
   ·exact ⟨t6,t7,c0,c1,c0,c1⟩
   iterate 1 (refine tk 3 (by rfl) (by kernel_rfl) (by exact fun _ _ _ h=>h) (.inl ⟨by rfl,fun w hS=>by (try dsimp only at hS);go_simp;(try with_reducible rfl)⟩) (by assumption) ?_;try go_frame)
   refine bK 1 (by rfl) (by kernel_rfl) (fun K hK=>?_)
   go_simp
   refine (wC _).mono ?_
   rintro e w4 ⟨rfl,cR⟩
   have VT:=aA (Below.bU cR)
   go_wp2_with fail
   refine hK.out _ _ ?_ (fun hHeld=>?_)
   ·exact ⟨aU cR hHeld.1,aU cR hHeld.2.1,cell_later cR hHeld.2.2.1,cell_later cR hHeld.2.2.2.1,cell_later cR hHeld.2.2.2.2.1,cell_later cR hHeld.2.2.2.2.2⟩
   clear hK K
   (try go_frame)
   refine bK 2 (by rfl) (by kernel_rfl) (fun K hK=>?_)
   rw [if_pos (by rfl)]
   have e1:=World.rangeAt_setCells_same _ (w.heap.size+1+1+1) 0 [.pointer p1,.pointer p2] hHeld.1
   refine wp_store_mid _ _ _ rfl _ 0 #[.pointer p1,.pointer p2] rfl rfl hHeld.1 (by kernel_rfl) (by simp [Value.oneCell']) ?_
   refine hK.out _ _ ?_ (fun hHeld=>?_)
   ·exact vF hHeld (by omega) (by omega) (by omega) (by omega)
   clear hK K
   (try go_frame)
   refine bK 3 (by rfl) (by kernel_rfl) (fun K hK=>?_)
   rw [if_pos (by rfl)]
   have e2:=World.rangeAt_setCells_same _ (w.heap.size+1+1+1+1) 0 [.int .i64 4,.int .i64 0] hHeld.2.1
   have e3:=World.rangeAt_setCells_apart e1 (w.heap.size+1+1+1+1) 0 [.int .i64 4,.int .i64 0] (.inl (by omega))
   refine wp_store_mid _ _ _ rfl _ 0 #[.int .i64 4,.int .i64 0] rfl rfl hHeld.2.1 (by kernel_rfl) (by simp [Value.oneCell']) ?_
   refine hK.out _ _ ?_ (fun hHeld=>?_)
   ·exact vF hHeld (by omega) (by omega) (by omega) (by omega)
   clear hK K
   (try go_frame)
   refine wpAnyH_done (by kernel_rfl) ?_ _
   have q1:=e3 0 _ rfl
   have q2:=e3 1 _ rfl
   have q3:=e2 0 _ rfl
   have q4:=e2 1 _ rfl
   have HE:=aA (uV (N:=W.heap.size) (b6:=w.heap.size+1+1+1) (b7:=w.heap.size+1+1+1+1) hI (by omega) (by omega) (by omega) hlt gH.out HQ.out [.pointer p1,.pointer p2] [.int .i64 4,.int .i64 0] VT.out)
   clear hHeld e1 e2 e3
   go_wp2_with fail
   exact bodyPost_ret (v:=.tuple #[.agg #[.pointer p1,.pointer p2],.agg #[.int .i64 4,.int .i64 0]]) (by simp [results,Tryz.results282,go_sem,q1,q2,q3,q4]) rfl ⟨_,_,rfl,HE.out.1,HE.out.2⟩
end
theorem aBp (n:Nat) (hz:n≤10000000000000) (w:World):Calls Tryz.prog 286 #[.slice none 0 0,.int .i64 (n:Int)] w fun e w'=>∃ v,e = .returned v∧w'.ownsRow w.heap.size 3 1 v 0 (ints [])∧Below w.heap.size w w':=by
 by_cases h0:n=0
 ·subst h0
  have HP:=aA (show ∃ v,Ending.returned (.slice none 0 0) = .returned v∧w.ownsRow w.heap.size 3 1 v 0 (ints [])∧Below w.heap.size w w from ⟨_,rfl,World.ownsRow_nil _ _ _ _,Below.refl _ _⟩)
  go_enter Tryz.func286,Tryz.ntmps286
  go_wp2
  go_ret
  exact HP.out
 ·obtain ⟨ti,zF,xL⟩:=Option.map_eq_some_iff.1 iV
  simp only [Prod.mk.injEq] at xL
  obtain ⟨qX,qY,qZ⟩:=xL
  have hrun:=fun W=>Go.Lib.run_append_nil_zeros (P:=Tryz.prog) W 22 3 22 3 ti (.int .i64 0) .i64 .i64 Tryz.underlying22 Tryz.underlying3 zF qX n (by omega) (by rw [qY];decide) (by omega) (by rw [qZ];omega)
  have aGC:=aA hrun
  have hn0:(0:Int)<(n:Int):=by omega
  have yS:¬(n:Int)<0:=by omega
  have hnw:IntKind.i64.wrap (n:Int)=(n:Int):=dR _ (by omega) (by omega)
  clear zF qX qY qZ hrun
  go_enter Tryz.func286,Tryz.ntmps286
  go_wp2_with (at_builtin;refine Go.Lib.wpList_append_run _ rfl (.tmp 20) (.tmp 21) 22 3 rfl _ _ rfl rfl _ _ (aGC.out _) ?_)
  go_ret
  have hge:=grownCap_ge w n 0 3
  have hle:=grownCap_le_maxLen w n 0 3 (by unfold maxLen;omega)
  refine ⟨_,rfl,⟨rfl,.inr ⟨w.heap.size,grownCap w n 0 3,Builtin.zeroCells #[.int .i64 0] n++Builtin.zeroCells #[.int .i64 0] (grownCap w n 0 3-n),rfl,Nat.le_refl _,?_,Nat.zero_le _,hle,?_,?_⟩⟩,Below.drew (aB _ _)⟩
  ·have h9:=Row.new w (Builtin.zeroCells #[.int .i64 0] n++Builtin.zeroCells #[.int .i64 0] (grownCap w n 0 3-n)).toList 3
   unfold Row at h9
   rw [Array.toArray_toList] at h9
   exact h9
  ·simp [Builtin.zeroCells]
   omega
  ·simp [ints]
theorem DM (a:Option Addr) (c:Nat) (base:Option Addr) (n cap:Nat) (h:n≤cap) (w:World):(Builtin.append_ #[22,22] 22 #[.slice base n cap,.slice a 0 c]).run Tryz.prog w = .ok (.slice base n cap) w:=by
 obtain ⟨ti,zF,xL⟩:=Option.map_eq_some_iff.1 iV
 simp only [Prod.mk.injEq] at xL
 refine run_append_nothing (P:=Tryz.prog) w 22 22 22 3 ti Tryz.underlying22 zF base n cap h (.slice a 0 c) ⟨.inl ⟨_,Tryz.underlying22⟩,fun _=>rfl,?_,?_,by simp,fun u hu=>by cases hu⟩
 ·rw [xL.2.1];cases a<;>first|rfl|simp [Builtin.firstCells]
 ·rw [xL.2.1];cases a<;>first|rfl|simp [Builtin.firstCells]
def Acc (l1 l2:List Int) (k:Nat) (acc:List Int):Prop:=(k=0∧acc=[])∨(k=1∧acc=l1)∨(k=2∧acc=l1++l2)
theorem ZC {w:World} {base:Nat} {e:TypeId} {a:Option Addr} {n c:Nat} {xs:List Value} (h:w.ownsRow base e 1 (.slice a n c) n xs):n≤c:=by
 rcases h.2 with ⟨e,h0⟩|⟨g,cap,cur,e,-,-,h5,-⟩
 ·injection e with e1 e2 e3;omega
 ·injection e with e1 e2 e3;omega
theorem WG (g:Nat) (v1 v2:Value) (l1 l2:List Int) (w:World) (B:Nat) (hg:Row w g 22 [v1,v2]) (o1:w.ownsRow B 3 1 v1 l1.length (ints l1)) (o2:w.ownsRow B 3 1 v2 l2.length (ints l2)) (hz:l1.length+l2.length≤1000000000000) :
  Calls Tryz.prog 285 #[.slice (some ⟨g,0,none⟩) 2 2] w fun e w'=>∃ v,e = .returned v∧w'.ownsRow w.heap.size 3 1 v (l1++l2).length (ints (l1++l2))∧Below w.heap.size w w':=by
 obtain ⟨ti,zF,xL⟩:=Option.map_eq_some_iff.1 iV
 simp only [Prod.mk.injEq] at xL
 obtain ⟨qX,qY,qZ⟩:=xL
 have tT:=aA zF
 have IE:=aA qX
 have sU:=aA qY
 have pL:=aA qZ
 clear zF qX qY qZ
 have ZV:=aA (show ∀ k acc,Acc l1 l2 k acc→k<2→∃ v l,w.cell? ⟨g,k,none⟩=some v∧w.ownsRow B 3 1 v l.length (ints l)∧Acc l1 l2 (k+1) (acc++l)∧acc.length+l.length≤1000000000000 by
  rintro k acc (⟨rfl,rfl⟩|⟨rfl,rfl⟩|⟨rfl,rfl⟩) hk
  ·exact ⟨v1,l1,hg.cell_of rfl,o1,.inr (.inl ⟨rfl,rfl⟩),by simp;omega⟩
  ·exact ⟨v2,l2,hg.cell_of rfl,o2,.inr (.inr ⟨rfl,rfl⟩),hz⟩
  ·omega)
 clear hg o1 o2
 go_enter Tryz.func285,Tryz.ntmps285
 go_wp2
 go_loop [3,11] (fun s i=>∃ (k:Nat) (acc:List Int),k≤2∧Acc l1 l2 k acc∧s = .int .i64 (acc.length:Int)∧i = .int .i64 (k:Int)) (fun _ i=>2-(intOf i).toNat)
 case atStart=>exact ⟨0,[],by omega,.inl ⟨rfl,rfl⟩,rfl,rfl⟩
 case round =>
  obtain ⟨k,acc,hk,hA,rfl,rfl⟩:=hrel
  by_cases hlt:k<2
  ·obtain ⟨v,l,hc,hv,hA2,hl2⟩:=ZV.out k acc hA hlt
   obtain ⟨⟨va,vc,rfl⟩,-⟩:=gN hv
   have VV:=aA hA2
   have hlt':(k:Int)<2:=by omega
   have hk0:(0:Int)≤(k:Int):=by omega
   have hw:IntKind.i64.wrap ((acc.length:Int)+(l.length:Int))=(acc.length:Int)+(l.length:Int):=dR _ (by omega) (by omega)
   have XL:¬(acc.length:Int)+(l.length:Int)<0:=by omega
   clear hA2 hA hv
   go_wp2
   go_round
   case rel=>exact ⟨k+1,acc++l,by omega,VV.out,by simp,by go_num⟩
   case measure=>simp [intOf];omega
  ·have hlt':¬(k:Int)<2:=by omega
   have hal:acc.length≤1000000000000:=by
    rcases hA with ⟨rfl,rfl⟩|⟨rfl,rfl⟩|⟨rfl,rfl⟩
    ·omega
    ·omega
    ·simpa using hz
   clear hA
   go_wp2_with fail
   refine (aBp acc.length (by omega) _).mono ?_
   rintro e w1 ⟨v0,rfl,ho0,hb0⟩
   have HO0:=aA ho0
   have gH:=aA hb0
   clear ho0 hb0
   go_wp2
   go_loopw [6,27] (fun o i w'=>∃ (k:Nat) (acc:List Int),k≤2∧Acc l1 l2 k acc∧i = .int .i64 (k:Int)∧w'.ownsRow w.heap.size 3 1 o acc.length (ints acc)∧Below w.heap.size w w') (fun _ i _=>2-(intOf i).toNat)
   case atStart=>exact ⟨0,[],by omega,.inl ⟨rfl,rfl⟩,rfl,HO0.out,gH.out⟩
   case round =>
    obtain ⟨k,acc,hk,hA,rfl,ho,hb⟩:=hrel
    have HB:=aA hb
    have hzb:=hb.size
    by_cases hlt:k<2
    ·obtain ⟨v,l,hc,hv,hA2,hl2⟩:=ZV.out k acc hA hlt
     obtain ⟨⟨va,vc,rfl⟩,-⟩:=gN hv
     obtain ⟨⟨oa,oc,rfl⟩,-⟩:=gN ho
     have VV:=aA hA2
     have LQ:=cell_later hb hc
     have hlt':(k:Int)<2:=by omega
     have hk0:(0:Int)≤(k:Int):=by omega
     have HO:=aA ho
     have hle:=ZC ho
     by_cases h0:l.length=0
     ·have hl0:l=[]:=List.length_eq_zero_iff.mp h0
      subst hl0
      have HRN:=aA (DM va vc oa acc.length oc hle)
      have HN:=aA (show Acc l1 l2 (k+1) acc by have:=VV.out;rwa [List.append_nil] at this)
      clear hA2 hA hv ho hb hc h0 hle
      go_wp2_with (at_builtin;refine Go.Lib.wpList_append_run _ rfl (.tmp 31) (.tmp 32) 22 22 rfl _ _ rfl rfl _ _ (HRN.out _) ?_)
      go_roundw
      case rel=>exact ⟨k+1,acc,by omega,HN.out,by go_num,HO.out,HB.out⟩
      case measure=>simp [intOf];omega
     ·obtain ⟨gv,vc',ev,hcell⟩:=tX hv (i:=0) (u:=.int .i64 (l.headD 0)) (by cases l with|nil=>simp at h0|cons x l=>rfl)
      have e1:va=some ⟨gv,0,none⟩:=by injection ev
      subst e1
      have HC:=aA (show ∀ j u,(ints l)[j]?=some u→wr.cell? ((⟨gv,0,none⟩:Addr).add j)=some u from fun j u hj=>by
       have:=hv.cells (g:=gv) rfl j u hj
       rw [oJ] at this ⊢
       exact cell_later hb this)
      clear hA2 hA hv ho hb hc hcell ev
      go_wp2_with (at_builtin;refine wpList_append_lies _ rfl (.tmp 31) (.tmp 32) 22 rfl w.heap.size 3 ti (.int .i64 0) 1 8 Tryz.underlying22 tT.out IE.out sU.out pL.out rfl (by decide) (.slice oa acc.length oc) acc.length (ints acc) rfl HO.out ⟨gv,0,none⟩ l.length vc (ints l) rfl (by simp [ints]) HC.out (JO l) (by omega) (by unfold maxLen;omega) (by omega) hzb wr.heap.size rfl ?_)
      intro g4 oA w4 hown jY hat mN
      have HN:=aA (show w4.ownsRow w.heap.size 3 1 (.slice (some ⟨g4,0,none⟩) (acc.length+l.length) oA) (acc++l).length (ints (acc++l)) by
       rw [List.length_append]
       have e3:ints (acc++l)=ints acc++ints l:=by simp [ints]
       rw [e3]
       exact hown)
      have VT:=aA (show Below w.heap.size w w4 from HB.out.grown jY hzb (fun q hq=>(HO.out.lt q hq).1))
      clear hown jY hat mN
      go_wp2
      go_roundw
      case rel=>exact ⟨k+1,acc++l,by omega,VV.out,by go_num,HN.out,VT.out⟩
      case measure=>simp [intOf];omega
    ·have hlt':¬(k:Int)<2:=by omega
     have ea:acc=l1++l2:=by
      rcases hA with ⟨q,-⟩|⟨q,-⟩|⟨-,q⟩
      ·omega
      ·omega
      ·exact q
     have HEA:=aA ea
     have HO:=aA ho
     clear hA ea ho hb
     go_wp2
     go_ret
     have ho9:=HO.out
     rw [HEA.out] at ho9
     exact ⟨_,rfl,by simpa using ho9,HB.out⟩
section
variable {I:Nat→Prop} {w:World} {p p1 p2:Option Addr} {s:List Int}
theorem LC (q:iP I w s p) (hz:s.length≤1000000000000) :
  Calls Tryz.prog 278 #[.agg #[],.pointer p] w fun e w'=>∃ v,e = .returned v∧w'.ownsRow w.heap.size 3 1 v s.length (ints s)∧Below w.heap.size w w':=by
 have HQ:=aA q
 clear q
 go_enter Tryz.func278,Tryz.ntmps278
 go_wp2_with fail
 generalize hW:World.alloc w _=W
 have hb0:Below w.heap.size w W:=by rw [←hW];exact aB _ _
 have HB:=aA hb0
 have HV:=aA (CZ (show iP I W s p from HQ.out.stay fun k hk hl=>⟨hk,hb0.block k hl⟩) hz)
 clear hW hb0
 refine HV.out.mono ?_
 rintro e w3 ⟨v,rfl,ho,hb⟩
 have HO:=aA ho
 have sW:=aA hb
 clear ho hb
 go_wp2_with fail
 go_ret
 exact ⟨v,rfl,kP HO.out HB.out.size,Below.next HB.out sW.out HB.out.size⟩
theorem LD (q:vQ I w s p1 p2) (hz:s.length≤1000000000000) :
  Calls Tryz.prog 283 #[.agg #[],.agg #[.pointer p1,.pointer p2]] w fun e w'=>∃ v,e = .returned v∧w'.ownsRow w.heap.size 3 1 v s.length (ints s)∧Below w.heap.size w w':=by
 obtain ⟨f,g,hfg,qf,qg⟩:=q
 have hl:f.length+g.length≤1000000000000:=by rw [hfg] at hz;simpa using hz
 obtain ⟨gr,jY⟩:∃ gr,gr=g.reverse:=⟨_,rfl⟩
 have hlr:f.length+gr.length≤1000000000000:=by rw [jY,List.length_reverse];exact hl
 rw [←jY] at hfg
 have HFG:=aA hfg
 have HGR:=aA jY
 clear hfg jY
 go_enter Tryz.func283,Tryz.ntmps283
 go_upto_region 1 with fail
 generalize hW:World.alloc (World.alloc w _) _=W
 have hb0:Below w.heap.size w W:=by rw [←hW];exact ((Below.refl _ _).alloc (Nat.le_refl _) _).alloc (by simp) _
 have r3:Row W (w.heap.size+1) 68 [.pointer p1,.pointer p2]:=by rw [←hW];exact Row.new' (by simp)
 have c0:=r3.cell_of (i:=0) rfl
 have c1:=r3.cell_of (i:=1) rfl
 have HF:=aA (show iP (KB I W.heap.size W) W f p1 from qf.stay fun k hk hl=>⟨.inl hk,hb0.block k hl⟩)
 have HG:=aA (show iP (KB I W.heap.size W) W g p2 from qg.stay fun k hk hl=>⟨.inl hk,hb0.block k hl⟩)
 have HB:=aA hb0
 have LX:=hb0.size
 clear hW hb0 r3 qf qg
 refine fQ (S:=(fun w'=>Below W.heap.size W w'∧w'.cell? ⟨w.heap.size+1,0,none⟩=some (.pointer p1)∧w'.cell? ⟨w.heap.size+1,1,none⟩=some (.pointer p2))) 10 rfl (by kernel_rfl) ?_ (fun hHeld=>?_)
 ·exact ⟨(Below.refl _ _).drew,c0,c1⟩
 iterate 2 (refine tk 9 (by rfl) (by kernel_rfl) (by exact fun _ _ _ h=>h) (.inl ⟨by rfl,fun w hS=>by (try dsimp only at hS);go_simp;(try with_reducible rfl)⟩) (by assumption) ?_;try go_frame)
 iterate 2 (refine tk 10 (by rfl) (by kernel_rfl) (by exact fun _ _ _ h=>h) (.inl ⟨by rfl,fun w hS=>by (try dsimp only at hS);go_simp;(try with_reducible rfl)⟩) (by assumption) ?_;try go_frame)
 refine bK 2 (by rfl) (by kernel_rfl) (fun K hK=>?_)
 go_simp
 refine (CZ (HF.out.later hHeld.1) (by omega)).mono ?_
 rintro e w2 ⟨v2,rfl,o2',bA⟩
 obtain ⟨⟨a2,k2,rfl⟩,-⟩:=gN o2'
 have o2:=kP o2' (Nat.zero_le _)
 clear o2'
 go_wp2_with fail
 refine hK.out _ _ ?_ (fun hHeld=>?_)
 ·exact ⟨Below.next hHeld.1 bA hHeld.1.size,cell_later bA hHeld.2.1,cell_later bA hHeld.2.2⟩
 clear hK K
 (try go_frame)
 refine bK 5 (by rfl) (by kernel_rfl) (fun K hK=>?_)
 go_simp
 refine (CY (I:=I) (B:=W.heap.size) (HG.out.later hHeld.1) hHeld.1.size (by omega)).mono ?_
 rintro e w5 ⟨p5,rfl,t5,zP⟩
 rw [←HGR.out] at t5
 go_wp2_with fail
 refine hK.out _ _ ?_ (fun hHeld=>?_)
 ·exact ⟨Below.next hHeld.1 zP hHeld.1.size,cell_later zP hHeld.2.1,cell_later zP hHeld.2.2⟩
 clear hK K
 (try go_frame)
 refine bK 6 (by rfl) (by kernel_rfl) (fun K hK=>?_)
 go_simp
 refine (CZ t5 (by omega)).mono ?_
 rintro e w6 ⟨v6,rfl,o6',RA⟩
 obtain ⟨⟨a6,k6,rfl⟩,-⟩:=gN o6'
 have o6:=kP o6' (Nat.zero_le _)
 have o26:=oL (oL o2 zP) RA
 clear o6'
 go_wp2_with fail
 refine hK.out _ _ ?_ (fun hHeld=>?_)
 ·exact ⟨Below.next hHeld.1 RA hHeld.1.size,cell_later RA hHeld.2.1,cell_later RA hHeld.2.2⟩
 clear hK K
 (try go_frame)
 refine bK 7 (by rfl) (by kernel_rfl) (fun K hK=>?_)
 go_simp
 refine hK.out _ _ ?_ (fun hHeld=>?_)
 ·exact ⟨Below.next hHeld.1 (aB _ _) hHeld.1.size,cell_later (aB _ _) hHeld.2.1,cell_later (aB _ _) hHeld.2.2⟩
 clear hK K
 (try go_frame)
 refine bK 8 (by rfl) (by kernel_rfl) (fun K hK=>?_)
 go_simp
 refine (WG w6.heap.size _ _ f gr _ 0 (Row.new' (by simp)) (o26.alloc _) (o6.alloc _) hlr).mono ?_
 rintro e w8 ⟨v8,rfl,o8',hb8⟩
 have HO8:=aA (show w8.ownsRow w.heap.size 3 1 v8 s.length (ints s) by rw [HFG.out];exact kP o8' (by have:=hHeld.1.size;omega))
 clear o8'
 go_wp2_with fail
 refine hK.out _ _ ?_ (fun hHeld=>?_)
 ·exact ⟨Below.next hHeld.1 hb8 hHeld.1.size,cell_later hb8 hHeld.2.1,cell_later hb8 hHeld.2.2⟩
 clear hK K
 (try go_frame)
 iterate 1 (refine tk 9 (by rfl) (by kernel_rfl) (by exact fun _ _ _ h=>h) (.inl ⟨by rfl,fun w hS=>by (try dsimp only at hS);go_simp;(try with_reducible rfl)⟩) (by assumption) ?_;try go_frame)
 refine wpAnyH_done (by kernel_rfl) ?_ _
 go_wp2_with fail
 go_ret
 exact ⟨v8,rfl,HO8.out,Below.next HB.out hHeld.1 HB.out.size⟩
end
def OD:list.SR (List Int) where
 sz s:=s.length
 rep I w s c:=∃ p,c=[.pointer p]∧iP I w s p
 len h:=by obtain ⟨p,e,-⟩:=h;rw [e];rfl
 shape h v hv:=by obtain ⟨p,e,-⟩:=h;rw [e] at hv;exact ⟨_,List.mem_singleton.mp hv⟩
 stay hk h:=by obtain ⟨p,e,q⟩:=h;exact ⟨p,e,q.stay hk⟩
theorem zA:M.oQ (fun s:List Int=>s.length) kA:=by
 refine ⟨Nat.zero_le _,fun s o=>?_⟩
 show List.length (Prod.fst (if _ then _ else _))≤_
 split
 ·simp
 ·split
  ·simp;omega
  ·simp
theorem IW (w:World):(method 466 65 (.agg #[]) "Apply").run Tryz.prog w = .ok (277,.agg #[]) w:=by kernel_rfl
theorem IX (s o:Value) (w:World):(callFunc 277 #[.agg #[],s,o]).run Tryz.prog w = .ok (.enter 277 #[.agg #[],s,o]) w:=by kernel_rfl
theorem IY (w:World):(method 466 65 (.agg #[]) "Tell").run Tryz.prog w = .ok (278,.agg #[]) w:=by kernel_rfl
theorem IZ (s:Value) (w:World):(callFunc 278 #[.agg #[],s]).run Tryz.prog w = .ok (.enter 278 #[.agg #[],s]) w:=by kernel_rfl
theorem ZD (L:int.Lt) (ho:L.oT=65) (hv:L.ov = .agg #[]):list.cE OD kA L 277 (.agg #[]):=by
 refine ⟨zA,fun W=>by rw [ho,hv];exact IW W,fun s o W=>IX s o W,fun I W s x op hr hsz hI=>?_⟩
 obtain ⟨p,e,q⟩:=hr
 have hx:x = .pointer p:=by simpa using e
 subst hx
 obtain ⟨c,a,b⟩:=op
 refine (II q hI hsz).mono ?_
 rintro e' w' ⟨p',rfl,t',hb⟩
 exact ⟨.pointer p',rfl,⟨p',rfl,t'⟩,hb⟩
theorem ZE (L:int.Lt) (ho:L.oT=65) (hv:L.ov = .agg #[]):list.sL OD L (fun s=>s) 278 (.agg #[]) where
 m W:=by rw [ho,hv];exact IY W
 c s W:=IZ s W
 f I W s x hr hsz hI:=by
  obtain ⟨p,e,q⟩:=hr
  have hx:x=p:=by simpa using e
  subst hx
  exact LC q hsz
def OE:row.SR (List Int) where
 sz s:=s.length
 rep I w s c:=∃ p1 p2,c=[.pointer p1,.pointer p2]∧vQ I w s p1 p2
 len h:=by obtain ⟨p1,p2,e,-⟩:=h;rw [e];rfl
 shape h v hv:=by
  obtain ⟨p1,p2,e,-⟩:=h
  rw [e] at hv
  rcases List.mem_cons.mp hv with h|h
  ·exact ⟨_,h⟩
  ·exact ⟨_,List.mem_singleton.mp h⟩
 stay hk h:=by obtain ⟨p1,p2,e,q⟩:=h;exact ⟨p1,p2,e,q.stay hk⟩
theorem zB:M.oQ (fun s:List Int=>s.length) lV:=by
 refine ⟨Nat.zero_le _,fun s o=>?_⟩
 show List.length (Prod.fst (if _ then _ else _))≤_
 split
 ·simp
 ·split
  ·simp;omega
  ·simp
theorem JA (w:World):(method 466 69 (.agg #[]) "Apply").run Tryz.prog w = .ok (282,.agg #[]) w:=by kernel_rfl
theorem JC (s o:Value) (w:World):(callFunc 282 #[.agg #[],s,o]).run Tryz.prog w = .ok (.enter 282 #[.agg #[],s,o]) w:=by kernel_rfl
theorem JD (w:World):(method 466 69 (.agg #[]) "Tell").run Tryz.prog w = .ok (283,.agg #[]) w:=by kernel_rfl
theorem JE (s:Value) (w:World):(callFunc 283 #[.agg #[],s]).run Tryz.prog w = .ok (.enter 283 #[.agg #[],s]) w:=by kernel_rfl
theorem ZF (L:int.Lt) (ho:L.oT=69) (hv:L.ov = .agg #[]):row.cE OE lV L 282 (.agg #[]):=by
 refine ⟨zB,fun W=>by rw [ho,hv];exact JA W,fun s o W=>JC s o W,fun I W s x0 x1 op hr hsz hI=>?_⟩
 obtain ⟨p1,p2,e,q⟩:=hr
 obtain ⟨rfl,rfl⟩:x0 = .pointer p1∧x1 = .pointer p2:=by simpa using e
 obtain ⟨c,a,b⟩:=op
 refine (IV q hI hsz (s':=(lV.apply s ⟨c,a,b⟩).1) (x:=(lV.apply s ⟨c,a,b⟩).2.s) (y:=(lV.apply s ⟨c,a,b⟩).2.v) rfl).mono ?_
 rintro e' w' ⟨q1,q2,rfl,t',hb⟩
 exact ⟨.pointer q1,.pointer q2,rfl,⟨q1,q2,rfl,t'⟩,hb⟩
theorem ZG (L:int.Lt) (ho:L.oT=69) (hv:L.ov = .agg #[]):row.sL OE L (fun s=>s) 283 (.agg #[]) where
 m W:=by rw [ho,hv];exact JD W
 c s W:=JE s W
 f I W s x0 x1 hr hsz hI:=by
  obtain ⟨p1,p2,e,q⟩:=hr
  obtain ⟨rfl,rfl⟩:x0=p1∧x1=p2:=by simpa using e
  exact LD q hsz
theorem EH:yZ oP (fun _=>True):=⟨fun _=>0,⟨by decide,fun _ _=>Nat.zero_le _⟩,fun _ _=>trivial⟩
theorem LG:yZ kA (fun s=>s.length≤1000000000000):=⟨_,zA,fun s h=>by omega⟩
theorem LH:yZ lV (fun s=>s.length≤1000000000000):=⟨_,zB,fun s h=>by omega⟩
theorem RY:yZ rG (fun s=>s.length≤500000000000):=⟨_,FC,fun s h=>by omega⟩
end Go.Proofs.YtefjhnhdagolhabGreat
