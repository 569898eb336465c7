import Derived.Test.YtefjhnhdagolhaaGreatQ48
import Derived.Test.YtefjhnhdagolhaaGreatQ25
import Derived.Lib.AppendZeros
import Derived.Deep.Upon
import Derived.Test.YtefjhnhdagolhaaGreatQ38
import Derived.Test.YtefjhnhdagolhaaGreatQ47
import Derived.Test.YtefjhnhdagolhaaGreatQ50
namespace Go.Proofs.YtefjhnhdagolhaaGreat
open Go.RowKit
attribute [local go_sem ↓] Go.wp_at_zero Go.wp_at_succ
section
variable {I:Nat→Prop} {w:World} {p1 p2:Option Addr} {s:List Int} {c a b:Int}
set_option maxRecDepth 20000 in
set_option maxHeartbeats 4000000 in
theorem EI {s':List Int} {x y:Int} (q:rV I w s p1 p2) (hI:∀ k,I k→k<w.heap.size) (hz:s.length≤1000000000000) (hr:(s',(⟨x,y⟩:M.MD))=jS.apply s ⟨c,a,b⟩) :
  Calls Tryz.prog 370 #[.agg #[],.agg #[.pointer p1,.pointer p2],.agg #[.int .i64 c,.int .i64 a,.int .i64 b]] w (vY I w s' x y):=by
 have rH:=aA hr
 clear hr
 go_enter Tryz.func370,Tryz.ntmps370
 go_upto_region 1 with fail
 generalize hW:World.alloc (World.alloc (World.alloc (World.alloc (World.alloc w _) _) _) _) _=W
 have hb0:Below w.heap.size w W:=by rw [←hW];exact ((((aB w _).alloc (by simp) _).alloc (by simp;omega) _).alloc (by simp;omega) _).alloc (by simp;omega) _
 have r4:Row W (w.heap.size+1) 146 [.pointer p1,.pointer p2]:=by rw [←hW];exact (((Row.new' (by simp)).alloc _).alloc _).alloc _
 have r5:Row W (w.heap.size+1+1) 36 [.int .i64 c,.int .i64 a,.int .i64 b]:=by rw [←hW];exact ((Row.new' (by simp)).alloc _).alloc _
 have r6:Row W (w.heap.size+1+1+1) 146 [.pointer none,.pointer none]:=by rw [←hW];exact (Row.new' (by simp)).alloc _
 have r7:Row W (w.heap.size+1+1+1+1) 94 [.int .i64 0,.int .i64 0]:=by rw [←hW];exact Row.new' (by simp)
 have o0:=r5.cell_of (i:=0) rfl
 have o1:=r5.cell_of (i:=1) rfl
 have c0:=r4.cell_of (i:=0) rfl
 have c1:=r4.cell_of (i:=1) rfl
 have hlt:=r7.lt
 have mL:=aA hb0
 have WU:=aA r4
 have ZA:=aA r6
 have IV:=aA r7
 have t6:W.there (w.heap.size+1+1+1) 0 2:=r6.there (by simp)
 have t7:W.there (w.heap.size+1+1+1+1) 0 2:=r7.there (by simp)
 have HQ:=aA (show rV (KB I W.heap.size W) W s p1 p2 from q.stay fun k hk hl=>⟨.inl hk,hb0.block k hl⟩)
 have HQ0:=aA (show rV I W s p1 p2 from q.stay fun k hk hl=>⟨hk,hb0.block k hl⟩)
 have HIW:=aA (show ∀ k,I k→k<W.heap.size from fun k hk=>Nat.lt_of_lt_of_le (hI k hk) hb0.size)
 clear hW hb0 r4 r5 r6 r7 q
 by_cases k1:c=1
 ·subst k1
  obtain ⟨f,g,hfg,qf,qg⟩:=HQ.out
  have hlen:s.length=f.length+g.length:=by rw [hfg];simp
  have e9:=rH.out
  simp only [jS,if_true,Prod.mk.injEq,M.MD.mk.injEq] at e9
  obtain ⟨e1,e2,e3⟩:=e9
  subst e2
  obtain ⟨n1,lD⟩:∃ n:Nat,n=s.length+1:=⟨_,rfl⟩
  rw [←lD] at e3
  subst e3
  have HS':=aA e1
  have HFG:=aA hfg
  have HF:=aA qf
  clear rH e1 hfg qf
  go_wp2_with fail
  refine (LP (I:=I) (B:=W.heap.size) (x:=a) qg (Nat.le_refl _) (by omega)).mono ?_
  rintro e w3 ⟨b3,rfl,t3,cH⟩
  have m4:=WU.out.old cH
  have y1:=m4.cell_of (i:=1) rfl
  have z1:=m4.frozen 1
  have VL:=cH.size
  have qY:=aA t3
  have pY:=aA cH
  have HM4:=aA m4
  clear t3 cH m4 c0 c1 qg
  go_upto_region 4 with fail
  generalize nV:World.setCell w3 _ _=W3
  have r4:Row W3 (w.heap.size+1) 146 [.pointer p1,.pointer (some ⟨b3,0,none⟩)]:=by rw [←nV];exact HM4.out.set 1 _
  have pZ:∀ k,k≠w.heap.size+1→W3.heap[k]?=w3.heap[k]?:=fun k hk=>by rw [←nV,Below.heap_setCell _ _ _ k hk]
  have hz4:W3.heap.size=w3.heap.size:=by rw [←nV];simp [World.setCell]
  have HBW:=aA (show Below w.heap.size w W3 by rw [←nV];exact (Below.next mL.out pY.out mL.out.size).setCell (by simp) _)
  replace t6:W3.there (w.heap.size+1+1+1) 0 2:=((ZA.out.old pY.out).of_block (pZ _ (by omega))).there (by simp)
  replace t7:W3.there (w.heap.size+1+1+1+1) 0 2:=((IV.out.old pY.out).of_block (pZ _ (by omega))).there (by simp)
  have stay:∀ k,KB I W.heap.size w3 k→k<w3.heap.size→KB I W.heap.size W3 k∧W3.heap[k]?=w3.heap[k]?:=fun k hk hl=>by
   rcases hk with hk|hk
   ·exact ⟨.inl hk,pZ k (by have:=hI k hk;omega)⟩
   ·exact ⟨.inr ⟨hk.1,by omega⟩,pZ k (by omega)⟩
  have qa:fU (KB I W.heap.size W3) W3 (a::g) (some ⟨b3,0,none⟩):=qY.out.stay stay
  have qf:fU (KB I W.heap.size W3) W3 f p1:=(HF.out.later pY.out).stay stay
  have HQ3:=aA (show rV (KB I W.heap.size W3) W3 s' p1 (some ⟨b3,0,none⟩) from ⟨f,a::g,by rw [HS'.out,HFG.out];simp,qf,qa⟩)
  have c0:=r4.cell_of (i:=0) rfl
  have c1:=r4.cell_of (i:=1) rfl
  have HZ1:=aA (yT (show fU (KB I W.heap.size W3) W3.drew f p1 from qf.stay (w:=W3) (w':=W3.drew) fun k hk _=>⟨hk,rfl⟩))
  have HZ2:=aA (yT (show fU (KB I W.heap.size W3) W3.drew (a::g) (some ⟨b3,0,none⟩) from qa.stay (w:=W3) (w':=W3.drew) fun k hk _=>⟨hk,rfl⟩))
  obtain ⟨nf,hnf⟩:∃ n:Nat,n=f.length:=⟨_,rfl⟩
  obtain ⟨ng,hng⟩:∃ n:Nat,n=(a::g).length:=⟨_,rfl⟩
  rw [←hnf] at HZ1
  rw [←hng] at HZ2
  have hw:IntKind.i64.wrap ((nf:Int)+(ng:Int))=(n1:Int):=by
   simp only [List.length_cons] at hng
   rw [dJ _ (by omega) (by omega)]
   omega
  clear nV pZ hnf hng lD hlen stay r4 qa qf y1 z1 o0 o1
  refine gO (S:=(fun w'=>w'.there (w.heap.size+1+1+1) 0 2∧w'.there (w.heap.size+1+1+1+1) 0 2∧w'.cell? ⟨w.heap.size+1,0,none⟩=some (.pointer p1)∧w'.cell? ⟨w.heap.size+1,1,none⟩=some (.pointer (some ⟨b3,0,none⟩))∧w'.cell? ⟨w.heap.size+1,0,none⟩=some (.pointer p1)∧w'.cell? ⟨w.heap.size+1,1,none⟩=some (.pointer (some ⟨b3,0,none⟩)))) 11 rfl (by kernel_rfl) ?_ (fun hHeld=>?_)
  ·exact ⟨t6,t7,c0,c1,c0,c1⟩
  iterate 3 (refine tk 10 (by rfl) (by kernel_rfl) (by exact fun _ _ _ h=>h) (.inl ⟨by rfl,fun w hS=>by (try dsimp only at hS);go_simp;(try with_reducible rfl)⟩) (by assumption) ?_;try go_frame)
  iterate 2 (refine tk 11 (by rfl) (by kernel_rfl) (by exact fun _ _ _ h=>h) (.inl ⟨by rfl,fun w hS=>by (try dsimp only at hS);go_simp;(try with_reducible rfl)⟩) (by assumption) ?_;try go_frame)
  refine aU 3 (by rfl) (by kernel_rfl) (fun K hK=>?_)
  go_simp
  refine HZ1.out.mono ?_
  rintro e w5 ⟨rfl,rfl⟩
  go_wp2_with fail
  refine hK.out _ _ ?_ (fun hHeld=>?_)
  ·exact hHeld
  clear hK K
  (try go_frame)
  refine aU 6 (by rfl) (by kernel_rfl) (fun K hK=>?_)
  go_simp
  refine HZ2.out.mono ?_
  rintro e w5 ⟨rfl,rfl⟩
  go_wp2_with fail
  refine hK.out _ _ ?_ (fun hHeld=>?_)
  ·exact hHeld
  clear hK K
  (try go_frame)
  iterate 1 (refine tk 10 (by rfl) (by kernel_rfl) (by exact fun _ _ _ h=>h) (.inl ⟨by rfl,fun w hS=>by (try dsimp only at hS);go_simp;(try with_reducible rfl)⟩) (by assumption) ?_;try go_frame)
  refine aU 8 (by rfl) (by kernel_rfl) (fun K hK=>?_)
  go_simp
  refine (xI _ _).mono ?_
  rintro e w4 ⟨rfl,eF⟩
  have rY:=aA (Below.cJ eF)
  go_wp2_with fail
  refine hK.out _ _ ?_ (fun hHeld=>?_)
  ·exact ⟨aN eF hHeld.1,aN eF hHeld.2.1,cell_later eF hHeld.2.2.1,cell_later eF hHeld.2.2.2.1,cell_later eF hHeld.2.2.2.2.1,cell_later eF hHeld.2.2.2.2.2⟩
  clear hK K
  (try go_frame)
  refine aU 9 (by rfl) (by kernel_rfl) (fun K hK=>?_)
  rw [if_pos (by rfl)]
  have e1:=World.rangeAt_setCells_same _ (w.heap.size+1+1+1) 0 [.pointer p1,.pointer (some ⟨b3,0,none⟩)] hHeld.1
  refine wp_store_mid _ _ _ rfl _ 0 #[.pointer p1,.pointer (some ⟨b3,0,none⟩)] rfl rfl hHeld.1 (by kernel_rfl) (by simp [Value.oneCell']) ?_
  refine hK.out _ _ ?_ (fun hHeld=>?_)
  ·exact qR hHeld (by omega) (by omega) (by omega) (by omega)
  clear hK K
  (try go_frame)
  refine aU 10 (by rfl) (by kernel_rfl) (fun K hK=>?_)
  rw [if_pos (by rfl)]
  have e2:=World.rangeAt_setCells_same _ (w.heap.size+1+1+1+1) 0 [.int .i64 1,.int .i64 (n1:Int)] hHeld.2.1
  have e3:=World.rangeAt_setCells_apart e1 (w.heap.size+1+1+1+1) 0 [.int .i64 1,.int .i64 (n1:Int)] (.inl (by omega))
  refine wp_store_mid _ _ _ rfl _ 0 #[.int .i64 1,.int .i64 (n1:Int)] rfl rfl hHeld.2.1 (by kernel_rfl) (by simp [Value.oneCell']) ?_
  refine hK.out _ _ ?_ (fun hHeld=>?_)
  ·exact qR hHeld (by omega) (by omega) (by omega) (by omega)
  clear hK K
  (try go_frame)
  refine wpAnyH_done (by kernel_rfl) ?_ _
  have q1:=e3 0 _ rfl
  have q2:=e3 1 _ rfl
  have q3:=e2 0 _ rfl
  have q4:=e2 1 _ rfl
  have HE:=aA (qD (N:=W.heap.size) (b6:=w.heap.size+1+1+1) (b7:=w.heap.size+1+1+1+1) hI (by omega) (by omega) (by omega) hlt HBW.out HQ3.out [.pointer p1,.pointer (some ⟨b3,0,none⟩)] [.int .i64 1,.int .i64 (n1:Int)] rY.out)
  clear hHeld e1 e2 e3
  go_wp2_with fail
  exact bodyPost_ret (v:=.tuple #[.agg #[.pointer p1,.pointer (some ⟨b3,0,none⟩)],.agg #[.int .i64 1,.int .i64 (n1:Int)]]) (by simp [results,Tryz.results370,go_sem,q1,q2,q3,q4]) rfl ⟨_,_,rfl,HE.out.1,HE.out.2⟩
 ·by_cases k2:c=2
  ·subst k2
   have e9:=rH.out
   simp only [jS,if_true] at e9
   rw [if_neg (by decide)] at e9
   simp only [Prod.mk.injEq] at e9
   obtain ⟨e1,e2⟩:=e9
   obtain ⟨f,g,hfg,qf,qg⟩:=HQ0.out
   have HTK:=aA (show Calls Tryz.prog 184 #[.agg #[.pointer p1,.pointer p2]] W (vY I W s' x y) by
    cases f with
    |nil =>
     have hp:p1=none:=qf
     subst hp
     rw [List.nil_append] at hfg
     refine QD qg HIW.out (by have:=hz;rw [hfg,List.length_reverse] at this;exact this) (by rw [e1,hfg]) ?_ ?_
     ·rw [hfg] at e2;by_cases h0:g.reverse=[]
      ·rw [if_pos h0] at e2 ⊢;injection e2
      ·rw [if_neg h0] at e2 ⊢;injection e2
     ·rw [hfg] at e2;by_cases h0:g.reverse=[]
      ·rw [if_pos h0] at e2;rw [h0];injection e2
      ·rw [if_neg h0] at e2;injection e2
    |cons z f =>
     rw [hfg] at e1 e2
     rw [if_neg (by simp)] at e2
     injection e2 with e3 e4
     have e1:s'=f++g.reverse:=by simpa using e1
     have e4:y=z:=by simpa using e4
     subst e1 e3 e4
     exact LR qf qg HIW.out)
   clear e1 e2 hfg qf qg rH
   go_wp2_with fail
   refine HTK.out.mono ?_
   rintro e w3 ⟨q1,q2,rfl,t3,cH⟩
   have m6:=ZA.out.old cH
   have m7:=IV.out.old cH
   have y0:=m6.cell_of (i:=0) rfl
   have y1:=m6.cell_of (i:=1) rfl
   have z0:=m6.frozen 0
   have z1:=m6.frozen 1
   have x0:=m7.cell_of (i:=0) rfl
   have x1:=m7.cell_of (i:=1) rfl
   have u0:=m7.frozen 0
   have u1:=m7.frozen 1
   have n67:w.heap.size+1+1+1≠w.heap.size+1+1+1+1:=by omega
   have HE:=aA (qD (N:=W.heap.size) (b6:=w.heap.size+1+1+1) (b7:=w.heap.size+1+1+1+1) hI (by omega) (by omega) (by omega) hlt (Below.next mL.out cH mL.out.size) t3 [.pointer q1,.pointer q2] [.int .i64 x,.int .i64 y] (Below.refl _ _))
   have HA:=aA ((((m6.set 0 (.pointer q1)).set 1 (.pointer q2)).setOther (a:=⟨w.heap.size+1+1+1+1,0,none⟩) n67 (.int .i64 x)).setOther (a:=⟨w.heap.size+1+1+1+1,1,none⟩) n67 (.int .i64 y))
   have HC:=aA ((((m7.setOther (a:=⟨w.heap.size+1+1+1,0,none⟩) n67.symm (.pointer q1)).setOther (a:=⟨w.heap.size+1+1+1,1,none⟩) n67.symm (.pointer q2)).set 0 (.int .i64 x)).set 1 (.int .i64 y))
   clear t3 cH m6 m7 HTK
   go_wp2_with fail
   have k1:=HA.out.cell_of (i:=0) rfl
   have k2:=HA.out.cell_of (i:=1) rfl
   have k3:=HC.out.cell_of (i:=0) rfl
   have k4:=HC.out.cell_of (i:=1) rfl
   exact bodyPost_ret (v:=.tuple #[.agg #[.pointer q1,.pointer q2],.agg #[.int .i64 x,.int .i64 y]]) (by simp [results,Tryz.results370,go_sem,k1,k2,k3,k4]) rfl ⟨_,_,rfl,HE.out.1,HE.out.2⟩
  ·have e9:=rH.out
   simp only [jS,if_neg k1,if_neg k2,Prod.mk.injEq,M.MD.mk.injEq] at e9
   obtain ⟨rfl,rfl,rfl⟩:=e9
   clear rH
   go_upto_region 7 with fail
   refine gO (S:=(fun w'=>w'.there (w.heap.size+1+1+1) 0 2∧w'.there (w.heap.size+1+1+1+1) 0 2∧w'.cell? ⟨w.heap.size+1,0,none⟩=some (.pointer p1)∧w'.cell? ⟨w.heap.size+1,1,none⟩=some (.pointer p2)∧w'.cell? ⟨w.heap.size+1,0,none⟩=some (.pointer p1)∧w'.cell? ⟨w.heap.size+1,1,none⟩=some (.pointer p2))) 4 rfl (by kernel_rfl) ?_ (fun hHeld=>?_)
   ·exact ⟨t6,t7,c0,c1,c0,c1⟩
   iterate 1 (refine tk 3 (by rfl) (by kernel_rfl) (by exact fun _ _ _ h=>h) (.inl ⟨by rfl,fun w hS=>by (try dsimp only at hS);go_simp;(try with_reducible rfl)⟩) (by assumption) ?_;try go_frame)
   refine aU 1 (by rfl) (by kernel_rfl) (fun K hK=>?_)
   go_simp
   refine (MX _).mono ?_
   rintro e w4 ⟨rfl,eF⟩
   have rY:=aA (Below.cJ eF)
   go_wp2_with fail
   refine hK.out _ _ ?_ (fun hHeld=>?_)
   ·exact ⟨aN eF hHeld.1,aN eF hHeld.2.1,cell_later eF hHeld.2.2.1,cell_later eF hHeld.2.2.2.1,cell_later eF hHeld.2.2.2.2.1,cell_later eF hHeld.2.2.2.2.2⟩
   clear hK K
   (try go_frame)
   refine aU 2 (by rfl) (by kernel_rfl) (fun K hK=>?_)
   rw [if_pos (by rfl)]
   have e1:=World.rangeAt_setCells_same _ (w.heap.size+1+1+1) 0 [.pointer p1,.pointer p2] hHeld.1
   refine wp_store_mid _ _ _ rfl _ 0 #[.pointer p1,.pointer p2] rfl rfl hHeld.1 (by kernel_rfl) (by simp [Value.oneCell']) ?_
   refine hK.out _ _ ?_ (fun hHeld=>?_)
   ·exact qR hHeld (by omega) (by omega) (by omega) (by omega)
   clear hK K
   (try go_frame)
   refine aU 3 (by rfl) (by kernel_rfl) (fun K hK=>?_)
   rw [if_pos (by rfl)]
   have e2:=World.rangeAt_setCells_same _ (w.heap.size+1+1+1+1) 0 [.int .i64 4,.int .i64 0] hHeld.2.1
   have e3:=World.rangeAt_setCells_apart e1 (w.heap.size+1+1+1+1) 0 [.int .i64 4,.int .i64 0] (.inl (by omega))
   refine wp_store_mid _ _ _ rfl _ 0 #[.int .i64 4,.int .i64 0] rfl rfl hHeld.2.1 (by kernel_rfl) (by simp [Value.oneCell']) ?_
   refine hK.out _ _ ?_ (fun hHeld=>?_)
   ·exact qR hHeld (by omega) (by omega) (by omega) (by omega)
   clear hK K
   (try go_frame)
   refine wpAnyH_done (by kernel_rfl) ?_ _
   have q1:=e3 0 _ rfl
   have q2:=e3 1 _ rfl
   have q3:=e2 0 _ rfl
   have q4:=e2 1 _ rfl
   have HE:=aA (qD (N:=W.heap.size) (b6:=w.heap.size+1+1+1) (b7:=w.heap.size+1+1+1+1) hI (by omega) (by omega) (by omega) hlt mL.out HQ.out [.pointer p1,.pointer p2] [.int .i64 4,.int .i64 0] rY.out)
   clear hHeld e1 e2 e3
   go_wp2_with fail
   exact bodyPost_ret (v:=.tuple #[.agg #[.pointer p1,.pointer p2],.agg #[.int .i64 4,.int .i64 0]]) (by simp [results,Tryz.results370,go_sem,q1,q2,q3,q4]) rfl ⟨_,_,rfl,HE.out.1,HE.out.2⟩
end
end Go.Proofs.YtefjhnhdagolhaaGreat
namespace Go.Proofs.YtefjhnhdagolhaaGreat
open Go.RowKit
attribute [local go_sem ↓] Go.wp_at_zero Go.wp_at_succ
set_option maxHeartbeats 1000000 in
theorem aBG (n:Nat) (hz:n≤10000000000000) (w:World):Calls Tryz.prog 374 #[.slice none 0 0,.int .i64 (n:Int)] w fun e w'=>∃ v,e = .returned v∧w'.ownsRow w.heap.size 3 1 v 0 (ints [])∧Below w.heap.size w w':=by
 by_cases h0:n=0
 ·subst h0
  have HP:=aA (show ∃ v,Ending.returned (.slice none 0 0) = .returned v∧w.ownsRow w.heap.size 3 1 v 0 (ints [])∧Below w.heap.size w w from ⟨_,rfl,World.ownsRow_nil _ _ _ _,Below.refl _ _⟩)
  go_enter Tryz.func374,Tryz.ntmps374
  go_wp2
  go_ret
  exact HP.out
 ·obtain ⟨ti,qX,qE⟩:=Option.map_eq_some_iff.1 eH
  simp only [Prod.mk.injEq] at qE
  obtain ⟨iP,iQ,iR⟩:=qE
  have hrun:=fun W=>Go.Lib.run_append_nil_zeros (P:=Tryz.prog) W 22 3 22 3 ti (.int .i64 0) .i64 .i64 Tryz.underlying22 Tryz.underlying3 qX iP n (by omega) (by rw [iQ];decide) (by omega) (by rw [iR];omega)
  have aHE:=aA hrun
  have hn0:(0:Int)<(n:Int):=by omega
  have lD:¬(n:Int)<0:=by omega
  have hnw:IntKind.i64.wrap (n:Int)=(n:Int):=dJ _ (by omega) (by omega)
  clear qX iP iQ iR hrun
  go_enter Tryz.func374,Tryz.ntmps374
  go_wp2_with (at_builtin;refine Go.Lib.wpList_append_run _ rfl (.tmp 20) (.tmp 21) 22 3 rfl _ _ rfl rfl _ _ (aHE.out _) ?_)
  go_ret
  have hge:=grownCap_ge w n 0 3
  have hle:=grownCap_le_maxLen w n 0 3 (by unfold maxLen;omega)
  refine ⟨_,rfl,⟨rfl,.inr ⟨w.heap.size,grownCap w n 0 3,Builtin.zeroCells #[.int .i64 0] n++Builtin.zeroCells #[.int .i64 0] (grownCap w n 0 3-n),rfl,Nat.le_refl _,?_,Nat.zero_le _,hle,?_,?_⟩⟩,Below.drew (aB _ _)⟩
  ·have h9:=Row.new w (Builtin.zeroCells #[.int .i64 0] n++Builtin.zeroCells #[.int .i64 0] (grownCap w n 0 3-n)).toList 3
   unfold Row at h9
   rw [Array.toArray_toList] at h9
   exact h9
  ·simp [Builtin.zeroCells]
   omega
  ·simp [ints]
theorem zA (a:Option Addr) (c:Nat) (base:Option Addr) (n cap:Nat) (h:n≤cap) (w:World):(Builtin.append_ #[22,22] 22 #[.slice base n cap,.slice a 0 c]).run Tryz.prog w = .ok (.slice base n cap) w:=by
 obtain ⟨ti,qX,qE⟩:=Option.map_eq_some_iff.1 eH
 simp only [Prod.mk.injEq] at qE
 refine run_append_nothing (P:=Tryz.prog) w 22 22 22 3 ti Tryz.underlying22 qX base n cap h (.slice a 0 c) ⟨.inl ⟨_,Tryz.underlying22⟩,fun _=>rfl,?_,?_,by simp,fun u hu=>by cases hu⟩
 ·rw [qE.2.1];cases a<;>first|rfl|simp [Builtin.firstCells]
 ·rw [qE.2.1];cases a<;>first|rfl|simp [Builtin.firstCells]
def Acc (l1 l2:List Int) (k:Nat) (acc:List Int):Prop:=(k=0∧acc=[])∨(k=1∧acc=l1)∨(k=2∧acc=l1++l2)
theorem YE {w:World} {base:Nat} {e:TypeId} {a:Option Addr} {n c:Nat} {xs:List Value} (h:w.ownsRow base e 1 (.slice a n c) n xs):n≤c:=by
 rcases h.2 with ⟨e,h0⟩|⟨g,cap,cur,e,-,-,h5,-⟩
 ·injection e with e1 e2 e3;omega
 ·injection e with e1 e2 e3;omega
set_option maxRecDepth 20000 in
set_option maxHeartbeats 2000000 in
theorem VH (g:Nat) (v1 v2:Value) (l1 l2:List Int) (w:World) (B:Nat) (hg:Row w g 22 [v1,v2]) (o1:w.ownsRow B 3 1 v1 l1.length (ints l1)) (o2:w.ownsRow B 3 1 v2 l2.length (ints l2)) (hz:l1.length+l2.length≤1000000000000) :
  Calls Tryz.prog 373 #[.slice (some ⟨g,0,none⟩) 2 2] w fun e w'=>∃ v,e = .returned v∧w'.ownsRow w.heap.size 3 1 v (l1++l2).length (ints (l1++l2))∧Below w.heap.size w w':=by
 obtain ⟨ti,qX,qE⟩:=Option.map_eq_some_iff.1 eH
 simp only [Prod.mk.injEq] at qE
 obtain ⟨iP,iQ,iR⟩:=qE
 have uT:=aA qX
 have IU:=aA iP
 have sM:=aA iQ
 have qY:=aA iR
 clear qX iP iQ iR
 have HPT:=aA (show ∀ k acc,Acc l1 l2 k acc→k<2→∃ v l,w.cell? ⟨g,k,none⟩=some v∧w.ownsRow B 3 1 v l.length (ints l)∧Acc l1 l2 (k+1) (acc++l)∧acc.length+l.length≤1000000000000 by
  rintro k acc (⟨rfl,rfl⟩|⟨rfl,rfl⟩|⟨rfl,rfl⟩) hk
  ·exact ⟨v1,l1,hg.cell_of rfl,o1,.inr (.inl ⟨rfl,rfl⟩),by simp;omega⟩
  ·exact ⟨v2,l2,hg.cell_of rfl,o2,.inr (.inr ⟨rfl,rfl⟩),hz⟩
  ·omega)
 clear hg o1 o2
 go_enter Tryz.func373,Tryz.ntmps373
 go_wp2
 go_loop [3,11] (fun s i=>∃ (k:Nat) (acc:List Int),k≤2∧Acc l1 l2 k acc∧s = .int .i64 (acc.length:Int)∧i = .int .i64 (k:Int)) (fun _ i=>2-(intOf i).toNat)
 case atStart=>exact ⟨0,[],by omega,.inl ⟨rfl,rfl⟩,rfl,rfl⟩
 case round =>
  obtain ⟨k,acc,hk,hA,rfl,rfl⟩:=hrel
  by_cases hlt:k<2
  ·obtain ⟨v,l,hc,hv,hA2,YN⟩:=HPT.out k acc hA hlt
   obtain ⟨⟨va,vc,rfl⟩,-⟩:=bG hv
   have PT:=aA hA2
   have hlt':(k:Int)<2:=by omega
   have EW:(0:Int)≤(k:Int):=by omega
   have hw:IntKind.i64.wrap ((acc.length:Int)+(l.length:Int))=(acc.length:Int)+(l.length:Int):=dJ _ (by omega) (by omega)
   have YP:¬(acc.length:Int)+(l.length:Int)<0:=by omega
   clear hA2 hA hv
   go_wp2
   go_round
   case rel=>exact ⟨k+1,acc++l,by omega,PT.out,by simp,by go_num⟩
   case measure=>simp [intOf];omega
  ·have hlt':¬(k:Int)<2:=by omega
   have hal:acc.length≤1000000000000:=by
    rcases hA with ⟨rfl,rfl⟩|⟨rfl,rfl⟩|⟨rfl,rfl⟩
    ·omega
    ·omega
    ·simpa using hz
   clear hA
   go_wp2_with fail
   refine (aBG acc.length (by omega) _).mono ?_
   rintro e w1 ⟨v0,rfl,ho0,hb0⟩
   have HO0:=aA ho0
   have mL:=aA hb0
   clear ho0 hb0
   go_wp2
   go_loopw [6,27] (fun o i w'=>∃ (k:Nat) (acc:List Int),k≤2∧Acc l1 l2 k acc∧i = .int .i64 (k:Int)∧w'.ownsRow w.heap.size 3 1 o acc.length (ints acc)∧Below w.heap.size w w') (fun _ i _=>2-(intOf i).toNat)
   case atStart=>exact ⟨0,[],by omega,.inl ⟨rfl,rfl⟩,rfl,HO0.out,mL.out⟩
   case round =>
    obtain ⟨k,acc,hk,hA,rfl,ho,hb⟩:=hrel
    have HB:=aA hb
    have hzb:=hb.size
    by_cases hlt:k<2
    ·obtain ⟨v,l,hc,hv,hA2,YN⟩:=HPT.out k acc hA hlt
     obtain ⟨⟨va,vc,rfl⟩,-⟩:=bG hv
     obtain ⟨⟨oa,oc,rfl⟩,-⟩:=bG ho
     have PT:=aA hA2
     have FE:=cell_later hb hc
     have hlt':(k:Int)<2:=by omega
     have EW:(0:Int)≤(k:Int):=by omega
     have HO:=aA ho
     have hle:=YE ho
     by_cases h0:l.length=0
     ·have sB:l=[]:=List.length_eq_zero_iff.mp h0
      subst sB
      have VO:=aA (zA va vc oa acc.length oc hle)
      have HN:=aA (show Acc l1 l2 (k+1) acc by have:=PT.out;rwa [List.append_nil] at this)
      clear hA2 hA hv ho hb hc h0 hle
      go_wp2_with (at_builtin;refine Go.Lib.wpList_append_run _ rfl (.tmp 31) (.tmp 32) 22 22 rfl _ _ rfl rfl _ _ (VO.out _) ?_)
      go_roundw
      case rel=>exact ⟨k+1,acc,by omega,HN.out,by go_num,HO.out,HB.out⟩
      case measure=>simp [intOf];omega
     ·obtain ⟨gv,vc',ev,hcell⟩:=sY hv (i:=0) (u:=.int .i64 (l.headD 0)) (by cases l with|nil=>simp at h0|cons x l=>rfl)
      have e1:va=some ⟨gv,0,none⟩:=by injection ev
      subst e1
      have HC:=aA (show ∀ j u,(ints l)[j]?=some u→wr.cell? ((⟨gv,0,none⟩:Addr).add j)=some u from fun j u hj=>by
       have:=hv.cells (g:=gv) rfl j u hj
       rw [eM] at this ⊢
       exact cell_later hb this)
      clear hA2 hA hv ho hb hc hcell ev
      go_wp2_with (at_builtin;refine wpList_append_lies _ rfl (.tmp 31) (.tmp 32) 22 rfl w.heap.size 3 ti (.int .i64 0) 1 8 Tryz.underlying22 uT.out IU.out sM.out qY.out rfl (by decide) (.slice oa acc.length oc) acc.length (ints acc) rfl HO.out ⟨gv,0,none⟩ l.length vc (ints l) rfl (by simp [ints]) HC.out (sC l) (by omega) (by unfold maxLen;omega) (by omega) hzb wr.heap.size rfl ?_)
      intro g4 LQ w4 hown cG hat gF
      have HN:=aA (show w4.ownsRow w.heap.size 3 1 (.slice (some ⟨g4,0,none⟩) (acc.length+l.length) LQ) (acc++l).length (ints (acc++l)) by
       rw [List.length_append]
       have e3:ints (acc++l)=ints acc++ints l:=by simp [ints]
       rw [e3]
       exact hown)
      have rY:=aA (show Below w.heap.size w w4 from HB.out.grown cG hzb (fun q hq=>(HO.out.lt q hq).1))
      clear hown cG hat gF
      go_wp2
      go_roundw
      case rel=>exact ⟨k+1,acc++l,by omega,PT.out,by go_num,HN.out,rY.out⟩
      case measure=>simp [intOf];omega
    ·have hlt':¬(k:Int)<2:=by omega
     have ea:acc=l1++l2:=by
      rcases hA with ⟨q,-⟩|⟨q,-⟩|⟨-,q⟩
      ·omega
      ·omega
      ·exact q
     have HEA:=aA ea
     have HO:=aA ho
     clear hA ea ho hb
     go_wp2
     go_ret
     have ho9:=HO.out
     rw [HEA.out] at ho9
     exact ⟨_,rfl,by simpa using ho9,HB.out⟩
end Go.Proofs.YtefjhnhdagolhaaGreat
namespace Go.Proofs.YtefjhnhdagolhaaGreat
open Go.RowKit
attribute [local go_sem ↓] Go.wp_at_zero Go.wp_at_succ
section
variable {I:Nat→Prop} {w:World} {p p1 p2:Option Addr} {s:List Int}
set_option maxHeartbeats 1000000 in
theorem HZ (q:fU I w s p) (hz:s.length≤1000000000000) :
  Calls Tryz.prog 366 #[.agg #[],.pointer p] w fun e w'=>∃ v,e = .returned v∧w'.ownsRow w.heap.size 3 1 v s.length (ints s)∧Below w.heap.size w w':=by
 have HQ:=aA q
 clear q
 go_enter Tryz.func366,Tryz.ntmps366
 go_wp2_with fail
 generalize hW:World.alloc w _=W
 have hb0:Below w.heap.size w W:=by rw [←hW];exact aB _ _
 have HB:=aA hb0
 have HV:=aA (yV (show fU I W s p from HQ.out.stay fun k hk hl=>⟨hk,hb0.block k hl⟩) hz)
 clear hW hb0
 refine HV.out.mono ?_
 rintro e w3 ⟨v,rfl,ho,hb⟩
 have HO:=aA ho
 have pY:=aA hb
 clear ho hb
 go_wp2_with fail
 go_ret
 exact ⟨v,rfl,dV HO.out HB.out.size,Below.next HB.out pY.out HB.out.size⟩
set_option maxRecDepth 20000 in
set_option maxHeartbeats 4000000 in
theorem IA (q:rV I w s p1 p2) (hz:s.length≤1000000000000) :
  Calls Tryz.prog 371 #[.agg #[],.agg #[.pointer p1,.pointer p2]] w fun e w'=>∃ v,e = .returned v∧w'.ownsRow w.heap.size 3 1 v s.length (ints s)∧Below w.heap.size w w':=by
 obtain ⟨f,g,hfg,qf,qg⟩:=q
 have hl:f.length+g.length≤1000000000000:=by rw [hfg] at hz;simpa using hz
 obtain ⟨gr,cG⟩:∃ gr,gr=g.reverse:=⟨_,rfl⟩
 have hlr:f.length+gr.length≤1000000000000:=by rw [cG,List.length_reverse];exact hl
 rw [←cG] at hfg
 have HFG:=aA hfg
 have HGR:=aA cG
 clear hfg cG
 go_enter Tryz.func371,Tryz.ntmps371
 go_upto_region 1 with fail
 generalize hW:World.alloc (World.alloc w _) _=W
 have hb0:Below w.heap.size w W:=by rw [←hW];exact ((Below.refl _ _).alloc (Nat.le_refl _) _).alloc (by simp) _
 have r3:Row W (w.heap.size+1) 146 [.pointer p1,.pointer p2]:=by rw [←hW];exact Row.new' (by simp)
 have c0:=r3.cell_of (i:=0) rfl
 have c1:=r3.cell_of (i:=1) rfl
 have HF:=aA (show fU (KB I W.heap.size W) W f p1 from qf.stay fun k hk hl=>⟨.inl hk,hb0.block k hl⟩)
 have HG:=aA (show fU (KB I W.heap.size W) W g p2 from qg.stay fun k hk hl=>⟨.inl hk,hb0.block k hl⟩)
 have HB:=aA hb0
 have ZN:=hb0.size
 clear hW hb0 r3 qf qg
 refine gO (S:=(fun w'=>Below W.heap.size W w'∧w'.cell? ⟨w.heap.size+1,0,none⟩=some (.pointer p1)∧w'.cell? ⟨w.heap.size+1,1,none⟩=some (.pointer p2))) 10 rfl (by kernel_rfl) ?_ (fun hHeld=>?_)
 ·exact ⟨(Below.refl _ _).drew,c0,c1⟩
 iterate 2 (refine tk 9 (by rfl) (by kernel_rfl) (by exact fun _ _ _ h=>h) (.inl ⟨by rfl,fun w hS=>by (try dsimp only at hS);go_simp;(try with_reducible rfl)⟩) (by assumption) ?_;try go_frame)
 iterate 2 (refine tk 10 (by rfl) (by kernel_rfl) (by exact fun _ _ _ h=>h) (.inl ⟨by rfl,fun w hS=>by (try dsimp only at hS);go_simp;(try with_reducible rfl)⟩) (by assumption) ?_;try go_frame)
 refine aU 2 (by rfl) (by kernel_rfl) (fun K hK=>?_)
 go_simp
 refine (yV (HF.out.later hHeld.1) (by omega)).mono ?_
 rintro e w2 ⟨v2,rfl,o2',aP⟩
 obtain ⟨⟨a2,k2,rfl⟩,-⟩:=bG o2'
 have o2:=dV o2' (Nat.zero_le _)
 clear o2'
 go_wp2_with fail
 refine hK.out _ _ ?_ (fun hHeld=>?_)
 ·exact ⟨Below.next hHeld.1 aP hHeld.1.size,cell_later aP hHeld.2.1,cell_later aP hHeld.2.2⟩
 clear hK K
 (try go_frame)
 refine aU 5 (by rfl) (by kernel_rfl) (fun K hK=>?_)
 go_simp
 refine (yU (I:=I) (B:=W.heap.size) (HG.out.later hHeld.1) hHeld.1.size (by omega)).mono ?_
 rintro e w5 ⟨p5,rfl,t5,nP⟩
 rw [←HGR.out] at t5
 go_wp2_with fail
 refine hK.out _ _ ?_ (fun hHeld=>?_)
 ·exact ⟨Below.next hHeld.1 nP hHeld.1.size,cell_later nP hHeld.2.1,cell_later nP hHeld.2.2⟩
 clear hK K
 (try go_frame)
 refine aU 6 (by rfl) (by kernel_rfl) (fun K hK=>?_)
 go_simp
 refine (yV t5 (by omega)).mono ?_
 rintro e w6 ⟨v6,rfl,o6',hb6⟩
 obtain ⟨⟨a6,k6,rfl⟩,-⟩:=bG o6'
 have o6:=dV o6' (Nat.zero_le _)
 have o26:=fI (fI o2 nP) hb6
 clear o6'
 go_wp2_with fail
 refine hK.out _ _ ?_ (fun hHeld=>?_)
 ·exact ⟨Below.next hHeld.1 hb6 hHeld.1.size,cell_later hb6 hHeld.2.1,cell_later hb6 hHeld.2.2⟩
 clear hK K
 (try go_frame)
 refine aU 7 (by rfl) (by kernel_rfl) (fun K hK=>?_)
 go_simp
 refine hK.out _ _ ?_ (fun hHeld=>?_)
 ·exact ⟨Below.next hHeld.1 (aB _ _) hHeld.1.size,cell_later (aB _ _) hHeld.2.1,cell_later (aB _ _) hHeld.2.2⟩
 clear hK K
 (try go_frame)
 refine aU 8 (by rfl) (by kernel_rfl) (fun K hK=>?_)
 go_simp
 refine (VH w6.heap.size _ _ f gr _ 0 (Row.new' (by simp)) (o26.alloc _) (o6.alloc _) hlr).mono ?_
 rintro e w8 ⟨v8,rfl,o8',hb8⟩
 have HO8:=aA (show w8.ownsRow w.heap.size 3 1 v8 s.length (ints s) by rw [HFG.out];exact dV o8' (by have:=hHeld.1.size;omega))
 clear o8'
 go_wp2_with fail
 refine hK.out _ _ ?_ (fun hHeld=>?_)
 ·exact ⟨Below.next hHeld.1 hb8 hHeld.1.size,cell_later hb8 hHeld.2.1,cell_later hb8 hHeld.2.2⟩
 clear hK K
 (try go_frame)
 iterate 1 (refine tk 9 (by rfl) (by kernel_rfl) (by exact fun _ _ _ h=>h) (.inl ⟨by rfl,fun w hS=>by (try dsimp only at hS);go_simp;(try with_reducible rfl)⟩) (by assumption) ?_;try go_frame)
 refine wpAnyH_done (by kernel_rfl) ?_ _
 go_wp2_with fail
 go_ret
 exact ⟨v8,rfl,HO8.out,Below.next HB.out hHeld.1 HB.out.size⟩
end
end Go.Proofs.YtefjhnhdagolhaaGreat
namespace Go.Proofs.YtefjhnhdagolhaaGreat
open Go.RowKit
attribute [local go_sem ↓] Go.wp_at_zero Go.wp_at_succ
def LS:list.SR (List Int) where
 sz s:=s.length
 rep I w s c:=∃ p,c=[.pointer p]∧fU I w s p
 len h:=by obtain ⟨p,e,-⟩:=h;rw [e];rfl
 shape h v hv:=by obtain ⟨p,e,-⟩:=h;rw [e] at hv;exact ⟨_,List.mem_singleton.mp hv⟩
 stay hk h:=by obtain ⟨p,e,q⟩:=h;exact ⟨p,e,q.stay hk⟩
theorem vB:M.qH (fun s:List Int=>s.length) iY:=by
 refine ⟨Nat.zero_le _,fun s o=>?_⟩
 show List.length (Prod.fst (if _ then _ else _))≤_
 split
 ·simp
 ·split
  ·simp;omega
  ·simp
theorem EJ (w:World):(method 553 143 (.agg #[]) "Apply").run Tryz.prog w = .ok (365,.agg #[]) w:=by kernel_rfl
theorem EK (s o:Value) (w:World):(callFunc 365 #[.agg #[],s,o]).run Tryz.prog w = .ok (.enter 365 #[.agg #[],s,o]) w:=by kernel_rfl
theorem EL (w:World):(method 553 143 (.agg #[]) "Tell").run Tryz.prog w = .ok (366,.agg #[]) w:=by kernel_rfl
theorem EM (s:Value) (w:World):(callFunc 366 #[.agg #[],s]).run Tryz.prog w = .ok (.enter 366 #[.agg #[],s]) w:=by kernel_rfl
theorem YF (L:list.Lt) (ho:L.oT=143) (hv:L.ov = .agg #[]):list.eV LS iY L 365 (.agg #[]):=by
 refine ⟨vB,fun W=>by rw [ho,hv];exact EJ W,fun s o W=>EK s o W,fun I W s x op hr hsz hI=>?_⟩
 obtain ⟨p,e,q⟩:=hr
 have hx:x = .pointer p:=by simpa using e
 subst hx
 obtain ⟨c,a,b⟩:=op
 refine (EH q hI hsz).mono ?_
 rintro e' w' ⟨p',rfl,t',hb⟩
 exact ⟨.pointer p',rfl,⟨p',rfl,t'⟩,hb⟩
theorem YG (L:list.Lt) (ho:L.oT=143) (hv:L.ov = .agg #[]):list.DX LS L (fun s=>s) 366 (.agg #[]) where
 m W:=by rw [ho,hv];exact EL W
 c s W:=EM s W
 f I W s x hr hsz hI:=by
  obtain ⟨p,e,q⟩:=hr
  have hx:x=p:=by simpa using e
  subst hx
  exact HZ q hsz
def LU:row.SR (List Int) where
 sz s:=s.length
 rep I w s c:=∃ p1 p2,c=[.pointer p1,.pointer p2]∧rV I w s p1 p2
 len h:=by obtain ⟨p1,p2,e,-⟩:=h;rw [e];rfl
 shape h v hv:=by
  obtain ⟨p1,p2,e,-⟩:=h
  rw [e] at hv
  rcases List.mem_cons.mp hv with h|h
  ·exact ⟨_,h⟩
  ·exact ⟨_,List.mem_singleton.mp h⟩
 stay hk h:=by obtain ⟨p1,p2,e,q⟩:=h;exact ⟨p1,p2,e,q.stay hk⟩
theorem vC:M.qH (fun s:List Int=>s.length) jS:=by
 refine ⟨Nat.zero_le _,fun s o=>?_⟩
 show List.length (Prod.fst (if _ then _ else _))≤_
 split
 ·simp
 ·split
  ·simp;omega
  ·simp
theorem EN (w:World):(method 553 147 (.agg #[]) "Apply").run Tryz.prog w = .ok (370,.agg #[]) w:=by kernel_rfl
theorem EO (s o:Value) (w:World):(callFunc 370 #[.agg #[],s,o]).run Tryz.prog w = .ok (.enter 370 #[.agg #[],s,o]) w:=by kernel_rfl
theorem EP (w:World):(method 553 147 (.agg #[]) "Tell").run Tryz.prog w = .ok (371,.agg #[]) w:=by kernel_rfl
theorem ER (s:Value) (w:World):(callFunc 371 #[.agg #[],s]).run Tryz.prog w = .ok (.enter 371 #[.agg #[],s]) w:=by kernel_rfl
theorem YH (L:row.Lt) (ho:L.oT=147) (hv:L.ov = .agg #[]):row.eV LU jS L 370 (.agg #[]):=by
 refine ⟨vC,fun W=>by rw [ho,hv];exact EN W,fun s o W=>EO s o W,fun I W s x0 x1 op hr hsz hI=>?_⟩
 obtain ⟨p1,p2,e,q⟩:=hr
 obtain ⟨rfl,rfl⟩:x0 = .pointer p1∧x1 = .pointer p2:=by simpa using e
 obtain ⟨c,a,b⟩:=op
 refine (EI q hI hsz (s':=(jS.apply s ⟨c,a,b⟩).1) (x:=(jS.apply s ⟨c,a,b⟩).2.s) (y:=(jS.apply s ⟨c,a,b⟩).2.v) rfl).mono ?_
 rintro e' w' ⟨q1,q2,rfl,t',hb⟩
 exact ⟨.pointer q1,.pointer q2,rfl,⟨q1,q2,rfl,t'⟩,hb⟩
theorem YJ (L:row.Lt) (ho:L.oT=147) (hv:L.ov = .agg #[]):row.DX LU L (fun s=>s) 371 (.agg #[]) where
 m W:=by rw [ho,hv];exact EP W
 c s W:=ER s W
 f I W s x0 x1 hr hsz hI:=by
  obtain ⟨p1,p2,e,q⟩:=hr
  obtain ⟨rfl,rfl⟩:x0=p1∧x1=p2:=by simpa using e
  exact IA q hsz
theorem IB {P:M.Plain (List Int)} (hg:M.qH (fun s:List Int=>s.length) P) (D:DL) (hn:D.n≤64):mI P (fun s=>s) D:=by
 intro Y hy hL
 rw [gA,tB]
 have h1:=M.pU hg (fun k i=>((Y.th k).ops).getD i ⟨0,0,0⟩) Y.bs
 have h2:=hy.all hn (B:=1000000000) hL.1
 have h3:(M.replay P (fun k i=>((Y.th k).ops).getD i ⟨0,0,0⟩) Y.bs).st.length≤2+2*Y.bs.flatten.length:=h1
 have h4:2+2*Y.bs.flatten.length≤1000000000000:=by omega
 exact Nat.le_trans h3 h4
theorem LV (n cap:Nat) (st co:Int) (nx ou:List Int) (vn vo:Value) (hn:1≤n) (rN:n≤64) (hc:cap≤64) (fn:∃ a l c,vn = .slice a l c) (fo:∃ a l c,vo = .slice a l c):mJ 2 n (cap:Int) st co nx ou vn vo (fun w b w'=>list.gI w n (cap:Int) 143 (.agg #[]) b w'):=by
 refine list.yQ (P:=iY) (tell:=fun s=>s) (sz:=fun s=>s.length) (HM:=fun w v s=>qG w v s.reverse) (oT:=143) (fA:=365) (fT:=366) (fun w b w' h=>⟨w,fun _=>False,LS,.agg #[],.agg #[],.agg #[],Below.refl _ _,h,fun k hk=>hk.elim,fun I _=>⟨none,rfl,rfl⟩,YF,YG⟩) ?_ (IB vB) hn rN hc
 intro D hk _ _ _ _ hv
 rcases hv with ⟨-,h1,h2⟩|⟨q,-⟩
 ·obtain ⟨a1,l1,c1,rfl⟩:=fn
  obtain ⟨a2,l2,c2,rfl⟩:=fo
  exact ⟨VF D hk a1 a2 l1 c1 l2 c2 h1 h2,fun _ _ _ _ _=>trivial,⟨_,_,_,h1⟩,⟨_,_,_,h2⟩⟩
 ·omega
theorem LX (n cap:Nat) (st co:Int) (nx ou:List Int) (vn vo:Value) (hn:1≤n) (rN:n≤64) (hc:cap≤64) (fn:∃ a l c,vn = .slice a l c) (fo:∃ a l c,vo = .slice a l c):mJ 3 n (cap:Int) st co nx ou vn vo (fun w b w'=>row.gI w n (cap:Int) 147 (.agg #[]) b w'):=by
 refine row.yQ (P:=jS) (tell:=fun s=>s) (sz:=fun s=>s.length) (HM:=fun w v s=>qG w v s) (oT:=147) (fA:=370) (fT:=371) (fun w b w' h=>⟨w,fun _=>False,LU,.agg #[],.agg #[],.agg #[],Below.refl _ _,h,fun k hk=>hk.elim,fun I _=>⟨none,none,rfl,[],[],rfl,rfl,rfl⟩,YH,YJ⟩) ?_ (IB vC) hn rN hc
 intro D hk _ _ _ _ hv
 rcases hv with ⟨-,h1,h2⟩|⟨q,-⟩
 ·obtain ⟨a1,l1,c1,rfl⟩:=fn
  obtain ⟨a2,l2,c2,rfl⟩:=fo
  exact ⟨VG D hk a1 a2 l1 c1 l2 c2 h1 h2,fun _ _ _ _ _=>trivial,⟨_,_,_,h1⟩,⟨_,_,_,h2⟩⟩
 ·omega
theorem LY (n cap:Nat) (st co:Int) (nx ou:List Int) (vn vo:Value) (hn:1≤n) (rN:n≤64) (hc:cap≤64):FP n 2 (cap:Int) st co nx ou vn vo (fun w b w'=>list.gI w n (cap:Int) 143 (.agg #[]) b w') where
 ref W _ _:=sN _ st co nx ou vn vo W 2 n (by decide) (by decide) hn rN (by omega) (by omega)
 new W u1 u2 s1 s2:=WM n _ st co nx ou u1 u2 W s1 s2 hn rN (by omega) (by omega)
 fL W b W' h:=by
  obtain ⟨bN,h1,h2,-⟩:=h
  exact ⟨_,bN,h1,h2.below.1⟩
theorem LZ (n cap:Nat) (st co:Int) (nx ou:List Int) (vn vo:Value) (hn:1≤n) (rN:n≤64) (hc:cap≤64):FP n 3 (cap:Int) st co nx ou vn vo (fun w b w'=>row.gI w n (cap:Int) 147 (.agg #[]) b w') where
 ref W _ _:=sN _ st co nx ou vn vo W 3 n (by decide) (by decide) hn rN (by omega) (by omega)
 new W u1 u2 s1 s2:=OC n _ st co nx ou u1 u2 W s1 s2 hn rN (by omega) (by omega)
 fL W b W' h:=by
  obtain ⟨bN,h1,h2,-⟩:=h
  exact ⟨_,bN,h1,h2.below.1⟩
set_option maxRecDepth 20000 in
set_option maxHeartbeats 1000000 in
theorem QG (kind th cap st co:Int) (nx ou:List Int) (vn vo:Value) (l:List qF) (hl:l.length≤200000) (hi:∀ x∈l,BG x.t∧BG x.n) (s:Value) (w:World) (hs:YA w s l) (hn:Sl w vn (ints nx)) (ho:Sl w vo (ints ou)) (n1:nx.length≤1048576) (n2:ou.length≤1048576) :
  Calls Tryz.prog 5 #[.agg #[.int .i64 kind,.int .i64 th,.int .i64 cap,.int .i64 st,.int .i64 co,vn,vo],s] w fun e w'=>e = .returned (.bool true)∧Below w.heap.size w w':=by
 obtain ⟨a1,c1,rfl,f1⟩:=hn.open_ints
 obtain ⟨a2,c2,rfl,f2⟩:=ho.open_ints
 obtain ⟨a3,c3,rfl,f3⟩:=hs
 have FQ:=aA (fun W (hW:Below w.heap.size w W)=>BH 2 th cap st co nx ou _ _ (fun n c h1 h2 h3 _=>⟨_,LY n c st co nx ou _ _ h1 h2 h3,LV n c st co nx ou _ _ h1 h2 h3 ⟨_,_,_,rfl⟩ ⟨_,_,_,rfl⟩⟩) l hl hi _ W (YA.below ⟨a3,c3,rfl,f3⟩ hW) (hn.below hW) (ho.below hW) n1 n2)
 have FR:=aA (fun W (hW:Below w.heap.size w W)=>BH 3 th cap st co nx ou _ _ (fun n c h1 h2 h3 _=>⟨_,LZ n c st co nx ou _ _ h1 h2 h3,LX n c st co nx ou _ _ h1 h2 h3 ⟨_,_,_,rfl⟩ ⟨_,_,_,rfl⟩⟩) l hl hi _ W (YA.below ⟨a3,c3,rfl,f3⟩ hW) (hn.below hW) (ho.below hW) n1 n2)
 clear hn ho f1 f2 f3
 go_enter Tryz.func5,Tryz.ntmps5
 go_wp2_with fail
 refine (VC 2 kind th cap st co _ _ _ _ _ _ _).mono ?_
 rintro e w1 ⟨rfl,dU⟩
 have wR:Row w1 w.heap.size 26 [.int .i64 kind,.int .i64 th,.int .i64 cap,.int .i64 st,.int .i64 co,.slice a1 nx.length c1,.slice a2 ou.length c2]:=(Row.new' rfl).old dU
 have jF:=aA wR
 have jW:=aA (Below.next (aB w _) dU (by simp))
 clear dU wR
 go_wp2_with fail
 refine (FQ.out _ jW.out).mono ?_
 rintro e w2 ⟨rfl,aP⟩
 obtain ⟨-,q0,q1,q2,q3,q4,q5,q6⟩:=JG (jF.out.old aP)
 have mD:=aA (Below.next jW.out aP jW.out.size)
 clear aP
 go_wp2_with fail
 refine (VC 3 kind th cap st co _ _ _ _ _ _ _).mono ?_
 rintro e w3 ⟨rfl,cH⟩
 have pY:=aA (Below.next mD.out cH mD.out.size)
 clear cH q0 q1 q2 q3 q4 q5 q6
 go_wp2_with fail
 refine (FR.out _ pY.out).mono ?_
 rintro e w4 ⟨rfl,eF⟩
 have rY:=aA (Below.next pY.out eF pY.out.size)
 clear eF
 go_wp2_with fail
 go_ret
 exact ⟨rfl,rY.out⟩
end Go.Proofs.YtefjhnhdagolhaaGreat
