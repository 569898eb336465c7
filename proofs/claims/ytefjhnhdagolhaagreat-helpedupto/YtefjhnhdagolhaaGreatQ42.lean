import Derived.Test.YtefjhnhdagolhaaGreatQ40
import Derived.Test.YtefjhnhdagolhaaGreatQ11
import Derived.Lib.AppendZeros
import Derived.Deep.Upon
set_option maxHeartbeats 4000000
set_option maxRecDepth 20000
namespace Go.Proofs.YtefjhnhdagolhaaGreat
open Go.RowKit
attribute [local go_sem ↓] Go.wp_at_zero Go.wp_at_succ
def pT:M.Plain (List Int) where
 first:=[]
 apply s o:=if o.c=1 then (s++[o.a],⟨1,((s.length+1:Nat):Int)⟩) else if o.c=2 then (s.tail,if s=[] then ⟨2,0⟩ else ⟨1,s.headD 0⟩) else (s,⟨4,0⟩)
def wE (I:Nat→Prop) (w:World) (s:List Int) (p1 p2:Option Addr):Prop:=∃ f g:List Int,s=f++g.reverse∧iY I w f p1∧iY I w g p2
theorem wE.stay {I I':Nat→Prop} {w w':World} (hk:∀ k,I k→k<w.heap.size→I' k∧w'.heap[k]?=w.heap[k]?) {s:List Int} {p1 p2:Option Addr} (h:wE I w s p1 p2):wE I' w' s p1 p2:=by
 obtain ⟨f,g,e,h1,h2⟩:=h
 exact ⟨f,g,e,h1.stay hk,h2.stay hk⟩
theorem XK {I:Nat→Prop} {n0 N:Nat} {w3 w':World} (hI:∀ k,I k→k<n0) (hn:n0≤N) (hk:∀ k,k<n0∨N≤k→k<w3.heap.size→w'.heap[k]?=w3.heap[k]?) (hz:w3.heap.size≤w'.heap.size) (k:Nat) (h:KB I N w3 k) (hl:k<w3.heap.size):KB I n0 w' k∧w'.heap[k]?=w3.heap[k]?:=by
 rcases h with h|h
 ·exact ⟨.inl h,hk k (.inl (hI k h)) hl⟩
 ·exact ⟨.inr ⟨by omega,by omega⟩,hk k (.inr h.1) hl⟩
theorem vU {w':World} {b c d:Nat} {vs:List Value} {a1 a2 a3 a4:Nat} {o1 o2 o3 o4:Nat} {v1 v2 v3 v4:Value} (h:w'.there c 0 2∧w'.there d 0 2∧w'.cell? ⟨a1,o1,none⟩=some v1∧w'.cell? ⟨a2,o2,none⟩=some v2∧w'.cell? ⟨a3,o3,none⟩=some v3∧w'.cell? ⟨a4,o4,none⟩=some v4) (n1:a1≠b) (n2:a2≠b) (n3:a3≠b) (n4:a4≠b) :
  (w'.setCells b 0 vs).there c 0 2∧(w'.setCells b 0 vs).there d 0 2∧(w'.setCells b 0 vs).cell? ⟨a1,o1,none⟩=some v1∧(w'.setCells b 0 vs).cell? ⟨a2,o2,none⟩=some v2∧(w'.setCells b 0 vs).cell? ⟨a3,o3,none⟩=some v3∧(w'.setCells b 0 vs).cell? ⟨a4,o4,none⟩=some v4:=by
 have e:∀ k,k≠b→(w'.setCells b 0 vs).heap[k]?=w'.heap[k]?:=fun k hk=>lW vs 0 w' k hk
 exact ⟨World.there_setCells h.1 _ _ _,World.there_setCells h.2.1 _ _ _,oP h.2.2.1 (e _ n1),oP h.2.2.2.1 (e _ n2),oP h.2.2.2.2.1 (e _ n3),oP h.2.2.2.2.2 (e _ n4)⟩
theorem vO {I:Nat→Prop} {w w2:World} {N b6 b7:Nat} {s:List Int} {p1 p2:Option Addr} (hI:∀ k,I k→k<w.heap.size) (h6:w.heap.size≤b6) (h7:w.heap.size≤b7) (l6:b6<N) (l7:b7<N) (hB2:Below w.heap.size w w2) (q:wE (KB I N w2) w2 s p1 p2) (vs us:List Value) {w3:World} (cE:Below w2.heap.size w2 w3) :
  wE (KB I w.heap.size ((w3.setCells b6 0 vs).setCells b7 0 us)) ((w3.setCells b6 0 vs).setCells b7 0 us) s p1 p2∧Below w.heap.size w ((w3.setCells b6 0 vs).setCells b7 0 us):=by
 have z2:=hB2.size
 have z3:=cE.size
 have hB:Below w.heap.size w ((w3.setCells b6 0 vs).setCells b7 0 us):=eI h7 _ _ _ (eI h6 _ _ _ (Below.next hB2 cE z2))
 refine ⟨q.stay (XK hI (by omega) (fun k hk hl=>?_) ?_),hB⟩
 ·rw [lW us 0 _ k (by omega),lW vs 0 _ k (by omega)]
  exact cE.block k hl
 ·have h1:∀ (vs:List Value) (b o:Nat) (W:World),W.heap.size≤(W.setCells b o vs).heap.size:=fun vs b o W=>(eI (B:=0) (Nat.zero_le b) vs o W (Below.refl _ _)).size
  exact Nat.le_trans z3 (Nat.le_trans (h1 vs b6 0 w3) (h1 us b7 0 _))
def BF (I:Nat→Prop) (w:World) (s:List Int) (x y:Int) (e:Ending) (w':World):Prop:=∃ p1 p2,e = .returned (.tuple #[.agg #[.pointer p1,.pointer p2],.agg #[.int .i64 x,.int .i64 y]])∧wE (KB I w.heap.size w') w' s p1 p2∧Below w.heap.size w w'
section
variable {I:Nat→Prop} {w:World} {p1 p2:Option Addr} {s f g:List Int}
theorem OU {x:Int} (q1:iY I w (x::f) p1) (q2:iY I w g p2) (hI:∀ k,I k→k<w.heap.size) :
  Calls Tryz.prog 184 #[.agg #[.pointer p1,.pointer p2]] w (BF I w (f++g.reverse) 1 x):=by
 go_enter Tryz.func184,Tryz.ntmps184
 go_upto_region 1 with fail
 generalize hW:World.alloc (World.alloc (World.alloc w _) _) _=W
 have hb0:Below w.heap.size w W:=by rw [←hW];exact ((aB w _).alloc (by simp) _).alloc (by simp;omega) _
 have r1:Row W w.heap.size 146 [.pointer p1,.pointer p2]:=by rw [←hW];exact ((Row.new' rfl).alloc _).alloc _
 have r2:Row W (w.heap.size+1) 146 [.pointer none,.pointer none]:=by rw [←hW];exact (Row.new' (by simp)).alloc _
 have r3:Row W (w.heap.size+1+1) 94 [.int .i64 0,.int .i64 0]:=by rw [←hW];exact Row.new' (by simp)
 have c0:=r1.cell_of (i:=0) rfl
 have c1:=r1.cell_of (i:=1) rfl
 have hlt:=r3.lt
 have jD:=aA hb0
 have t2:W.there (w.heap.size+1) 0 2:=r2.there (by simp)
 have t3:W.there (w.heap.size+1+1) 0 2:=r3.there (by simp)
 obtain ⟨b1,p',rfl,XI,pV,q3⟩:=q1
 have d0:=(pV.old hb0).cell_of (i:=0) rfl
 have d1:=(pV.old hb0).cell_of (i:=1) rfl
 have kS:=hI b1 XI
 have HQ:=aA (show wE (KB I W.heap.size W) W (f++g.reverse) p' p2 from ⟨f,g,rfl,q3.stay fun k hk hl=>⟨.inl hk,hb0.block k hl⟩,q2.stay fun k hk hl=>⟨.inl hk,hb0.block k hl⟩⟩)
 clear hW hb0 r1 r2 r3 pV q3 q2 XI
 go_upto_region 5 with fail
 refine fR (S:=(fun w'=>w'.there (w.heap.size+1) 0 2∧w'.there (w.heap.size+1+1) 0 2∧w'.cell? ⟨w.heap.size,0,none⟩=some (.pointer (some ⟨b1,0,none⟩))∧w'.cell? ⟨w.heap.size,1,none⟩=some (.pointer p2)∧w'.cell? ⟨b1,0,none⟩=some (.int .i64 x)∧w'.cell? ⟨b1,1,none⟩=some (.pointer p'))) 16 rfl (by kernel_rfl) ?_ (fun hHeld=>?_)
 ·exact ⟨t2,t3,c0,c1,d0,d1⟩
 iterate 13 (refine tk 15 (by rfl) (by kernel_rfl) (by exact fun _ _ _ h=>h) (.inl ⟨by rfl,fun w hS=>by (try dsimp only at hS);go_simp;(try with_reducible rfl)⟩) (by assumption) ?_;try go_frame)
 refine bQ 13 (by rfl) (by kernel_rfl) (fun K hK=>?_)
 go_simp
 refine (rA _ _).mono ?_
 rintro e w2 ⟨rfl,aZ⟩
 have QX:=aA (Below.bR aZ)
 go_wp2_with fail
 refine hK.out _ _ ?_ (fun hHeld=>?_)
 ·exact ⟨aT aZ hHeld.1,aT aZ hHeld.2.1,cell_later aZ hHeld.2.2.1,cell_later aZ hHeld.2.2.2.1,cell_later aZ hHeld.2.2.2.2.1,cell_later aZ hHeld.2.2.2.2.2⟩
 clear hK K
 (try go_frame)
 refine bQ 14 (by rfl) (by kernel_rfl) (fun K hK=>?_)
 rw [if_pos (by rfl)]
 have e1:=World.rangeAt_setCells_same _ (w.heap.size+1) 0 [.pointer p',.pointer p2] hHeld.1
 refine wp_store_mid _ _ _ rfl _ 0 #[.pointer p',.pointer p2] rfl rfl hHeld.1 (by kernel_rfl) (by simp [Value.oneCell']) ?_
 refine hK.out _ _ ?_ (fun hHeld=>?_)
 ·exact vU hHeld (by omega) (by omega) (by omega) (by omega)
 clear hK K
 (try go_frame)
 refine bQ 15 (by rfl) (by kernel_rfl) (fun K hK=>?_)
 rw [if_pos (by rfl)]
 have e2:=World.rangeAt_setCells_same _ (w.heap.size+1+1) 0 [.int .i64 1,.int .i64 x] hHeld.2.1
 have e3:=World.rangeAt_setCells_apart e1 (w.heap.size+1+1) 0 [.int .i64 1,.int .i64 x] (.inl (by omega))
 refine wp_store_mid _ _ _ rfl _ 0 #[.int .i64 1,.int .i64 x] rfl rfl hHeld.2.1 (by kernel_rfl) (by simp [Value.oneCell']) ?_
 refine hK.out _ _ ?_ (fun hHeld=>?_)
 ·exact vU hHeld (by omega) (by omega) (by omega) (by omega)
 clear hK K
 (try go_frame)
 refine wpAnyH_done (by kernel_rfl) ?_ _
 have q1:=e3 0 _ rfl
 have q2:=e3 1 _ rfl
 have q3:=e2 0 _ rfl
 have q4:=e2 1 _ rfl
 have HE:=aA (vO (b6:=w.heap.size+1) (b7:=w.heap.size+1+1) hI (by omega) (by omega) (by omega) hlt jD.out HQ.out [.pointer p',.pointer p2] [.int .i64 1,.int .i64 x] QX.out)
 clear hHeld e1 e2 e3
 go_wp2_with fail
 exact bodyPost_ret (v:=.tuple #[.agg #[.pointer p',.pointer p2],.agg #[.int .i64 1,.int .i64 x]]) (by simp [results,Tryz.results184,go_sem,q1,q2,q3,q4]) rfl ⟨_,_,rfl,HE.out.1,HE.out.2⟩
theorem SV {s':List Int} {x' y':Int} (q2:iY I w g p2) (hI:∀ k,I k→k<w.heap.size) (hz:g.length≤1000000000000) (h1:s'=g.reverse.tail) (h2:x'=if g.reverse=[] then 2 else 1) (h3:y'=g.reverse.headD 0) :
  Calls Tryz.prog 184 #[.agg #[.pointer none,.pointer p2]] w (BF I w s' x' y'):=by
 have HEQ:=aA (And.intro h1 (And.intro h2 h3))
 clear h1 h2 h3
 go_enter Tryz.func184,Tryz.ntmps184
 go_upto_region 1 with fail
 generalize hW:World.alloc (World.alloc (World.alloc w _) _) _=W
 have hb0:Below w.heap.size w W:=by rw [←hW];exact ((aB w _).alloc (by simp) _).alloc (by simp;omega) _
 have r1:Row W w.heap.size 146 [.pointer none,.pointer p2]:=by rw [←hW];exact ((Row.new' rfl).alloc _).alloc _
 have r2:Row W (w.heap.size+1) 146 [.pointer none,.pointer none]:=by rw [←hW];exact (Row.new' (by simp)).alloc _
 have r3:Row W (w.heap.size+1+1) 94 [.int .i64 0,.int .i64 0]:=by rw [←hW];exact Row.new' (by simp)
 have c0:=r1.cell_of (i:=0) rfl
 have c1:=r1.cell_of (i:=1) rfl
 have hlt:=r3.lt
 have jD:=aA hb0
 have CG:=aA r1
 have ZL:=aA r2
 have HR3:=aA r3
 have HQ2:=aA (show iY (KB I W.heap.size W) W g p2 from q2.stay fun k hk hl=>⟨.inl hk,hb0.block k hl⟩)
 clear hW hb0 r1 r2 r3 q2
 go_wp2_with fail
 refine (DU (I:=I) (B:=W.heap.size) HQ2.out (Nat.le_refl _) hz).mono ?_
 rintro e w2 ⟨p',rfl,t2,aZ⟩
 have m1:=CG.out.old aZ
 have y0:=m1.cell_of (i:=0) rfl
 have y1:=m1.cell_of (i:=1) rfl
 have z0:=m1.frozen 0
 have z1:=m1.frozen 1
 have EB:=aZ.size
 have IC:=aA (m1.set 0 (.pointer p') |>.set 1 (.pointer none))
 have yG:=aA t2
 have QX:=aA aZ
 clear m1 t2 aZ c0 c1
 go_upto_region 3 with fail
 generalize oG:World.setCell (World.setCell w2 _ _) _ _=W3
 have r1:Row W3 w.heap.size 146 [.pointer p',.pointer none]:=by rw [←oG];exact IC.out
 have JX:∀ k,k≠w.heap.size→W3.heap[k]?=w2.heap[k]?:=fun k hk=>by rw [←oG,Below.heap_setCell _ _ _ k hk,Below.heap_setCell _ _ _ k hk]
 have hz3:W3.heap.size=w2.heap.size:=by rw [←oG];simp [World.setCell]
 have tH:=aA (show Below w.heap.size w W3 by rw [←oG];exact ((Below.next jD.out QX.out jD.out.size).setCell (by simp) _).setCell (by simp) _)
 have t2:W3.there (w.heap.size+1) 0 2:=((ZL.out.old QX.out).of_block (JX _ (by omega))).there (by simp)
 have t3:W3.there (w.heap.size+1+1) 0 2:=((HR3.out.old QX.out).of_block (JX _ (by omega))).there (by simp)
 have tD:=aA (show iY (KB I W.heap.size W3) W3 g.reverse p' from yG.out.stay fun k hk hl=>⟨by
  rcases hk with hk|hk
  ·exact .inl hk
  ·exact .inr ⟨hk.1,by omega⟩,JX k (by
  rcases hk with hk|hk
  ·have:=hI k hk;omega
  ·omega)⟩)
 have c0:=r1.cell_of (i:=0) rfl
 have c1:=r1.cell_of (i:=1) rfl
 have HZ3:=aA hz3
 clear oG r1 JX y0 y1 z0 z1 yG hz3
 generalize g.reverse=gr at *
 cases gr with
 |nil =>
  have hp:p'=none:=tD.out
  subst hp
  obtain ⟨rfl,rfl,rfl⟩:s'=[]∧x'=2∧y'=0:=by simpa using HEQ.out
  have HQ:=aA (show wE (KB I W.heap.size W3) W3 [] none none from ⟨[],[],rfl,rfl,rfl⟩)
  go_upto_region 4 with fail
  refine fR (S:=(fun w'=>w'.there (w.heap.size+1) 0 2∧w'.there (w.heap.size+1+1) 0 2∧w'.cell? ⟨w.heap.size,0,none⟩=some (.pointer none)∧w'.cell? ⟨w.heap.size,1,none⟩=some (.pointer none)∧w'.cell? ⟨w.heap.size,0,none⟩=some (.pointer none)∧w'.cell? ⟨w.heap.size,1,none⟩=some (.pointer none))) 4 rfl (by kernel_rfl) ?_ (fun hHeld=>?_)
  ·exact ⟨t2,t3,c0,c1,c0,c1⟩
  iterate 1 (refine tk 3 (by rfl) (by kernel_rfl) (by exact fun _ _ _ h=>h) (.inl ⟨by rfl,fun w hS=>by (try dsimp only at hS);go_simp;(try with_reducible rfl)⟩) (by assumption) ?_;try go_frame)
  refine bQ 1 (by rfl) (by kernel_rfl) (fun K hK=>?_)
  go_simp
  refine (QY _).mono ?_
  rintro e w4 ⟨rfl,cT⟩
  have XJ:=aA (Below.bR cT)
  go_wp2_with fail
  refine hK.out _ _ ?_ (fun hHeld=>?_)
  ·exact ⟨aT cT hHeld.1,aT cT hHeld.2.1,cell_later cT hHeld.2.2.1,cell_later cT hHeld.2.2.2.1,cell_later cT hHeld.2.2.2.2.1,cell_later cT hHeld.2.2.2.2.2⟩
  clear hK K
  (try go_frame)
  refine bQ 2 (by rfl) (by kernel_rfl) (fun K hK=>?_)
  rw [if_pos (by rfl)]
  have e1:=World.rangeAt_setCells_same _ (w.heap.size+1) 0 [.pointer none,.pointer none] hHeld.1
  refine wp_store_mid _ _ _ rfl _ 0 #[.pointer none,.pointer none] rfl rfl hHeld.1 (by kernel_rfl) (by simp [Value.oneCell']) ?_
  refine hK.out _ _ ?_ (fun hHeld=>?_)
  ·exact vU hHeld (by omega) (by omega) (by omega) (by omega)
  clear hK K
  (try go_frame)
  refine bQ 3 (by rfl) (by kernel_rfl) (fun K hK=>?_)
  rw [if_pos (by rfl)]
  have e2:=World.rangeAt_setCells_same _ (w.heap.size+1+1) 0 [.int .i64 2,.int .i64 0] hHeld.2.1
  have e3:=World.rangeAt_setCells_apart e1 (w.heap.size+1+1) 0 [.int .i64 2,.int .i64 0] (.inl (by omega))
  refine wp_store_mid _ _ _ rfl _ 0 #[.int .i64 2,.int .i64 0] rfl rfl hHeld.2.1 (by kernel_rfl) (by simp [Value.oneCell']) ?_
  refine hK.out _ _ ?_ (fun hHeld=>?_)
  ·exact vU hHeld (by omega) (by omega) (by omega) (by omega)
  clear hK K
  (try go_frame)
  refine wpAnyH_done (by kernel_rfl) ?_ _
  have q1:=e3 0 _ rfl
  have q2:=e3 1 _ rfl
  have q3:=e2 0 _ rfl
  have q4:=e2 1 _ rfl
  have HE:=aA (vO (N:=W.heap.size) (b6:=w.heap.size+1) (b7:=w.heap.size+1+1) hI (by omega) (by omega) (by omega) hlt tH.out HQ.out [.pointer none,.pointer none] [.int .i64 2,.int .i64 0] XJ.out)
  clear hHeld e1 e2 e3
  go_wp2_with fail
  exact bodyPost_ret (v:=.tuple #[.agg #[.pointer none,.pointer none],.agg #[.int .i64 2,.int .i64 0]]) (by simp [results,Tryz.results184,go_sem,q1,q2,q3,q4]) rfl ⟨_,_,rfl,HE.out.1,HE.out.2⟩
 |cons x f =>
  obtain ⟨b1,p3,rfl,XI,pV,q3⟩:=tD.out
  obtain ⟨rfl,rfl,rfl⟩:s'=f∧x'=1∧y'=x:=by simpa using HEQ.out
  have d0:=pV.cell_of (i:=0) rfl
  have d1:=pV.cell_of (i:=1) rfl
  have kS:b1<w.heap.size∨W.heap.size≤b1:=by
   rcases XI with h|h
   ·exact .inl (hI b1 h)
   ·exact .inr h.1
  have HQ:=aA (show wE (KB I W.heap.size W3) W3 s' p3 none from ⟨s',[],by simp,q3,rfl⟩)
  clear pV q3 XI
  go_upto_region 5 with fail
  refine fR (S:=(fun w'=>w'.there (w.heap.size+1) 0 2∧w'.there (w.heap.size+1+1) 0 2∧w'.cell? ⟨w.heap.size,0,none⟩=some (.pointer (some ⟨b1,0,none⟩))∧w'.cell? ⟨w.heap.size,1,none⟩=some (.pointer none)∧w'.cell? ⟨b1,0,none⟩=some (.int .i64 y')∧w'.cell? ⟨b1,1,none⟩=some (.pointer p3))) 16 rfl (by kernel_rfl) ?_ (fun hHeld=>?_)
  ·exact ⟨t2,t3,c0,c1,d0,d1⟩
  iterate 13 (refine tk 15 (by rfl) (by kernel_rfl) (by exact fun _ _ _ h=>h) (.inl ⟨by rfl,fun w hS=>by (try dsimp only at hS);go_simp;(try with_reducible rfl)⟩) (by assumption) ?_;try go_frame)
  refine bQ 13 (by rfl) (by kernel_rfl) (fun K hK=>?_)
  go_simp
  refine (rA _ _).mono ?_
  rintro e w4 ⟨rfl,cT⟩
  have XJ:=aA (Below.bR cT)
  go_wp2_with fail
  refine hK.out _ _ ?_ (fun hHeld=>?_)
  ·exact ⟨aT cT hHeld.1,aT cT hHeld.2.1,cell_later cT hHeld.2.2.1,cell_later cT hHeld.2.2.2.1,cell_later cT hHeld.2.2.2.2.1,cell_later cT hHeld.2.2.2.2.2⟩
  clear hK K
  (try go_frame)
  refine bQ 14 (by rfl) (by kernel_rfl) (fun K hK=>?_)
  rw [if_pos (by rfl)]
  have e1:=World.rangeAt_setCells_same _ (w.heap.size+1) 0 [.pointer p3,.pointer none] hHeld.1
  refine wp_store_mid _ _ _ rfl _ 0 #[.pointer p3,.pointer none] rfl rfl hHeld.1 (by kernel_rfl) (by simp [Value.oneCell']) ?_
  refine hK.out _ _ ?_ (fun hHeld=>?_)
  ·exact vU hHeld (by omega) (by omega) (by omega) (by omega)
  clear hK K
  (try go_frame)
  refine bQ 15 (by rfl) (by kernel_rfl) (fun K hK=>?_)
  rw [if_pos (by rfl)]
  have e2:=World.rangeAt_setCells_same _ (w.heap.size+1+1) 0 [.int .i64 1,.int .i64 y'] hHeld.2.1
  have e3:=World.rangeAt_setCells_apart e1 (w.heap.size+1+1) 0 [.int .i64 1,.int .i64 y'] (.inl (by omega))
  refine wp_store_mid _ _ _ rfl _ 0 #[.int .i64 1,.int .i64 y'] rfl rfl hHeld.2.1 (by kernel_rfl) (by simp [Value.oneCell']) ?_
  refine hK.out _ _ ?_ (fun hHeld=>?_)
  ·exact vU hHeld (by omega) (by omega) (by omega) (by omega)
  clear hK K
  (try go_frame)
  refine wpAnyH_done (by kernel_rfl) ?_ _
  have q1:=e3 0 _ rfl
  have q2:=e3 1 _ rfl
  have q3:=e2 0 _ rfl
  have q4:=e2 1 _ rfl
  have HE:=aA (vO (N:=W.heap.size) (b6:=w.heap.size+1) (b7:=w.heap.size+1+1) hI (by omega) (by omega) (by omega) hlt tH.out HQ.out [.pointer p3,.pointer none] [.int .i64 1,.int .i64 y'] XJ.out)
  clear hHeld e1 e2 e3
  go_wp2_with fail
  exact bodyPost_ret (v:=.tuple #[.agg #[.pointer p3,.pointer none],.agg #[.int .i64 1,.int .i64 y']]) (by simp [results,Tryz.results184,go_sem,q1,q2,q3,q4]) rfl ⟨_,_,rfl,HE.out.1,HE.out.2⟩
end
section
variable {I:Nat→Prop} {w:World} {p1 p2:Option Addr} {s:List Int} {c a b:Int}
theorem JE {s':List Int} {x y:Int} (q:wE I w s p1 p2) (hI:∀ k,I k→k<w.heap.size) (hz:s.length≤1000000000000) (hr:(s',(⟨x,y⟩:M.TF))=pT.apply s ⟨c,a,b⟩) :
  Calls Tryz.prog 370 #[.agg #[],.agg #[.pointer p1,.pointer p2],.agg #[.int .i64 c,.int .i64 a,.int .i64 b]] w (BF I w s' x y):=by
 have lX:=aA hr
 clear hr
 go_enter Tryz.func370,Tryz.ntmps370
 go_upto_region 1 with fail
 generalize hW:World.alloc (World.alloc (World.alloc (World.alloc (World.alloc w _) _) _) _) _=W
 have hb0:Below w.heap.size w W:=by rw [←hW];exact ((((aB w _).alloc (by simp) _).alloc (by simp;omega) _).alloc (by simp;omega) _).alloc (by simp;omega) _
 have r4:Row W (w.heap.size+1) 146 [.pointer p1,.pointer p2]:=by rw [←hW];exact (((Row.new' (by simp)).alloc _).alloc _).alloc _
 have r5:Row W (w.heap.size+1+1) 36 [.int .i64 c,.int .i64 a,.int .i64 b]:=by rw [←hW];exact ((Row.new' (by simp)).alloc _).alloc _
 have r6:Row W (w.heap.size+1+1+1) 146 [.pointer none,.pointer none]:=by rw [←hW];exact (Row.new' (by simp)).alloc _
 have r7:Row W (w.heap.size+1+1+1+1) 94 [.int .i64 0,.int .i64 0]:=by rw [←hW];exact Row.new' (by simp)
 have o0:=r5.cell_of (i:=0) rfl
 have o1:=r5.cell_of (i:=1) rfl
 have c0:=r4.cell_of (i:=0) rfl
 have c1:=r4.cell_of (i:=1) rfl
 have hlt:=r7.lt
 have jD:=aA hb0
 have HR4:=aA r4
 have YL:=aA r6
 have yC:=aA r7
 have t6:W.there (w.heap.size+1+1+1) 0 2:=r6.there (by simp)
 have t7:W.there (w.heap.size+1+1+1+1) 0 2:=r7.there (by simp)
 have HQ:=aA (show wE (KB I W.heap.size W) W s p1 p2 from q.stay fun k hk hl=>⟨.inl hk,hb0.block k hl⟩)
 have HQ0:=aA (show wE I W s p1 p2 from q.stay fun k hk hl=>⟨hk,hb0.block k hl⟩)
 have HIW:=aA (show ∀ k,I k→k<W.heap.size from fun k hk=>Nat.lt_of_lt_of_le (hI k hk) hb0.size)
 clear hW hb0 r4 r5 r6 r7 q
 by_cases k1:c=1
 ·subst k1
  obtain ⟨f,g,hfg,qf,qg⟩:=HQ.out
  have hlen:s.length=f.length+g.length:=by rw [hfg];simp
  have e9:=lX.out
  simp only [pT,if_true,Prod.mk.injEq,M.TF.mk.injEq] at e9
  obtain ⟨e1,e2,e3⟩:=e9
  subst e2
  obtain ⟨n1,zF⟩:∃ n:Nat,n=s.length+1:=⟨_,rfl⟩
  rw [←zF] at e3
  subst e3
  have HS':=aA e1
  have HFG:=aA hfg
  have HF:=aA qf
  clear lX e1 hfg qf
  go_wp2_with fail
  refine (OT (I:=I) (B:=W.heap.size) (x:=a) qg (Nat.le_refl _) (by omega)).mono ?_
  rintro e w3 ⟨b3,rfl,t3,cE⟩
  have m4:=HR4.out.old cE
  have y1:=m4.cell_of (i:=1) rfl
  have z1:=m4.frozen 1
  have hz3:=cE.size
  have tD:=aA t3
  have tH:=aA cE
  have HM4:=aA m4
  clear t3 cE m4 c0 c1 qg
  go_upto_region 4 with fail
  generalize oG:World.setCell w3 _ _=W3
  have r4:Row W3 (w.heap.size+1) 146 [.pointer p1,.pointer (some ⟨b3,0,none⟩)]:=by rw [←oG];exact HM4.out.set 1 _
  have JX:∀ k,k≠w.heap.size+1→W3.heap[k]?=w3.heap[k]?:=fun k hk=>by rw [←oG,Below.heap_setCell _ _ _ k hk]
  have hz4:W3.heap.size=w3.heap.size:=by rw [←oG];simp [World.setCell]
  have HBW:=aA (show Below w.heap.size w W3 by rw [←oG];exact (Below.next jD.out tH.out jD.out.size).setCell (by simp) _)
  replace t6:W3.there (w.heap.size+1+1+1) 0 2:=((YL.out.old tH.out).of_block (JX _ (by omega))).there (by simp)
  replace t7:W3.there (w.heap.size+1+1+1+1) 0 2:=((yC.out.old tH.out).of_block (JX _ (by omega))).there (by simp)
  have stay:∀ k,KB I W.heap.size w3 k→k<w3.heap.size→KB I W.heap.size W3 k∧W3.heap[k]?=w3.heap[k]?:=fun k hk hl=>by
   rcases hk with hk|hk
   ·exact ⟨.inl hk,JX k (by have:=hI k hk;omega)⟩
   ·exact ⟨.inr ⟨hk.1,by omega⟩,JX k (by omega)⟩
  have qa:iY (KB I W.heap.size W3) W3 (a::g) (some ⟨b3,0,none⟩):=tD.out.stay stay
  have qf:iY (KB I W.heap.size W3) W3 f p1:=(HF.out.later tH.out).stay stay
  have HQ3:=aA (show wE (KB I W.heap.size W3) W3 s' p1 (some ⟨b3,0,none⟩) from ⟨f,a::g,by rw [HS'.out,HFG.out];simp,qf,qa⟩)
  have c0:=r4.cell_of (i:=0) rfl
  have c1:=r4.cell_of (i:=1) rfl
  have HZ1:=aA (DT (show iY (KB I W.heap.size W3) W3.drew f p1 from qf.stay (w:=W3) (w':=W3.drew) fun k hk _=>⟨hk,rfl⟩))
  have HZ2:=aA (DT (show iY (KB I W.heap.size W3) W3.drew (a::g) (some ⟨b3,0,none⟩) from qa.stay (w:=W3) (w':=W3.drew) fun k hk _=>⟨hk,rfl⟩))
  obtain ⟨nf,hnf⟩:∃ n:Nat,n=f.length:=⟨_,rfl⟩
  obtain ⟨ng,hng⟩:∃ n:Nat,n=(a::g).length:=⟨_,rfl⟩
  rw [←hnf] at HZ1
  rw [←hng] at HZ2
  have hw:IntKind.i64.wrap ((nf:Int)+(ng:Int))=(n1:Int):=by
   simp only [List.length_cons] at hng
   rw [dP _ (by omega) (by omega)]
   omega
  clear oG JX hnf hng zF hlen stay r4 qa qf y1 z1 o0 o1
  refine fR (S:=(fun w'=>w'.there (w.heap.size+1+1+1) 0 2∧w'.there (w.heap.size+1+1+1+1) 0 2∧w'.cell? ⟨w.heap.size+1,0,none⟩=some (.pointer p1)∧w'.cell? ⟨w.heap.size+1,1,none⟩=some (.pointer (some ⟨b3,0,none⟩))∧w'.cell? ⟨w.heap.size+1,0,none⟩=some (.pointer p1)∧w'.cell? ⟨w.heap.size+1,1,none⟩=some (.pointer (some ⟨b3,0,none⟩)))) 11 rfl (by kernel_rfl) ?_ (fun hHeld=>?_)
  ·exact ⟨t6,t7,c0,c1,c0,c1⟩
  iterate 3 (refine tk 10 (by rfl) (by kernel_rfl) (by exact fun _ _ _ h=>h) (.inl ⟨by rfl,fun w hS=>by (try dsimp only at hS);go_simp;(try with_reducible rfl)⟩) (by assumption) ?_;try go_frame)
  iterate 2 (refine tk 11 (by rfl) (by kernel_rfl) (by exact fun _ _ _ h=>h) (.inl ⟨by rfl,fun w hS=>by (try dsimp only at hS);go_simp;(try with_reducible rfl)⟩) (by assumption) ?_;try go_frame)
  refine bQ 3 (by rfl) (by kernel_rfl) (fun K hK=>?_)
  go_simp
  refine HZ1.out.mono ?_
  rintro e w5 ⟨rfl,rfl⟩
  go_wp2_with fail
  refine hK.out _ _ ?_ (fun hHeld=>?_)
  ·exact hHeld
  clear hK K
  (try go_frame)
  refine bQ 6 (by rfl) (by kernel_rfl) (fun K hK=>?_)
  go_simp
  refine HZ2.out.mono ?_
  rintro e w5 ⟨rfl,rfl⟩
  go_wp2_with fail
  refine hK.out _ _ ?_ (fun hHeld=>?_)
  ·exact hHeld
  clear hK K
  (try go_frame)
  iterate 1 (refine tk 10 (by rfl) (by kernel_rfl) (by exact fun _ _ _ h=>h) (.inl ⟨by rfl,fun w hS=>by (try dsimp only at hS);go_simp;(try with_reducible rfl)⟩) (by assumption) ?_;try go_frame)
  refine bQ 8 (by rfl) (by kernel_rfl) (fun K hK=>?_)
  go_simp
  refine (rA _ _).mono ?_
  rintro e w4 ⟨rfl,cT⟩
  have XJ:=aA (Below.bR cT)
  go_wp2_with fail
  refine hK.out _ _ ?_ (fun hHeld=>?_)
  ·exact ⟨aT cT hHeld.1,aT cT hHeld.2.1,cell_later cT hHeld.2.2.1,cell_later cT hHeld.2.2.2.1,cell_later cT hHeld.2.2.2.2.1,cell_later cT hHeld.2.2.2.2.2⟩
  clear hK K
  (try go_frame)
  refine bQ 9 (by rfl) (by kernel_rfl) (fun K hK=>?_)
  rw [if_pos (by rfl)]
  have e1:=World.rangeAt_setCells_same _ (w.heap.size+1+1+1) 0 [.pointer p1,.pointer (some ⟨b3,0,none⟩)] hHeld.1
  refine wp_store_mid _ _ _ rfl _ 0 #[.pointer p1,.pointer (some ⟨b3,0,none⟩)] rfl rfl hHeld.1 (by kernel_rfl) (by simp [Value.oneCell']) ?_
  refine hK.out _ _ ?_ (fun hHeld=>?_)
  ·exact vU hHeld (by omega) (by omega) (by omega) (by omega)
  clear hK K
  (try go_frame)
  refine bQ 10 (by rfl) (by kernel_rfl) (fun K hK=>?_)
  rw [if_pos (by rfl)]
  have e2:=World.rangeAt_setCells_same _ (w.heap.size+1+1+1+1) 0 [.int .i64 1,.int .i64 (n1:Int)] hHeld.2.1
  have e3:=World.rangeAt_setCells_apart e1 (w.heap.size+1+1+1+1) 0 [.int .i64 1,.int .i64 (n1:Int)] (.inl (by omega))
  refine wp_store_mid _ _ _ rfl _ 0 #[.int .i64 1,.int .i64 (n1:Int)] rfl rfl hHeld.2.1 (by kernel_rfl) (by simp [Value.oneCell']) ?_
  refine hK.out _ _ ?_ (fun hHeld=>?_)
  ·exact vU hHeld (by omega) (by omega) (by omega) (by omega)
  clear hK K
  (try go_frame)
  refine wpAnyH_done (by kernel_rfl) ?_ _
  have q1:=e3 0 _ rfl
  have q2:=e3 1 _ rfl
  have q3:=e2 0 _ rfl
  have q4:=e2 1 _ rfl
  have HE:=aA (vO (N:=W.heap.size) (b6:=w.heap.size+1+1+1) (b7:=w.heap.size+1+1+1+1) hI (by omega) (by omega) (by omega) hlt HBW.out HQ3.out [.pointer p1,.pointer (some ⟨b3,0,none⟩)] [.int .i64 1,.int .i64 (n1:Int)] XJ.out)
  clear hHeld e1 e2 e3
  go_wp2_with fail
  exact bodyPost_ret (v:=.tuple #[.agg #[.pointer p1,.pointer (some ⟨b3,0,none⟩)],.agg #[.int .i64 1,.int .i64 (n1:Int)]]) (by simp [results,Tryz.results370,go_sem,q1,q2,q3,q4]) rfl ⟨_,_,rfl,HE.out.1,HE.out.2⟩
 ·by_cases k2:c=2
  ·subst k2
   have e9:=lX.out
   simp only [pT,if_true] at e9
   rw [if_neg (by decide)] at e9
   simp only [Prod.mk.injEq] at e9
   obtain ⟨e1,e2⟩:=e9
   obtain ⟨f,g,hfg,qf,qg⟩:=HQ0.out
   have HTK:=aA (show Calls Tryz.prog 184 #[.agg #[.pointer p1,.pointer p2]] W (BF I W s' x y) by
    cases f with
    |nil =>
     have hp:p1=none:=qf
     subst hp
     rw [List.nil_append] at hfg
     refine SV qg HIW.out (by have:=hz;rw [hfg,List.length_reverse] at this;exact this) (by rw [e1,hfg]) ?_ ?_
     ·rw [hfg] at e2;by_cases h0:g.reverse=[]
      ·rw [if_pos h0] at e2 ⊢;injection e2
      ·rw [if_neg h0] at e2 ⊢;injection e2
     ·rw [hfg] at e2;by_cases h0:g.reverse=[]
      ·rw [if_pos h0] at e2;rw [h0];injection e2
      ·rw [if_neg h0] at e2;injection e2
    |cons z f =>
     rw [hfg] at e1 e2
     rw [if_neg (by simp)] at e2
     injection e2 with e3 e4
     have e1:s'=f++g.reverse:=by simpa using e1
     have e4:y=z:=by simpa using e4
     subst e1 e3 e4
     exact OU qf qg HIW.out)
   clear e1 e2 hfg qf qg lX
   go_wp2_with fail
   refine HTK.out.mono ?_
   rintro e w3 ⟨q1,q2,rfl,t3,cE⟩
   have m6:=YL.out.old cE
   have m7:=yC.out.old cE
   have y0:=m6.cell_of (i:=0) rfl
   have y1:=m6.cell_of (i:=1) rfl
   have z0:=m6.frozen 0
   have z1:=m6.frozen 1
   have x0:=m7.cell_of (i:=0) rfl
   have x1:=m7.cell_of (i:=1) rfl
   have u0:=m7.frozen 0
   have u1:=m7.frozen 1
   have n67:w.heap.size+1+1+1≠w.heap.size+1+1+1+1:=by omega
   have HE:=aA (vO (N:=W.heap.size) (b6:=w.heap.size+1+1+1) (b7:=w.heap.size+1+1+1+1) hI (by omega) (by omega) (by omega) hlt (Below.next jD.out cE jD.out.size) t3 [.pointer q1,.pointer q2] [.int .i64 x,.int .i64 y] (Below.refl _ _))
   have HA:=aA ((((m6.set 0 (.pointer q1)).set 1 (.pointer q2)).setOther (a:=⟨w.heap.size+1+1+1+1,0,none⟩) n67 (.int .i64 x)).setOther (a:=⟨w.heap.size+1+1+1+1,1,none⟩) n67 (.int .i64 y))
   have HC:=aA ((((m7.setOther (a:=⟨w.heap.size+1+1+1,0,none⟩) n67.symm (.pointer q1)).setOther (a:=⟨w.heap.size+1+1+1,1,none⟩) n67.symm (.pointer q2)).set 0 (.int .i64 x)).set 1 (.int .i64 y))
   clear t3 cE m6 m7 HTK
   go_wp2_with fail
   have k1:=HA.out.cell_of (i:=0) rfl
   have k2:=HA.out.cell_of (i:=1) rfl
   have k3:=HC.out.cell_of (i:=0) rfl
   have k4:=HC.out.cell_of (i:=1) rfl
   exact bodyPost_ret (v:=.tuple #[.agg #[.pointer q1,.pointer q2],.agg #[.int .i64 x,.int .i64 y]]) (by simp [results,Tryz.results370,go_sem,k1,k2,k3,k4]) rfl ⟨_,_,rfl,HE.out.1,HE.out.2⟩
  ·have e9:=lX.out
   simp only [pT,if_neg k1,if_neg k2,Prod.mk.injEq,M.TF.mk.injEq] at e9
   obtain ⟨rfl,rfl,rfl⟩:=e9
   clear lX
   go_upto_region 7 with fail
   refine fR (S:=(fun w'=>w'.there (w.heap.size+1+1+1) 0 2∧w'.there (w.heap.size+1+1+1+1) 0 2∧w'.cell? ⟨w.heap.size+1,0,none⟩=some (.pointer p1)∧w'.cell? ⟨w.heap.size+1,1,none⟩=some (.pointer p2)∧w'.cell? ⟨w.heap.size+1,0,none⟩=some (.pointer p1)∧w'.cell? ⟨w.heap.size+1,1,none⟩=some (.pointer p2))) 4 rfl (by kernel_rfl) ?_ (fun hHeld=>?_)
   ·exact ⟨t6,t7,c0,c1,c0,c1⟩
   iterate 1 (refine tk 3 (by rfl) (by kernel_rfl) (by exact fun _ _ _ h=>h) (.inl ⟨by rfl,fun w hS=>by (try dsimp only at hS);go_simp;(try with_reducible rfl)⟩) (by assumption) ?_;try go_frame)
   refine bQ 1 (by rfl) (by kernel_rfl) (fun K hK=>?_)
   go_simp
   refine (wW _).mono ?_
   rintro e w4 ⟨rfl,cT⟩
   have XJ:=aA (Below.bR cT)
   go_wp2_with fail
   refine hK.out _ _ ?_ (fun hHeld=>?_)
   ·exact ⟨aT cT hHeld.1,aT cT hHeld.2.1,cell_later cT hHeld.2.2.1,cell_later cT hHeld.2.2.2.1,cell_later cT hHeld.2.2.2.2.1,cell_later cT hHeld.2.2.2.2.2⟩
   clear hK K
   (try go_frame)
   refine bQ 2 (by rfl) (by kernel_rfl) (fun K hK=>?_)
   rw [if_pos (by rfl)]
   have e1:=World.rangeAt_setCells_same _ (w.heap.size+1+1+1) 0 [.pointer p1,.pointer p2] hHeld.1
   refine wp_store_mid _ _ _ rfl _ 0 #[.pointer p1,.pointer p2] rfl rfl hHeld.1 (by kernel_rfl) (by simp [Value.oneCell']) ?_
   refine hK.out _ _ ?_ (fun hHeld=>?_)
   ·exact vU hHeld (by omega) (by omega) (by omega) (by omega)
   clear hK K
   (try go_frame)
   refine bQ 3 (by rfl) (by kernel_rfl) (fun K hK=>?_)
   rw [if_pos (by rfl)]
   have e2:=World.rangeAt_setCells_same _ (w.heap.size+1+1+1+1) 0 [.int .i64 4,.int .i64 0] hHeld.2.1
   have e3:=World.rangeAt_setCells_apart e1 (w.heap.size+1+1+1+1) 0 [.int .i64 4,.int .i64 0] (.inl (by omega))
   refine wp_store_mid _ _ _ rfl _ 0 #[.int .i64 4,.int .i64 0] rfl rfl hHeld.2.1 (by kernel_rfl) (by simp [Value.oneCell']) ?_
   refine hK.out _ _ ?_ (fun hHeld=>?_)
   ·exact vU hHeld (by omega) (by omega) (by omega) (by omega)
   clear hK K
   (try go_frame)
   refine wpAnyH_done (by kernel_rfl) ?_ _
   have q1:=e3 0 _ rfl
   have q2:=e3 1 _ rfl
   have q3:=e2 0 _ rfl
   have q4:=e2 1 _ rfl
   have HE:=aA (vO (N:=W.heap.size) (b6:=w.heap.size+1+1+1) (b7:=w.heap.size+1+1+1+1) hI (by omega) (by omega) (by omega) hlt jD.out HQ.out [.pointer p1,.pointer p2] [.int .i64 4,.int .i64 0] XJ.out)
   clear hHeld e1 e2 e3
   go_wp2_with fail
   exact bodyPost_ret (v:=.tuple #[.agg #[.pointer p1,.pointer p2],.agg #[.int .i64 4,.int .i64 0]]) (by simp [results,Tryz.results370,go_sem,q1,q2,q3,q4]) rfl ⟨_,_,rfl,HE.out.1,HE.out.2⟩
end
theorem aCh (n:Nat) (hz:n≤10000000000000) (w:World):Calls Tryz.prog 374 #[.slice none 0 0,.int .i64 (n:Int)] w fun e w'=>∃ v,e = .returned v∧w'.ownsRow w.heap.size 3 1 v 0 (ints [])∧Below w.heap.size w w':=by
 by_cases h0:n=0
 ·subst h0
  have HP:=aA (show ∃ v,Ending.returned (.slice none 0 0) = .returned v∧w.ownsRow w.heap.size 3 1 v 0 (ints [])∧Below w.heap.size w w from ⟨_,rfl,World.ownsRow_nil _ _ _ _,Below.refl _ _⟩)
  go_enter Tryz.func374,Tryz.ntmps374
  go_wp2
  go_ret
  exact HP.out
 ·obtain ⟨ti,EC,zX⟩:=Option.map_eq_some_iff.1 kF
  simp only [Prod.mk.injEq] at zX
  obtain ⟨tM,tN,tP⟩:=zX
  have hrun:=fun W=>Go.Lib.run_append_nil_zeros (P:=Tryz.prog) W 22 3 22 3 ti (.int .i64 0) .i64 .i64 Tryz.underlying22 Tryz.underlying3 EC tM n (by omega) (by rw [tN];decide) (by omega) (by rw [tP];omega)
  have aId:=aA hrun
  have hn0:(0:Int)<(n:Int):=by omega
  have zF:¬(n:Int)<0:=by omega
  have hnw:IntKind.i64.wrap (n:Int)=(n:Int):=dP _ (by omega) (by omega)
  clear EC tM tN tP hrun
  go_enter Tryz.func374,Tryz.ntmps374
  go_wp2_with (at_builtin;refine Go.Lib.wpList_append_run _ rfl (.tmp 20) (.tmp 21) 22 3 rfl _ _ rfl rfl _ _ (aId.out _) ?_)
  go_ret
  have hge:=grownCap_ge w n 0 3
  have hle:=grownCap_le_maxLen w n 0 3 (by unfold maxLen;omega)
  refine ⟨_,rfl,⟨rfl,.inr ⟨w.heap.size,grownCap w n 0 3,Builtin.zeroCells #[.int .i64 0] n++Builtin.zeroCells #[.int .i64 0] (grownCap w n 0 3-n),rfl,Nat.le_refl _,?_,Nat.zero_le _,hle,?_,?_⟩⟩,Below.drew (aB _ _)⟩
  ·have h9:=Row.new w (Builtin.zeroCells #[.int .i64 0] n++Builtin.zeroCells #[.int .i64 0] (grownCap w n 0 3-n)).toList 3
   unfold Row at h9
   rw [Array.toArray_toList] at h9
   exact h9
  ·simp [Builtin.zeroCells]
   omega
  ·simp [ints]
theorem DW (a:Option Addr) (c:Nat) (base:Option Addr) (n cap:Nat) (h:n≤cap) (w:World):(Builtin.append_ #[22,22] 22 #[.slice base n cap,.slice a 0 c]).run Tryz.prog w = .ok (.slice base n cap) w:=by
 obtain ⟨ti,EC,zX⟩:=Option.map_eq_some_iff.1 kF
 simp only [Prod.mk.injEq] at zX
 refine run_append_nothing (P:=Tryz.prog) w 22 22 22 3 ti Tryz.underlying22 EC base n cap h (.slice a 0 c) ⟨.inl ⟨_,Tryz.underlying22⟩,fun _=>rfl,?_,?_,by simp,fun u hu=>by cases hu⟩
 ·rw [zX.2.1];cases a<;>first|rfl|simp [Builtin.firstCells]
 ·rw [zX.2.1];cases a<;>first|rfl|simp [Builtin.firstCells]
def Acc (l1 l2:List Int) (k:Nat) (acc:List Int):Prop:=(k=0∧acc=[])∨(k=1∧acc=l1)∨(k=2∧acc=l1++l2)
theorem aAp {w:World} {base:Nat} {e:TypeId} {a:Option Addr} {n c:Nat} {xs:List Value} (h:w.ownsRow base e 1 (.slice a n c) n xs):n≤c:=by
 rcases h.2 with ⟨e,h0⟩|⟨g,cap,cur,e,-,-,h5,-⟩
 ·injection e with e1 e2 e3;omega
 ·injection e with e1 e2 e3;omega
theorem XL (g:Nat) (v1 v2:Value) (l1 l2:List Int) (w:World) (B:Nat) (hg:Row w g 22 [v1,v2]) (o1:w.ownsRow B 3 1 v1 l1.length (ints l1)) (o2:w.ownsRow B 3 1 v2 l2.length (ints l2)) (hz:l1.length+l2.length≤1000000000000) :
  Calls Tryz.prog 373 #[.slice (some ⟨g,0,none⟩) 2 2] w fun e w'=>∃ v,e = .returned v∧w'.ownsRow w.heap.size 3 1 v (l1++l2).length (ints (l1++l2))∧Below w.heap.size w w':=by
 obtain ⟨ti,EC,zX⟩:=Option.map_eq_some_iff.1 kF
 simp only [Prod.mk.injEq] at zX
 obtain ⟨tM,tN,tP⟩:=zX
 have zY:=aA EC
 have XE:=aA tM
 have yG:=aA tN
 have tD:=aA tP
 clear EC tM tN tP
 have HPT:=aA (show ∀ k acc,Acc l1 l2 k acc→k<2→∃ v l,w.cell? ⟨g,k,none⟩=some v∧w.ownsRow B 3 1 v l.length (ints l)∧Acc l1 l2 (k+1) (acc++l)∧acc.length+l.length≤1000000000000 by
  rintro k acc (⟨rfl,rfl⟩|⟨rfl,rfl⟩|⟨rfl,rfl⟩) hk
  ·exact ⟨v1,l1,hg.cell_of rfl,o1,.inr (.inl ⟨rfl,rfl⟩),by simp;omega⟩
  ·exact ⟨v2,l2,hg.cell_of rfl,o2,.inr (.inr ⟨rfl,rfl⟩),hz⟩
  ·omega)
 clear hg o1 o2
 go_enter Tryz.func373,Tryz.ntmps373
 go_wp2
 go_loop [3,11] (fun s i=>∃ (k:Nat) (acc:List Int),k≤2∧Acc l1 l2 k acc∧s = .int .i64 (acc.length:Int)∧i = .int .i64 (k:Int)) (fun _ i=>2-(intOf i).toNat)
 case atStart=>exact ⟨0,[],by omega,.inl ⟨rfl,rfl⟩,rfl,rfl⟩
 case round =>
  obtain ⟨k,acc,hk,hA,rfl,rfl⟩:=hrel
  by_cases hlt:k<2
  ·obtain ⟨v,l,hc,hv,hA2,hl2⟩:=HPT.out k acc hA hlt
   obtain ⟨⟨va,vc,rfl⟩,-⟩:=fJ hv
   have QU:=aA hA2
   have hlt':(k:Int)<2:=by omega
   have hk0:(0:Int)≤(k:Int):=by omega
   have hw:IntKind.i64.wrap ((acc.length:Int)+(l.length:Int))=(acc.length:Int)+(l.length:Int):=dP _ (by omega) (by omega)
   have hw2:¬(acc.length:Int)+(l.length:Int)<0:=by omega
   clear hA2 hA hv
   go_wp2
   go_round
   case rel=>exact ⟨k+1,acc++l,by omega,QU.out,by simp,by go_num⟩
   case measure=>simp [intOf];omega
  ·have hlt':¬(k:Int)<2:=by omega
   have hal:acc.length≤1000000000000:=by
    rcases hA with ⟨rfl,rfl⟩|⟨rfl,rfl⟩|⟨rfl,rfl⟩
    ·omega
    ·omega
    ·simpa using hz
   clear hA
   go_wp2_with fail
   refine (aCh acc.length (by omega) _).mono ?_
   rintro e w1 ⟨v0,rfl,ho0,hb0⟩
   have HO0:=aA ho0
   have jD:=aA hb0
   clear ho0 hb0
   go_wp2
   go_loopw [6,27] (fun o i w'=>∃ (k:Nat) (acc:List Int),k≤2∧Acc l1 l2 k acc∧i = .int .i64 (k:Int)∧w'.ownsRow w.heap.size 3 1 o acc.length (ints acc)∧Below w.heap.size w w') (fun _ i _=>2-(intOf i).toNat)
   case atStart=>exact ⟨0,[],by omega,.inl ⟨rfl,rfl⟩,rfl,HO0.out,jD.out⟩
   case round =>
    obtain ⟨k,acc,hk,hA,rfl,ho,hb⟩:=hrel
    have HB:=aA hb
    have hzb:=hb.size
    by_cases hlt:k<2
    ·obtain ⟨v,l,hc,hv,hA2,hl2⟩:=HPT.out k acc hA hlt
     obtain ⟨⟨va,vc,rfl⟩,-⟩:=fJ hv
     obtain ⟨⟨oa,oc,rfl⟩,-⟩:=fJ ho
     have QU:=aA hA2
     have MR:=cell_later hb hc
     have hlt':(k:Int)<2:=by omega
     have hk0:(0:Int)≤(k:Int):=by omega
     have HO:=aA ho
     have hle:=aAp ho
     by_cases h0:l.length=0
     ·have hl0:l=[]:=List.length_eq_zero_iff.mp h0
      subst hl0
      have HRN:=aA (DW va vc oa acc.length oc hle)
      have HN:=aA (show Acc l1 l2 (k+1) acc by have:=QU.out;rwa [List.append_nil] at this)
      clear hA2 hA hv ho hb hc h0 hle
      go_wp2_with (at_builtin;refine Go.Lib.wpList_append_run _ rfl (.tmp 31) (.tmp 32) 22 22 rfl _ _ rfl rfl _ _ (HRN.out _) ?_)
      go_roundw
      case rel=>exact ⟨k+1,acc,by omega,HN.out,by go_num,HO.out,HB.out⟩
      case measure=>simp [intOf];omega
     ·obtain ⟨gv,vc',ev,hcell⟩:=QA hv (i:=0) (u:=.int .i64 (l.headD 0)) (by cases l with|nil=>simp at h0|cons x l=>rfl)
      have e1:va=some ⟨gv,0,none⟩:=by injection ev
      subst e1
      have HC:=aA (show ∀ j u,(ints l)[j]?=some u→wr.cell? ((⟨gv,0,none⟩:Addr).add j)=some u from fun j u hj=>by
       have:=hv.cells (g:=gv) rfl j u hj
       rw [rL] at this ⊢
       exact cell_later hb this)
      clear hA2 hA hv ho hb hc hcell ev
      go_wp2_with (at_builtin;refine wpList_append_lies _ rfl (.tmp 31) (.tmp 32) 22 rfl w.heap.size 3 ti (.int .i64 0) 1 8 Tryz.underlying22 zY.out XE.out yG.out tD.out rfl (by decide) (.slice oa acc.length oc) acc.length (ints acc) rfl HO.out ⟨gv,0,none⟩ l.length vc (ints l) rfl (by simp [ints]) HC.out (JZ l) (by omega) (by unfold maxLen;omega) (by omega) hzb wr.heap.size rfl ?_)
      intro g4 SP w4 hown mR hat tF
      have HN:=aA (show w4.ownsRow w.heap.size 3 1 (.slice (some ⟨g4,0,none⟩) (acc.length+l.length) SP) (acc++l).length (ints (acc++l)) by
       rw [List.length_append]
       have e3:ints (acc++l)=ints acc++ints l:=by simp [ints]
       rw [e3]
       exact hown)
      have XJ:=aA (show Below w.heap.size w w4 from HB.out.grown mR hzb (fun q hq=>(HO.out.lt q hq).1))
      clear hown mR hat tF
      go_wp2
      go_roundw
      case rel=>exact ⟨k+1,acc++l,by omega,QU.out,by go_num,HN.out,XJ.out⟩
      case measure=>simp [intOf];omega
    ·have hlt':¬(k:Int)<2:=by omega
     have ea:acc=l1++l2:=by
      rcases hA with ⟨q,-⟩|⟨q,-⟩|⟨-,q⟩
      ·omega
      ·omega
      ·exact q
     have HEA:=aA ea
     have HO:=aA ho
     clear hA ea ho hb
     go_wp2
     go_ret
     have ho9:=HO.out
     rw [HEA.out] at ho9
     exact ⟨_,rfl,by simpa using ho9,HB.out⟩
end Go.Proofs.YtefjhnhdagolhaaGreat
