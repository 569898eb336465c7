import Derived.Test.YtefjhnhdagolhaaGreatQ42
import Derived.Test.YtefjhnhdagolhaaGreatQ10
import Derived.Test.YtefjhnhdagolhaaGreatQ37
set_option maxHeartbeats 4000000
set_option maxRecDepth 20000
namespace Go.Proofs.YtefjhnhdagolhaaGreat
open Go.RowKit
attribute [local go_sem ↓] Go.wp_at_zero Go.wp_at_succ
theorem OY (w:World):Calls Tryz.prog 380 #[] w fun e w'=>e = .returned (.agg #[.int .i64 3,.int .i64 0])∧Below w.heap.size w w':=by
 go_enter Tryz.func380,Tryz.ntmps380
 go_wp2
 exact bodyPost_ret (v:=.agg #[.int .i64 3,.int .i64 0]) (by simp [results,Tryz.results380,go_sem]) rfl ⟨rfl,aB _ _⟩
theorem XP {s:nU} {a:Int} (h:pW s a=none):vZ s a=s:=by
 unfold pW at h
 rw [Option.map_eq_none_iff,List.find?_eq_none] at h
 exact filter_all fun x hx=>by simpa using h x hx
section
variable {I:Nat→Prop} {w:World} {p:Option Addr} {s:nU} {h:Nat} {c a b:Int}
def aAx (I:Nat→Prop) (w:World) (s:nU) (x y:Int) (e:Ending) (w':World):Prop:=∃ p h,e = .returned (.tuple #[.pointer p,.agg #[.int .i64 x,.int .i64 y]])∧Tr (JB I w.heap.size w') w' p s h∧Below w.heap.size w w'
theorem qW {W w3 w4:World} {b7:Nat} {p3:Option Addr} {s3:nU} {h3:Nat} {v0 v1:Value} (hI:∀ k,I k→k<w.heap.size) (h7:w.heap.size≤b7) (hlt:b7<W.heap.size) (hB0:Below w.heap.size w W) (hR:Row W b7 94 [v0,v1]) (t3:Tr (JB I W.heap.size w3) w3 p3 s3 h3) (cE:Below W.heap.size W w3) (cT:Below w3.heap.size w3 w4) (x y:Int) :
  Row ((w4.setCell ⟨b7,0,none⟩ (.int .i64 x)).setCell ⟨b7,1,none⟩ (.int .i64 y)) b7 94 [.int .i64 x,.int .i64 y]∧Tr (JB I w.heap.size ((w4.setCell ⟨b7,0,none⟩ (.int .i64 x)).setCell ⟨b7,1,none⟩ (.int .i64 y))) ((w4.setCell ⟨b7,0,none⟩ (.int .i64 x)).setCell ⟨b7,1,none⟩ (.int .i64 y)) p3 s3 h3 ∧
   Below w.heap.size w ((w4.setCell ⟨b7,0,none⟩ (.int .i64 x)).setCell ⟨b7,1,none⟩ (.int .i64 y)):=by
 have z0:=hB0.size
 have z3:=cE.size
 have z4:=cT.size
 refine ⟨((hR.old (Below.next cE cT z3)).set 0 _).set 1 _,t3.stay fun k hk JX=>⟨?_,?_⟩,(((Below.next (Below.next hB0 cE z0) cT (by omega)).setCell (by simpa using h7) _).setCell (by simpa using h7) _)⟩
 ·rcases hk with hk|hk
  ·exact .inl hk
  ·refine .inr ⟨by omega,?_⟩
   simp [World.setCell]
   omega
 ·have hne:k≠b7:=by
   rcases hk with hk|hk
   ·have:=hI k hk;omega
   ·omega
  rw [Below.heap_setCell _ _ _ k hne,Below.heap_setCell _ _ _ k hne]
  exact cT.block k JX
theorem OZ (q:Tr I w p s h) (hI:∀ k,I k→k<w.heap.size) (hs:uC s) (hz:s.length≤500000000000) :
  Calls Tryz.prog 375 #[.agg #[],.pointer p,.agg #[.int .i64 c,.int .i64 a,.int .i64 b]] w (aAx I w (uD.apply s ⟨c,a,b⟩).1 (uD.apply s ⟨c,a,b⟩).2.s (uD.apply s ⟨c,a,b⟩).2.v):=by
 obtain ⟨r,hr⟩:∃ r,r=uD.apply s ⟨c,a,b⟩:=⟨_,rfl⟩
 rw [←hr]
 have lX:=aA hr
 have HS:=aA hs
 obtain ⟨d,q⟩:=q
 clear hr hs
 go_enter Tryz.func375,Tryz.ntmps375
 go_upto_region 1 with fail
 generalize hW:World.alloc (World.alloc (World.alloc w _) _) _=W
 have hb0:Below w.heap.size w W:=by rw [←hW];exact ((aB w _).alloc (by simp) _).alloc (by simp;omega) _
 have r5:Row W (w.heap.size+1) 36 [.int .i64 c,.int .i64 a,.int .i64 b]:=by rw [←hW];exact (Row.new' (by simp)).alloc _
 have r7:Row W (w.heap.size+1+1) 94 [.int .i64 0,.int .i64 0]:=by rw [←hW];exact Row.new' (by simp)
 have o0:=r5.cell_of (i:=0) rfl
 have o1:=r5.cell_of (i:=1) rfl
 have o2:=r5.cell_of (i:=2) rfl
 have hlt:=r7.lt
 have jD:=aA hb0
 have yC:=aA r7
 have HD:=aA (show jB (JB I W.heap.size W) W d p s h from q.stay fun k hk hl=>⟨.inl hk,hb0.block k hl⟩)
 have HQ:=aA (show Tr (JB I W.heap.size W) W p s h from ⟨d,HD.out⟩)
 clear hW hb0 r5 r7 q
 go_wp2_with fail
 refine (aCk HQ.out HS.out).mono ?_
 rintro e w2 ⟨rfl,rfl⟩
 cases hm:pW s a with
 |some v =>
  have HM:=aA hm
  clear hm
  unfold XN
  by_cases c1:c=1
  ·subst c1
   have e:r=(vP s a b,⟨1,v⟩):=by rw [lX.out];simp [uD,IE,HM.out]
   subst e
   clear lX
   go_wp2_with fail
   refine (JF (I:=I) (B:=w2.heap.size) d w2 p s h HD.out HS.out (Nat.le_refl _) hz).mono ?_
   rintro e w3 ⟨p3,h3,rfl,t3,cE⟩
   have tD:=aA t3
   have tH:=aA cE
   clear t3 cE
   go_wp2_with fail
   refine (rA _ _).mono ?_
   rintro e w4 ⟨rfl,cT⟩
   have HE:=aA (qW hI (by omega) hlt jD.out yC.out tD.out tH.out cT 1 v)
   have bY:=yC.out.old (Below.next tH.out cT tH.out.size)
   have a0:w4.cell? ⟨w.heap.size+1+1,0,none⟩=some (.int .i64 0):=bY.cell_of rfl
   have a1:w4.cell? ⟨w.heap.size+1+1,1,none⟩=some (.int .i64 0):=bY.cell_of rfl
   have f0:=bY.frozen 0
   have f1:=bY.frozen 1
   clear bY cT
   go_wp2_with fail
   have q1:=HE.out.1.cell_of (i:=0) rfl
   have q2:=HE.out.1.cell_of (i:=1) rfl
   exact bodyPost_ret (v:=.tuple #[.pointer p3,.agg #[.int .i64 1,.int .i64 v]]) (by simp [results,Tryz.results375,go_sem,q1,q2]) rfl ⟨_,_,rfl,HE.out.2.1,HE.out.2.2⟩
  ·by_cases c2:c=2
   ·subst c2
    have e:r=(s,⟨1,v⟩):=by rw [lX.out];simp [uD,IE,HM.out]
    subst e
    clear lX
    go_wp2_with fail
    refine (rA _ _).mono ?_
    rintro e w4 ⟨rfl,cT⟩
    have HE:=aA (qW hI (by omega) hlt jD.out yC.out HQ.out (Below.refl w2.heap.size w2) cT 1 v)
    have bY:=yC.out.old (Below.next (Below.refl w2.heap.size w2) cT (Below.refl w2.heap.size w2).size)
    have a0:w4.cell? ⟨w.heap.size+1+1,0,none⟩=some (.int .i64 0):=bY.cell_of rfl
    have a1:w4.cell? ⟨w.heap.size+1+1,1,none⟩=some (.int .i64 0):=bY.cell_of rfl
    have f0:=bY.frozen 0
    have f1:=bY.frozen 1
    clear bY cT
    go_wp2_with fail
    have q1:=HE.out.1.cell_of (i:=0) rfl
    have q2:=HE.out.1.cell_of (i:=1) rfl
    exact bodyPost_ret (v:=.tuple #[.pointer p,.agg #[.int .i64 1,.int .i64 v]]) (by simp [results,Tryz.results375,go_sem,q1,q2]) rfl ⟨_,_,rfl,HE.out.2.1,HE.out.2.2⟩
   ·by_cases c3:c=3
    ·subst c3
     have e:r=(vZ s a,⟨1,v⟩):=by rw [lX.out];simp [uD,IE,HM.out]
     subst e
     clear lX
     go_wp2_with fail
     refine (DY (I:=I) (B:=w2.heap.size) d a w2 p s h HD.out HS.out (by rw [HM.out];rfl) (Nat.le_refl _) hz).mono ?_
     rintro e w3 ⟨p3,h3,rfl,t3,cE⟩
     have tD:=aA t3
     have tH:=aA cE
     clear t3 cE
     go_wp2_with fail
     refine (rA _ _).mono ?_
     rintro e w4 ⟨rfl,cT⟩
     have HE:=aA (qW hI (by omega) hlt jD.out yC.out tD.out tH.out cT 1 v)
     have bY:=yC.out.old (Below.next tH.out cT tH.out.size)
     have a0:w4.cell? ⟨w.heap.size+1+1,0,none⟩=some (.int .i64 0):=bY.cell_of rfl
     have a1:w4.cell? ⟨w.heap.size+1+1,1,none⟩=some (.int .i64 0):=bY.cell_of rfl
     have f0:=bY.frozen 0
     have f1:=bY.frozen 1
     clear bY cT
     go_wp2_with fail
     have q1:=HE.out.1.cell_of (i:=0) rfl
     have q2:=HE.out.1.cell_of (i:=1) rfl
     exact bodyPost_ret (v:=.tuple #[.pointer p3,.agg #[.int .i64 1,.int .i64 v]]) (by simp [results,Tryz.results375,go_sem,q1,q2]) rfl ⟨_,_,rfl,HE.out.2.1,HE.out.2.2⟩
    ·have e:r=(s,⟨4,0⟩):=by rw [lX.out];simp [uD,c1,c2,c3]
     subst e
     clear lX
     go_wp2_with fail
     refine (wW _).mono ?_
     rintro e w4 ⟨rfl,cT⟩
     have HE:=aA (qW hI (by omega) hlt jD.out yC.out HQ.out (Below.refl w2.heap.size w2) cT 4 0)
     have bY:=yC.out.old (Below.next (Below.refl w2.heap.size w2) cT (Below.refl w2.heap.size w2).size)
     have a0:w4.cell? ⟨w.heap.size+1+1,0,none⟩=some (.int .i64 0):=bY.cell_of rfl
     have a1:w4.cell? ⟨w.heap.size+1+1,1,none⟩=some (.int .i64 0):=bY.cell_of rfl
     have f0:=bY.frozen 0
     have f1:=bY.frozen 1
     clear bY cT
     go_wp2_with fail
     have q1:=HE.out.1.cell_of (i:=0) rfl
     have q2:=HE.out.1.cell_of (i:=1) rfl
     exact bodyPost_ret (v:=.tuple #[.pointer p,.agg #[.int .i64 4,.int .i64 0]]) (by simp [results,Tryz.results375,go_sem,q1,q2]) rfl ⟨_,_,rfl,HE.out.2.1,HE.out.2.2⟩
 |none =>
  have HM:=aA hm
  clear hm
  unfold XN
  by_cases c1:c=1
  ·subst c1
   have e:r=(vP s a b,⟨3,0⟩):=by rw [lX.out];simp [uD,IE,HM.out]
   subst e
   clear lX
   go_wp2_with fail
   refine (JF (I:=I) (B:=w2.heap.size) d w2 p s h HD.out HS.out (Nat.le_refl _) hz).mono ?_
   rintro e w3 ⟨p3,h3,rfl,t3,cE⟩
   have tD:=aA t3
   have tH:=aA cE
   clear t3 cE
   go_wp2_with fail
   refine (OY _).mono ?_
   rintro e w4 ⟨rfl,cT⟩
   have HE:=aA (qW hI (by omega) hlt jD.out yC.out tD.out tH.out cT 3 0)
   have bY:=yC.out.old (Below.next tH.out cT tH.out.size)
   have a0:w4.cell? ⟨w.heap.size+1+1,0,none⟩=some (.int .i64 0):=bY.cell_of rfl
   have a1:w4.cell? ⟨w.heap.size+1+1,1,none⟩=some (.int .i64 0):=bY.cell_of rfl
   have f0:=bY.frozen 0
   have f1:=bY.frozen 1
   clear bY cT
   go_wp2_with fail
   have q1:=HE.out.1.cell_of (i:=0) rfl
   have q2:=HE.out.1.cell_of (i:=1) rfl
   exact bodyPost_ret (v:=.tuple #[.pointer p3,.agg #[.int .i64 3,.int .i64 0]]) (by simp [results,Tryz.results375,go_sem,q1,q2]) rfl ⟨_,_,rfl,HE.out.2.1,HE.out.2.2⟩
  ·by_cases c2:c=2
   ·subst c2
    have e:r=(s,⟨3,0⟩):=by rw [lX.out];simp [uD,IE,HM.out]
    subst e
    clear lX
    go_wp2_with fail
    refine (OY _).mono ?_
    rintro e w4 ⟨rfl,cT⟩
    have HE:=aA (qW hI (by omega) hlt jD.out yC.out HQ.out (Below.refl w2.heap.size w2) cT 3 0)
    have bY:=yC.out.old (Below.next (Below.refl w2.heap.size w2) cT (Below.refl w2.heap.size w2).size)
    have a0:w4.cell? ⟨w.heap.size+1+1,0,none⟩=some (.int .i64 0):=bY.cell_of rfl
    have a1:w4.cell? ⟨w.heap.size+1+1,1,none⟩=some (.int .i64 0):=bY.cell_of rfl
    have f0:=bY.frozen 0
    have f1:=bY.frozen 1
    clear bY cT
    go_wp2_with fail
    have q1:=HE.out.1.cell_of (i:=0) rfl
    have q2:=HE.out.1.cell_of (i:=1) rfl
    exact bodyPost_ret (v:=.tuple #[.pointer p,.agg #[.int .i64 3,.int .i64 0]]) (by simp [results,Tryz.results375,go_sem,q1,q2]) rfl ⟨_,_,rfl,HE.out.2.1,HE.out.2.2⟩
   ·by_cases c3:c=3
    ·subst c3
     have e:r=(s,⟨3,0⟩):=by rw [lX.out];simp [uD,IE,HM.out,XP HM.out]
     subst e
     clear lX
     go_wp2_with fail
     refine (OY _).mono ?_
     rintro e w4 ⟨rfl,cT⟩
     have HE:=aA (qW hI (by omega) hlt jD.out yC.out HQ.out (Below.refl w2.heap.size w2) cT 3 0)
     have bY:=yC.out.old (Below.next (Below.refl w2.heap.size w2) cT (Below.refl w2.heap.size w2).size)
     have a0:w4.cell? ⟨w.heap.size+1+1,0,none⟩=some (.int .i64 0):=bY.cell_of rfl
     have a1:w4.cell? ⟨w.heap.size+1+1,1,none⟩=some (.int .i64 0):=bY.cell_of rfl
     have f0:=bY.frozen 0
     have f1:=bY.frozen 1
     clear bY cT
     go_wp2_with fail
     have q1:=HE.out.1.cell_of (i:=0) rfl
     have q2:=HE.out.1.cell_of (i:=1) rfl
     exact bodyPost_ret (v:=.tuple #[.pointer p,.agg #[.int .i64 3,.int .i64 0]]) (by simp [results,Tryz.results375,go_sem,q1,q2]) rfl ⟨_,_,rfl,HE.out.2.1,HE.out.2.2⟩
    ·have e:r=(s,⟨4,0⟩):=by rw [lX.out];simp [uD,c1,c2,c3]
     subst e
     clear lX
     go_wp2_with fail
     refine (wW _).mono ?_
     rintro e w4 ⟨rfl,cT⟩
     have HE:=aA (qW hI (by omega) hlt jD.out yC.out HQ.out (Below.refl w2.heap.size w2) cT 4 0)
     have bY:=yC.out.old (Below.next (Below.refl w2.heap.size w2) cT (Below.refl w2.heap.size w2).size)
     have a0:w4.cell? ⟨w.heap.size+1+1,0,none⟩=some (.int .i64 0):=bY.cell_of rfl
     have a1:w4.cell? ⟨w.heap.size+1+1,1,none⟩=some (.int .i64 0):=bY.cell_of rfl
     have f0:=bY.frozen 0
     have f1:=bY.frozen 1
     clear bY cT
     go_wp2_with fail
     have q1:=HE.out.1.cell_of (i:=0) rfl
     have q2:=HE.out.1.cell_of (i:=1) rfl
     exact bodyPost_ret (v:=.tuple #[.pointer p,.agg #[.int .i64 4,.int .i64 0]]) (by simp [results,Tryz.results375,go_sem,q1,q2]) rfl ⟨_,_,rfl,HE.out.2.1,HE.out.2.2⟩
end
theorem LW {w:World} {B:Nat} {e:TypeId} {size:Nat} {v:Value} {n:Nat} {xs:List Value} (h:w.ownsRow 0 e size v n xs) (hb:∀ k,v.ownBlock=some k→B≤k):w.ownsRow B e size v n xs:=by
 refine ⟨h.1,?_⟩
 rcases h.2 with h2|⟨g,cap,cur,rfl,-,h4⟩
 ·exact .inl h2
 ·exact .inr ⟨g,cap,cur,rfl,hb g rfl,h4⟩
theorem SZ {I:Nat→Prop} {w:World} {p:Option Addr} {s:nU} {h:Nat} (q:Tr I w p s h) (hI:∀ k,I k→k<w.heap.size) (hz:s.length≤500000000000) :
  Calls Tryz.prog 376 #[.agg #[],.pointer p] w fun e w'=>∃ v,e = .returned v∧w'.ownsRow w.heap.size 3 1 v (flat s).length (ints (flat s))∧Below w.heap.size w w':=by
 obtain ⟨d,q⟩:=q
 have HQ:=aA q
 clear q
 go_enter Tryz.func376,Tryz.ntmps376
 go_wp2_with fail
 generalize hW:World.alloc w _=W
 have hb0:Below w.heap.size w W:=by rw [←hW];exact aB _ _
 have HB:=aA hb0
 clear hW
 refine (FU (I:=I) (N:=w.heap.size) hI d W p s h (.slice none 0 0) [] (HQ.out.stay fun k hk hl=>⟨hk,hb0.block k hl⟩) hb0.size (by simp;omega) (World.ownsRow_nil _ _ _ _) (fun k e=>by cases e)).mono ?_
 clear hb0
 rintro e w3 ⟨v,rfl,hG⟩
 have HG:=aA hG
 clear hG
 go_wp2_with fail
 go_ret
 have hf:=HG.out.fr
 have ho:=HG.out.own
 rw [List.nil_append] at ho
 have z:=HB.out.size
 refine ⟨v,rfl,LW ho (fun k e=>(HG.out.at' k e).elim (fun c=>by cases c) (fun c=>by omega)),?_⟩
 exact Below.next HB.out ⟨hf.os,hf.tape,hf.output,hf.size,fun k hk=>hf.block k hk (fun c=>by cases c)⟩ z
def aCo:tree.SR nU where
 sz s:=2*s.length
 rep I w s c:=∃ p h,c=[.pointer p]∧Tr I w p s h∧uC s
 len h:=by obtain ⟨p,h,e,-⟩:=h;rw [e];rfl
 shape h v hv:=by obtain ⟨p,h,e,-⟩:=h;rw [e] at hv;exact ⟨_,List.mem_singleton.mp hv⟩
 stay hk h:=by obtain ⟨p,h,e,q,a⟩:=h;exact ⟨p,h,e,q.stay hk,a⟩
theorem aAy {s:nU} (h:uC s) (o:M.Op):uC (uD.apply s o).1:=by
 show uC (Prod.fst (if _ then _ else _))
 split
 ·exact ZX h _ _
 ·split
  ·exact h
  ·split
   ·exact ZY h _
   ·exact h
theorem TA:M.qA (fun s:nU=>2*s.length) uD:=by
 refine ⟨Nat.zero_le _,fun s o=>?_⟩
 show 2*List.length (Prod.fst (if _ then _ else _))≤_
 have:=ID s o.a o.b
 have:=JP s o.a
 split
 ·dsimp only;omega
 ·split
  ·dsimp only;omega
  ·split<;>dsimp only<;>omega
theorem PAz (w:World):(method 553 150 (.agg #[]) "Apply").run Tryz.prog w = .ok (375,.agg #[]) w:=by kernel_rfl
theorem PB (s o:Value) (w:World):(callFunc 375 #[.agg #[],s,o]).run Tryz.prog w = .ok (.enter 375 #[.agg #[],s,o]) w:=by kernel_rfl
theorem PD (w:World):(method 553 150 (.agg #[]) "Tell").run Tryz.prog w = .ok (376,.agg #[]) w:=by kernel_rfl
theorem PE (s:Value) (w:World):(callFunc 376 #[.agg #[],s]).run Tryz.prog w = .ok (.enter 376 #[.agg #[],s]) w:=by kernel_rfl
theorem aEZ (L:int.Lt) (ho:L.oT=150) (hv:L.ov = .agg #[]):tree.bO aCo uD L 375 (.agg #[]):=by
 refine ⟨TA,fun W=>by rw [ho,hv];exact PAz W,fun s o W=>PB s o W,fun I W s x op hr hsz hI=>?_⟩
 obtain ⟨p,h,e,q,ha⟩:=hr
 have hx:x = .pointer p:=by simpa using e
 subst hx
 have hz:2*s.length≤1000000000000:=hsz
 obtain ⟨c,a,b⟩:=op
 refine (OZ q hI ha (by omega)).mono ?_
 rintro e' w' ⟨p',h',rfl,t',hb⟩
 exact ⟨.pointer p',rfl,⟨p',h',rfl,t',aAy ha _⟩,hb⟩
theorem aE0 (L:int.Lt) (ho:L.oT=150) (hv:L.ov = .agg #[]):tree.sY aCo L flat 376 (.agg #[]) where
 m W:=by rw [ho,hv];exact PD W
 c s W:=PE s W
 f I W s x hr hsz hI:=by
  obtain ⟨p,h,e,q,ha⟩:=hr
  have hx:x=p:=by simpa using e
  subst hx
  have hz:2*s.length≤1000000000000:=hsz
  exact SZ q hI (by omega)
end Go.Proofs.YtefjhnhdagolhaaGreat
