import Derived.Test.YtefjhnhdagolhaaGreatQ44
import Derived.Test.YtefjhnhdagolhaaGreatQ10
import Derived.Test.YtefjhnhdagolhaaGreatQ36
import Derived.Test.YtefjhnhdagolhaaGreatRows
import Derived.Test.YtefjhnhdagolhaaGreatQ14
import Derived.Test.YtefjhnhdagolhaaGreatQ43
import Derived.Test.YtefjhnhdagolhaaGreatQ40
import Derived.Test.YtefjhnhdagolhaaGreatQ41
set_option maxHeartbeats 20000000
set_option maxRecDepth 100000
namespace Go.Proofs.YtefjhnhdagolhaaGreat
open Go.RowKit
attribute [local go_sem ↓] Go.wp_at_zero Go.wp_at_succ
theorem OY (w:World):Calls Tryz.prog 380 #[] w fun e w'=>e = .returned (.agg #[.int .i64 3,.int .i64 0])∧Below w.heap.size w w':=by
 go_enter Tryz.func380,Tryz.ntmps380
 go_wp2
 exact bodyPost_ret (v:=.agg #[.int .i64 3,.int .i64 0]) (by simp [results,Tryz.results380,go_sem]) rfl ⟨rfl,aB _ _⟩
theorem XP {s:nU} {a:Int} (h:pW s a=none):vZ s a=s:=by
 unfold pW at h
 rw [Option.map_eq_none_iff,List.find?_eq_none] at h
 exact filter_all fun x hx=>by simpa using h x hx
section
variable {I:Nat→Prop} {w:World} {p:Option Addr} {s:nU} {h:Nat} {c a b:Int}
def aAx (I:Nat→Prop) (w:World) (s:nU) (x y:Int) (e:Ending) (w':World):Prop:=∃ p h,e = .returned (.tuple #[.pointer p,.agg #[.int .i64 x,.int .i64 y]])∧Tr (JB I w.heap.size w') w' p s h∧Below w.heap.size w w'
theorem qW {W w3 w4:World} {b7:Nat} {p3:Option Addr} {s3:nU} {h3:Nat} {v0 v1:Value} (hI:∀ k,I k→k<w.heap.size) (h7:w.heap.size≤b7) (hlt:b7<W.heap.size) (hB0:Below w.heap.size w W) (hR:Row W b7 94 [v0,v1]) (t3:Tr (JB I W.heap.size w3) w3 p3 s3 h3) (cE:Below W.heap.size W w3) (cT:Below w3.heap.size w3 w4) (x y:Int) :
  Row ((w4.setCell ⟨b7,0,none⟩ (.int .i64 x)).setCell ⟨b7,1,none⟩ (.int .i64 y)) b7 94 [.int .i64 x,.int .i64 y]∧Tr (JB I w.heap.size ((w4.setCell ⟨b7,0,none⟩ (.int .i64 x)).setCell ⟨b7,1,none⟩ (.int .i64 y))) ((w4.setCell ⟨b7,0,none⟩ (.int .i64 x)).setCell ⟨b7,1,none⟩ (.int .i64 y)) p3 s3 h3 ∧
   Below w.heap.size w ((w4.setCell ⟨b7,0,none⟩ (.int .i64 x)).setCell ⟨b7,1,none⟩ (.int .i64 y)):=by
 have z0:=hB0.size
 have z3:=cE.size
 have z4:=cT.size
 refine ⟨((hR.old (Below.next cE cT z3)).set 0 _).set 1 _,t3.stay fun k hk JX=>⟨?_,?_⟩,(((Below.next (Below.next hB0 cE z0) cT (by omega)).setCell (by simpa using h7) _).setCell (by simpa using h7) _)⟩
 ·rcases hk with hk|hk
  ·exact .inl hk
  ·refine .inr ⟨by omega,?_⟩
   simp [World.setCell]
   omega
 ·have hne:k≠b7:=by
   rcases hk with hk|hk
   ·have:=hI k hk;omega
   ·omega
  rw [Below.heap_setCell _ _ _ k hne,Below.heap_setCell _ _ _ k hne]
  exact cT.block k JX
theorem OZ (q:Tr I w p s h) (hI:∀ k,I k→k<w.heap.size) (hs:uC s) (hz:s.length≤500000000000) :
  Calls Tryz.prog 375 #[.agg #[],.pointer p,.agg #[.int .i64 c,.int .i64 a,.int .i64 b]] w (aAx I w (uD.apply s ⟨c,a,b⟩).1 (uD.apply s ⟨c,a,b⟩).2.s (uD.apply s ⟨c,a,b⟩).2.v):=by
 obtain ⟨r,hr⟩:∃ r,r=uD.apply s ⟨c,a,b⟩:=⟨_,rfl⟩
 rw [←hr]
 have lX:=aA hr
 have HS:=aA hs
 obtain ⟨d,q⟩:=q
 clear hr hs
 go_enter Tryz.func375,Tryz.ntmps375
 go_upto_region 1 with fail
 generalize hW:World.alloc (World.alloc (World.alloc w _) _) _=W
 have hb0:Below w.heap.size w W:=by rw [←hW];exact ((aB w _).alloc (by simp) _).alloc (by simp;omega) _
 have r5:Row W (w.heap.size+1) 36 [.int .i64 c,.int .i64 a,.int .i64 b]:=by rw [←hW];exact (Row.new' (by simp)).alloc _
 have r7:Row W (w.heap.size+1+1) 94 [.int .i64 0,.int .i64 0]:=by rw [←hW];exact Row.new' (by simp)
 have o0:=r5.cell_of (i:=0) rfl
 have o1:=r5.cell_of (i:=1) rfl
 have o2:=r5.cell_of (i:=2) rfl
 have hlt:=r7.lt
 have jD:=aA hb0
 have yC:=aA r7
 have HD:=aA (show jB (JB I W.heap.size W) W d p s h from q.stay fun k hk hl=>⟨.inl hk,hb0.block k hl⟩)
 have HQ:=aA (show Tr (JB I W.heap.size W) W p s h from ⟨d,HD.out⟩)
 clear hW hb0 r5 r7 q
 go_wp2_with fail
 refine (aCk HQ.out HS.out).mono ?_
 rintro e w2 ⟨rfl,rfl⟩
 cases hm:pW s a with
 |some v =>
  have HM:=aA hm
  clear hm
  unfold XN
  by_cases c1:c=1
  ·subst c1
   have e:r=(vP s a b,⟨1,v⟩):=by rw [lX.out];simp [uD,IE,HM.out]
   subst e
   clear lX
   go_wp2_with fail
   refine (JF (I:=I) (B:=w2.heap.size) d w2 p s h HD.out HS.out (Nat.le_refl _) hz).mono ?_
   rintro e w3 ⟨p3,h3,rfl,t3,cE⟩
   have tD:=aA t3
   have tH:=aA cE
   clear t3 cE
   go_wp2_with fail
   refine (rA _ _).mono ?_
   rintro e w4 ⟨rfl,cT⟩
   have HE:=aA (qW hI (by omega) hlt jD.out yC.out tD.out tH.out cT 1 v)
   have bY:=yC.out.old (Below.next tH.out cT tH.out.size)
   have a0:w4.cell? ⟨w.heap.size+1+1,0,none⟩=some (.int .i64 0):=bY.cell_of rfl
   have a1:w4.cell? ⟨w.heap.size+1+1,1,none⟩=some (.int .i64 0):=bY.cell_of rfl
   have f0:=bY.frozen 0
   have f1:=bY.frozen 1
   clear bY cT
   go_wp2_with fail
   have q1:=HE.out.1.cell_of (i:=0) rfl
   have q2:=HE.out.1.cell_of (i:=1) rfl
   exact bodyPost_ret (v:=.tuple #[.pointer p3,.agg #[.int .i64 1,.int .i64 v]]) (by simp [results,Tryz.results375,go_sem,q1,q2]) rfl ⟨_,_,rfl,HE.out.2.1,HE.out.2.2⟩
  ·by_cases c2:c=2
   ·subst c2
    have e:r=(s,⟨1,v⟩):=by rw [lX.out];simp [uD,IE,HM.out]
    subst e
    clear lX
    go_wp2_with fail
    refine (rA _ _).mono ?_
    rintro e w4 ⟨rfl,cT⟩
    have HE:=aA (qW hI (by omega) hlt jD.out yC.out HQ.out (Below.refl w2.heap.size w2) cT 1 v)
    have bY:=yC.out.old (Below.next (Below.refl w2.heap.size w2) cT (Below.refl w2.heap.size w2).size)
    have a0:w4.cell? ⟨w.heap.size+1+1,0,none⟩=some (.int .i64 0):=bY.cell_of rfl
    have a1:w4.cell? ⟨w.heap.size+1+1,1,none⟩=some (.int .i64 0):=bY.cell_of rfl
    have f0:=bY.frozen 0
    have f1:=bY.frozen 1
    clear bY cT
    go_wp2_with fail
    have q1:=HE.out.1.cell_of (i:=0) rfl
    have q2:=HE.out.1.cell_of (i:=1) rfl
    exact bodyPost_ret (v:=.tuple #[.pointer p,.agg #[.int .i64 1,.int .i64 v]]) (by simp [results,Tryz.results375,go_sem,q1,q2]) rfl ⟨_,_,rfl,HE.out.2.1,HE.out.2.2⟩
   ·by_cases c3:c=3
    ·subst c3
     have e:r=(vZ s a,⟨1,v⟩):=by rw [lX.out];simp [uD,IE,HM.out]
     subst e
     clear lX
     go_wp2_with fail
     refine (DY (I:=I) (B:=w2.heap.size) d a w2 p s h HD.out HS.out (by rw [HM.out];rfl) (Nat.le_refl _) hz).mono ?_
     rintro e w3 ⟨p3,h3,rfl,t3,cE⟩
     have tD:=aA t3
     have tH:=aA cE
     clear t3 cE
     go_wp2_with fail
     refine (rA _ _).mono ?_
     rintro e w4 ⟨rfl,cT⟩
     have HE:=aA (qW hI (by omega) hlt jD.out yC.out tD.out tH.out cT 1 v)
     have bY:=yC.out.old (Below.next tH.out cT tH.out.size)
     have a0:w4.cell? ⟨w.heap.size+1+1,0,none⟩=some (.int .i64 0):=bY.cell_of rfl
     have a1:w4.cell? ⟨w.heap.size+1+1,1,none⟩=some (.int .i64 0):=bY.cell_of rfl
     have f0:=bY.frozen 0
     have f1:=bY.frozen 1
     clear bY cT
     go_wp2_with fail
     have q1:=HE.out.1.cell_of (i:=0) rfl
     have q2:=HE.out.1.cell_of (i:=1) rfl
     exact bodyPost_ret (v:=.tuple #[.pointer p3,.agg #[.int .i64 1,.int .i64 v]]) (by simp [results,Tryz.results375,go_sem,q1,q2]) rfl ⟨_,_,rfl,HE.out.2.1,HE.out.2.2⟩
    ·have e:r=(s,⟨4,0⟩):=by rw [lX.out];simp [uD,c1,c2,c3]
     subst e
     clear lX
     go_wp2_with fail
     refine (wW _).mono ?_
     rintro e w4 ⟨rfl,cT⟩
     have HE:=aA (qW hI (by omega) hlt jD.out yC.out HQ.out (Below.refl w2.heap.size w2) cT 4 0)
     have bY:=yC.out.old (Below.next (Below.refl w2.heap.size w2) cT (Below.refl w2.heap.size w2).size)
     have a0:w4.cell? ⟨w.heap.size+1+1,0,none⟩=some (.int .i64 0):=bY.cell_of rfl
     have a1:w4.cell? ⟨w.heap.size+1+1,1,none⟩=some (.int .i64 0):=bY.cell_of rfl
     have f0:=bY.frozen 0
     have f1:=bY.frozen 1
     clear bY cT
     go_wp2_with fail
     have q1:=HE.out.1.cell_of (i:=0) rfl
     have q2:=HE.out.1.cell_of (i:=1) rfl
     exact bodyPost_ret (v:=.tuple #[.pointer p,.agg #[.int .i64 4,.int .i64 0]]) (by simp [results,Tryz.results375,go_sem,q1,q2]) rfl ⟨_,_,rfl,HE.out.2.1,HE.out.2.2⟩
 |none =>
  have HM:=aA hm
  clear hm
  unfold XN
  by_cases c1:c=1
  ·subst c1
   have e:r=(vP s a b,⟨3,0⟩):=by rw [lX.out];simp [uD,IE,HM.out]
   subst e
   clear lX
   go_wp2_with fail
   refine (JF (I:=I) (B:=w2.heap.size) d w2 p s h HD.out HS.out (Nat.le_refl _) hz).mono ?_
   rintro e w3 ⟨p3,h3,rfl,t3,cE⟩
   have tD:=aA t3
   have tH:=aA cE
   clear t3 cE
   go_wp2_with fail
   refine (OY _).mono ?_
   rintro e w4 ⟨rfl,cT⟩
   have HE:=aA (qW hI (by omega) hlt jD.out yC.out tD.out tH.out cT 3 0)
   have bY:=yC.out.old (Below.next tH.out cT tH.out.size)
   have a0:w4.cell? ⟨w.heap.size+1+1,0,none⟩=some (.int .i64 0):=bY.cell_of rfl
   have a1:w4.cell? ⟨w.heap.size+1+1,1,none⟩=some (.int .i64 0):=bY.cell_of rfl
   have f0:=bY.frozen 0
   have f1:=bY.frozen 1
   clear bY cT
   go_wp2_with fail
   have q1:=HE.out.1.cell_of (i:=0) rfl
   have q2:=HE.out.1.cell_of (i:=1) rfl
   exact bodyPost_ret (v:=.tuple #[.pointer p3,.agg #[.int .i64 3,.int .i64 0]]) (by simp [results,Tryz.results375,go_sem,q1,q2]) rfl ⟨_,_,rfl,HE.out.2.1,HE.out.2.2⟩
  ·by_cases c2:c=2
   ·subst c2
    have e:r=(s,⟨3,0⟩):=by rw [lX.out];simp [uD,IE,HM.out]
    subst e
    clear lX
    go_wp2_with fail
    refine (OY _).mono ?_
    rintro e w4 ⟨rfl,cT⟩
    have HE:=aA (qW hI (by omega) hlt jD.out yC.out HQ.out (Below.refl w2.heap.size w2) cT 3 0)
    have bY:=yC.out.old (Below.next (Below.refl w2.heap.size w2) cT (Below.refl w2.heap.size w2).size)
    have a0:w4.cell? ⟨w.heap.size+1+1,0,none⟩=some (.int .i64 0):=bY.cell_of rfl
    have a1:w4.cell? ⟨w.heap.size+1+1,1,none⟩=some (.int .i64 0):=bY.cell_of rfl
    have f0:=bY.frozen 0
    have f1:=bY.frozen 1
    clear bY cT
    go_wp2_with fail
    have q1:=HE.out.1.cell_of (i:=0) rfl
    have q2:=HE.out.1.cell_of (i:=1) rfl
    exact bodyPost_ret (v:=.tuple #[.pointer p,.agg #[.int .i64 3,.int .i64 0]]) (by simp [results,Tryz.results375,go_sem,q1,q2]) rfl ⟨_,_,rfl,HE.out.2.1,HE.out.2.2⟩
   ·by_cases c3:c=3
    ·subst c3
     have e:r=(s,⟨3,0⟩):=by rw [lX.out];simp [uD,IE,HM.out,XP HM.out]
     subst e
     clear lX
     go_wp2_with fail
     refine (OY _).mono ?_
     rintro e w4 ⟨rfl,cT⟩
     have HE:=aA (qW hI (by omega) hlt jD.out yC.out HQ.out (Below.refl w2.heap.size w2) cT 3 0)
     have bY:=yC.out.old (Below.next (Below.refl w2.heap.size w2) cT (Below.refl w2.heap.size w2).size)
     have a0:w4.cell? ⟨w.heap.size+1+1,0,none⟩=some (.int .i64 0):=bY.cell_of rfl
     have a1:w4.cell? ⟨w.heap.size+1+1,1,none⟩=some (.int .i64 0):=bY.cell_of rfl
     have f0:=bY.frozen 0
     have f1:=bY.frozen 1
     clear bY cT
     go_wp2_with fail
     have q1:=HE.out.1.cell_of (i:=0) rfl
     have q2:=HE.out.1.cell_of (i:=1) rfl
     exact bodyPost_ret (v:=.tuple #[.pointer p,.agg #[.int .i64 3,.int .i64 0]]) (by simp [results,Tryz.results375,go_sem,q1,q2]) rfl ⟨_,_,rfl,HE.out.2.1,HE.out.2.2⟩
    ·have e:r=(s,⟨4,0⟩):=by rw [lX.out];simp [uD,c1,c2,c3]
     subst e
     clear lX
     go_wp2_with fail
     refine (wW _).mono ?_
     rintro e w4 ⟨rfl,cT⟩
     have HE:=aA (qW hI (by omega) hlt jD.out yC.out HQ.out (Below.refl w2.heap.size w2) cT 4 0)
     have bY:=yC.out.old (Below.next (Below.refl w2.heap.size w2) cT (Below.refl w2.heap.size w2).size)
     have a0:w4.cell? ⟨w.heap.size+1+1,0,none⟩=some (.int .i64 0):=bY.cell_of rfl
     have a1:w4.cell? ⟨w.heap.size+1+1,1,none⟩=some (.int .i64 0):=bY.cell_of rfl
     have f0:=bY.frozen 0
     have f1:=bY.frozen 1
     clear bY cT
     go_wp2_with fail
     have q1:=HE.out.1.cell_of (i:=0) rfl
     have q2:=HE.out.1.cell_of (i:=1) rfl
     exact bodyPost_ret (v:=.tuple #[.pointer p,.agg #[.int .i64 4,.int .i64 0]]) (by simp [results,Tryz.results375,go_sem,q1,q2]) rfl ⟨_,_,rfl,HE.out.2.1,HE.out.2.2⟩
end
theorem LW {w:World} {B:Nat} {e:TypeId} {size:Nat} {v:Value} {n:Nat} {xs:List Value} (h:w.ownsRow 0 e size v n xs) (hb:∀ k,v.ownBlock=some k→B≤k):w.ownsRow B e size v n xs:=by
 refine ⟨h.1,?_⟩
 rcases h.2 with h2|⟨g,cap,cur,rfl,-,h4⟩
 ·exact .inl h2
 ·exact .inr ⟨g,cap,cur,rfl,hb g rfl,h4⟩
theorem SZ {I:Nat→Prop} {w:World} {p:Option Addr} {s:nU} {h:Nat} (q:Tr I w p s h) (hI:∀ k,I k→k<w.heap.size) (hz:s.length≤500000000000) :
  Calls Tryz.prog 376 #[.agg #[],.pointer p] w fun e w'=>∃ v,e = .returned v∧w'.ownsRow w.heap.size 3 1 v (flat s).length (ints (flat s))∧Below w.heap.size w w':=by
 obtain ⟨d,q⟩:=q
 have HQ:=aA q
 clear q
 go_enter Tryz.func376,Tryz.ntmps376
 go_wp2_with fail
 generalize hW:World.alloc w _=W
 have hb0:Below w.heap.size w W:=by rw [←hW];exact aB _ _
 have HB:=aA hb0
 clear hW
 refine (FU (I:=I) (N:=w.heap.size) hI d W p s h (.slice none 0 0) [] (HQ.out.stay fun k hk hl=>⟨hk,hb0.block k hl⟩) hb0.size (by simp;omega) (World.ownsRow_nil _ _ _ _) (fun k e=>by cases e)).mono ?_
 clear hb0
 rintro e w3 ⟨v,rfl,hG⟩
 have HG:=aA hG
 clear hG
 go_wp2_with fail
 go_ret
 have hf:=HG.out.fr
 have ho:=HG.out.own
 rw [List.nil_append] at ho
 have z:=HB.out.size
 refine ⟨v,rfl,LW ho (fun k e=>(HG.out.at' k e).elim (fun c=>by cases c) (fun c=>by omega)),?_⟩
 exact Below.next HB.out ⟨hf.os,hf.tape,hf.output,hf.size,fun k hk=>hf.block k hk (fun c=>by cases c)⟩ z
def aCo:tree.SR nU where
 sz s:=2*s.length
 rep I w s c:=∃ p h,c=[.pointer p]∧Tr I w p s h∧uC s
 len h:=by obtain ⟨p,h,e,-⟩:=h;rw [e];rfl
 shape h v hv:=by obtain ⟨p,h,e,-⟩:=h;rw [e] at hv;exact ⟨_,List.mem_singleton.mp hv⟩
 stay hk h:=by obtain ⟨p,h,e,q,a⟩:=h;exact ⟨p,h,e,q.stay hk,a⟩
theorem aAy {s:nU} (h:uC s) (o:M.Op):uC (uD.apply s o).1:=by
 show uC (Prod.fst (if _ then _ else _))
 split
 ·exact ZX h _ _
 ·split
  ·exact h
  ·split
   ·exact ZY h _
   ·exact h
theorem TA:M.qA (fun s:nU=>2*s.length) uD:=by
 refine ⟨Nat.zero_le _,fun s o=>?_⟩
 show 2*List.length (Prod.fst (if _ then _ else _))≤_
 have:=ID s o.a o.b
 have:=JP s o.a
 split
 ·dsimp only;omega
 ·split
  ·dsimp only;omega
  ·split<;>dsimp only<;>omega
theorem PA (w:World):(method 553 150 (.agg #[]) "Apply").run Tryz.prog w = .ok (375,.agg #[]) w:=by kernel_rfl
theorem PB (s o:Value) (w:World):(callFunc 375 #[.agg #[],s,o]).run Tryz.prog w = .ok (.enter 375 #[.agg #[],s,o]) w:=by kernel_rfl
theorem PD (w:World):(method 553 150 (.agg #[]) "Tell").run Tryz.prog w = .ok (376,.agg #[]) w:=by kernel_rfl
theorem PE (s:Value) (w:World):(callFunc 376 #[.agg #[],s]).run Tryz.prog w = .ok (.enter 376 #[.agg #[],s]) w:=by kernel_rfl
theorem aEZ (L:int.Lt) (ho:L.oT=150) (hv:L.ov = .agg #[]):tree.bO aCo uD L 375 (.agg #[]):=by
 refine ⟨TA,fun W=>by rw [ho,hv];exact PA W,fun s o W=>PB s o W,fun I W s x op hr hsz hI=>?_⟩
 obtain ⟨p,h,e,q,ha⟩:=hr
 have hx:x = .pointer p:=by simpa using e
 subst hx
 have hz:2*s.length≤1000000000000:=hsz
 obtain ⟨c,a,b⟩:=op
 refine (OZ q hI ha (by omega)).mono ?_
 rintro e' w' ⟨p',h',rfl,t',hb⟩
 exact ⟨.pointer p',rfl,⟨p',h',rfl,t',aAy ha _⟩,hb⟩
theorem aE0 (L:int.Lt) (ho:L.oT=150) (hv:L.ov = .agg #[]):tree.sY aCo L flat 376 (.agg #[]) where
 m W:=by rw [ho,hv];exact PD W
 c s W:=PE s W
 f I W s x hr hsz hI:=by
  obtain ⟨p,h,e,q,ha⟩:=hr
  have hx:x=p:=by simpa using e
  subst hx
  have hz:2*s.length≤1000000000000:=hsz
  exact SZ q hI (by omega)
end Go.Proofs.YtefjhnhdagolhaaGreat
namespace Go.Proofs.YtefjhnhdagolhaaGreat
open Go.ChangeShapes Go.WideShapes Go.ChangeAt Go.RowKit Go.Joins Go.Deep
theorem LX:Tryz.prog.cellsOf 38=6:=by kernel_rfl
theorem aAz:Tryz.prog.cellsOf 36=3:=by kernel_rfl
theorem aE1 {α:Type} {l:List α} (h:l.length=6):∃ c0 c1 c2 c3 c4 c5,l=[c0,c1,c2,c3,c4,c5]:=by
 match l,h with
 |[c0,c1,c2,c3,c4,c5],_=>exact ⟨c0,c1,c2,c3,c4,c5,rfl⟩
theorem TB {W:World} {base:Nat} {a:Addr} {n:Nat} {cs:List Value} (h:W.cells? base a n=some cs) (i:Nat) (hi:i<n):W.cell? (a.add i)=cs[i]?:=by
 unfold World.cells? at h
 split at h
 ·exact mapM_some_get h i i (by simp [hi])
 ·cases h
theorem wf_i64 {x:Int} (h:(Lit.int .i64 x).wf=true):tU x:=by
 have m1:IntKind.min .i64 = -9223372036854775808:=by decide +kernel
 have m2:IntKind.max .i64=9223372036854775807:=by decide +kernel
 simp [Lit.wf] at h
 unfold tU
 omega
section
variable {H:Type} {enc:TypeId×Value→H} {W:World}
theorem XQ {fuel:Nat} {cs:List Value} {y:DataW H×List MemPlace} (h:DataW.trod enc Tryz.prog W 0 (fun _=>true) true fuel 38 cs=some y) :
  ∃ x:wZ,cs=[.int .i64 x.k,.int .i64 x.t,.int .i64 x.n,.int .i64 x.c,.int .i64 x.a,.int .i64 x.b]∧tU x.t∧tU x.n∧8≤Rows.uptoBulk y.1:=by
 obtain ⟨y0,y1,y2,y3,m,rfl,hl,h0,h1,h2,h3⟩:=trod_struct4 Tryz.underlying38 h
 obtain ⟨z0,z1,z2,m',hx3,-,k0,k1,k2⟩:=trod_struct3 Tryz.underlying36 h3
 obtain ⟨c0,c1,c2,c3,c4,c5,rfl⟩:=aE1 (hl.trans LX)
 simp only [DX,List.drop_succ_cons,List.drop_zero,List.take_succ_cons,List.take_zero] at h0 h1 h2
 simp only [DX,aAz,List.drop_succ_cons,List.drop_zero,List.take_succ_cons,List.take_zero] at k0 k1 k2
 obtain ⟨x0,e0,rfl,-⟩:=DataW.trod_int Tryz.underlying3 h0
 obtain ⟨x1,e1,rfl,w1⟩:=DataW.trod_int Tryz.underlying3 h1
 obtain ⟨x2,e2,rfl,w2⟩:=DataW.trod_int Tryz.underlying3 h2
 obtain ⟨x3,e3,rfl,-⟩:=DataW.trod_int Tryz.underlying3 k0
 obtain ⟨x4,e4,rfl,-⟩:=DataW.trod_int Tryz.underlying3 k1
 obtain ⟨x5,e5,rfl,-⟩:=DataW.trod_int Tryz.underlying3 k2
 simp only [List.cons.injEq,and_true] at e0 e1 e2 e3 e4 e5
 subst e0 e1 e2 e3 e4 e5 hx3
 exact ⟨⟨x0,x1,x2,x3,x4,x5⟩,rfl,wf_i64 w1,wf_i64 w2,by simp [Rows.uptoBulk,Rows.uptoBulkAll]⟩
theorem FV (k:Nat) (l:List (DataW H)) (h:∀ d∈l,k≤Rows.uptoBulk d):k*l.length≤Rows.uptoBulkAll l:=by
 induction l with
 |nil=>simp [Rows.uptoBulkAll]
 |cons x r ih =>
  have h1:=h x (by simp)
  have h2:=ih fun d hd=>h d (by simp [hd])
  simp only [Rows.uptoBulkAll,List.length_cons,Nat.mul_add,Nat.mul_one]
  omega
theorem LY {base:Nat} {v:Value} {d:DataW H} {p:List MemPlace} (hv:Value.okWide Tryz.prog W .any base 29 v) (h:DataW.Trod enc Tryz.prog W 0 (fun _=>true) true 29 v d p) :
  ∃ l:List wZ,Scr W v l∧(∀ x∈l,tU x.t∧tU x.n)∧8*l.length≤Rows.uptoBulk d:=by
 obtain ⟨a0,l0,c0,rfl⟩:=okWide_slice Tryz.underlying29 hv
 obtain ⟨fuel,hf⟩:=h
 rcases DataW.trod_slice Tryz.underlying29 hf with ⟨hcs,hx⟩|⟨a,len,cap,elems,rest,n,-,hcs,hx,-,hl,hm,hlen,hel,-,-⟩
 ·simp only [Value.cells,List.cons.injEq,Value.slice.injEq,and_true] at hcs
  obtain ⟨rfl,rfl,rfl⟩:=hcs
  exact ⟨[],⟨none,0,rfl,fun h=>absurd h (by decide)⟩,by simp,by simp⟩
 ·simp only [Value.cells,List.cons.injEq,Value.slice.injEq,and_true] at hcs
  obtain ⟨rfl,rfl,rfl⟩:=hcs
  have each:∀ i,i<l0→∃ x:wZ,(∀ j u,[Value.int .i64 x.k,.int .i64 x.t,.int .i64 x.n,.int .i64 x.c,.int .i64 x.a,.int .i64 x.b][j]?=some u→W.cell? ((a.add (i*6)).add j)=some u)∧tU x.t∧tU x.n∧∃ y,elems[i]?=some y∧8≤Rows.uptoBulk y.1:=by
   intro i hi
   have hi':=hel i hi
   rw [LX,List.getElem?_eq_getElem (by omega),Option.bind_eq_some_iff] at hi'
   obtain ⟨cs,q1,q2⟩:=hi'
   obtain ⟨x,rfl,x1,x2,x3⟩:=XQ q2
   refine ⟨x,fun j u hu=>?_,x1,x2,_,List.getElem?_eq_getElem (by omega),x3⟩
   have hj:j<6:=by have:=(List.getElem?_eq_some_iff.1 hu).1;simpa using this
   rw [TB q1 j hj]
   exact hu
  obtain ⟨f,hf'⟩:∃ f:Nat→wZ,∀ i,i<l0→(∀ j u,[Value.int .i64 (f i).k,.int .i64 (f i).t,.int .i64 (f i).n,.int .i64 (f i).c,.int .i64 (f i).a,.int .i64 (f i).b][j]?=some u→W.cell? ((a.add (i*6)).add j)=some u)∧tU (f i).t∧tU (f i).n∧∃ y,elems[i]?=some y∧8≤Rows.uptoBulk y.1:=by
   classical
   exact ⟨fun i=>if h:i<l0 then (each i h).choose else ⟨0,0,0,0,0,0⟩,fun i hi=>by simp only [dif_pos hi];exact (each i hi).choose_spec⟩
  refine ⟨(List.range l0).map f,⟨some a,c0,by simp,fun h0=>?_⟩,?_,?_⟩
  ·have h0':0<l0:=by simpa using h0
   obtain ⟨b,off,spot⟩:=a
   have XM:spot=none:=by
    have:=World.cell?_spot ((hf' 0 h0').1 0 _ rfl)
    simpa [Addr.add] using this
   subst XM
   refine ⟨b,off,rfl,fun i x hx=>?_⟩
   have hi:i<l0:=by have:=(List.getElem?_eq_some_iff.1 hx).1;simpa using this
   simp only [List.getElem?_map,List.getElem?_range hi,Option.map_some,Option.some.injEq] at hx
   subst hx
   have q:=(hf' i hi).1
   simp only [rL] at q
   exact ⟨q 0 _ rfl,q 1 _ rfl,q 2 _ rfl,q 3 _ rfl,q 4 _ rfl,q 5 _ rfl⟩
  ·intro x hx
   obtain ⟨i,hi,rfl⟩:=List.mem_map.1 hx
   have:=hf' i (List.mem_range.1 hi)
   exact ⟨this.2.1,this.2.2.1⟩
  ·have hb:8*(elems.map (·.1)).length≤Rows.uptoBulkAll (elems.map (·.1)):=FV 8 _ fun d hd=>by
    obtain ⟨y,hy,rfl⟩:=List.mem_map.1 hd
    obtain ⟨i,hi⟩:=List.getElem?_of_mem hy
    have hil:i<l0:=by have:=(List.getElem?_eq_some_iff.1 hi).1;omega
    obtain ⟨-,-,-,y',q1,q2⟩:=hf' i hil
    rw [hi] at q1
    cases q1
    exact q2
   simp only [Prod.mk.injEq] at hx
   rw [hx.1]
   simp only [Rows.uptoBulk,List.length_map,List.length_range] at hb ⊢
   omega
end
end Go.Proofs.YtefjhnhdagolhaaGreat
namespace Go.Proofs.YtefjhnhdagolhaaGreat
open Go.RowKit
attribute [local go_sem ↓] Go.wp_at_zero Go.wp_at_succ
section
variable {n cap:Nat} {w w':World} {b:Nat}
theorem JR (hn:1≤n) (lG:n≤64) (hc:cap≤64) (h:int.dK w n (cap:Int) 140 (.agg #[]) b w'):zU wX (fun s=>[s]) n cap w b w' :=
 int.OQ (oT:=140) (fA:=361) (fT:=362) hn lG hc ⟨w,fun _=>False,xO,.agg #[],.agg #[],.agg #[],Below.refl _ _,h,fun _ hk=>hk.elim,fun _ _=>rfl,SE,SS⟩
theorem PJ (hn:1≤n) (lG:n≤64) (hc:cap≤64) (h:list.dK w n (cap:Int) 143 (.agg #[]) b w'):zU nT (fun s=>s) n cap w b w' :=
 list.OQ (oT:=143) (fA:=365) (fT:=366) hn lG hc ⟨w,fun _=>False,OV,.agg #[],.agg #[],.agg #[],Below.refl _ _,h,fun _ hk=>hk.elim,fun _ _=>⟨none,rfl,rfl⟩,aAr,aAs⟩
theorem PK (hn:1≤n) (lG:n≤64) (hc:cap≤64) (h:row.dK w n (cap:Int) 147 (.agg #[]) b w'):zU pT (fun s=>s) n cap w b w' :=
 row.OQ (oT:=147) (fA:=370) (fT:=371) hn lG hc ⟨w,fun _=>False,OW,.agg #[],.agg #[],.agg #[],Below.refl _ _,h,fun _ hk=>hk.elim,fun _ _=>⟨none,none,rfl,[],[],rfl,rfl,rfl⟩,aAt,aAu⟩
theorem XR (hn:1≤n) (lG:n≤64) (hc:cap≤64) (h:tree.dK w n (cap:Int) 150 (.agg #[]) b w'):zU uD flat n cap w b w' :=
 tree.OQ (oT:=150) (fA:=375) (fT:=376) hn lG hc ⟨w,fun _=>False,aCo,.agg #[],.agg #[],.agg #[],Below.refl _ _,h,fun _ hk=>hk.elim,fun _ _=>⟨none,0,rfl,Tr.nil,trivial⟩,aEZ,aE0⟩
end
theorem TC (kind st co:Int) (nx ou:List Int) (vn vo:Value) (N C:Nat) (h1:1≤N) (lG:N≤64) (hC:C≤64) (w:World) (hn:Sl w vn (ints nx)) (ho:Sl w vo (ints ou)) (Q:Prop)
  (hQ:∀ (σ:Type) (P:M.Plain σ) (tell:σ→List Int),(∀ W,Below w.heap.size w W→Calls Tryz.prog 42 #[.agg #[.int .i64 (YR false kind),.int .i64 (N:Int),.int .i64 (C:Int),.int .i64 st,.int .i64 co,vn,vo]] W fun e w'=>∃ b,e = .returned (.tuple #[.pointer (some ⟨b,0,none⟩),.int .i64 0])∧zU P tell N C W b w')→Q):Q:=by
 obtain ⟨r0,r1⟩:=gR kind 4 (by decide)
 have hk:YR false kind=1+pk kind 4:=rfl
 rcases (by omega:YR false kind=1∨YR false kind=2∨YR false kind=3∨YR false kind=4) with e|e|e|e
 ·exact hQ _ wX _ (fun W hW=>by rw [e];exact (ZE N _ st co nx ou vn vo W (hn.below hW) (ho.below hW) h1 lG (by omega) (by omega)).mono fun e w' ⟨b,q1,q2⟩=>⟨b,q1,JR h1 lG hC q2⟩)
 ·exact hQ _ nT _ (fun W hW=>by rw [e];exact (ZF N _ st co nx ou vn vo W (hn.below hW) (ho.below hW) h1 lG (by omega) (by omega)).mono fun e w' ⟨b,q1,q2⟩=>⟨b,q1,PJ h1 lG hC q2⟩)
 ·exact hQ _ pT _ (fun W hW=>by rw [e];exact (RO N _ st co nx ou vn vo W (hn.below hW) (ho.below hW) h1 lG (by omega) (by omega)).mono fun e w' ⟨b,q1,q2⟩=>⟨b,q1,PK h1 lG hC q2⟩)
 ·exact hQ _ uD _ (fun W hW=>by rw [e];exact (UX N _ st co nx ou vn vo W (hn.below hW) (ho.below hW) h1 lG (by omega) (by omega)).mono fun e w' ⟨b,q1,q2⟩=>⟨b,q1,XR h1 lG hC q2⟩)
theorem PN (kind th cap st co:Int) (nx ou:List Int) (vn vo:Value) (l:List wZ) (hl:l.length≤200000) (hi:∀ x∈l,tU x.t∧tU x.n) (s:Value) (w:World) (hs:Scr w s l) (hn:Sl w vn (ints nx)) (ho:Sl w vo (ints ou)) (ik:tU kind) (it:tU th) (ic:tU cap) :
  Calls Tryz.prog 14 #[.agg #[.int .i64 kind,.int .i64 th,.int .i64 cap,.int .i64 st,.int .i64 co,vn,vo],s] w fun e w'=>e = .returned (.bool true)∧Below w.heap.size w w':=by
 obtain ⟨a1,c1,rfl,f1⟩:=hn.open_ints
 obtain ⟨a2,c2,rfl,f2⟩:=ho.open_ints
 obtain ⟨p0,p1⟩:=gR th 19 (by decide)
 obtain ⟨q0,q1⟩:=gR cap 65 (by decide)
 obtain ⟨N,hN⟩:∃ N:Nat,(N:Int)=2+pk th 19:=⟨(2+pk th 19).toNat,by omega⟩
 obtain ⟨C,hC⟩:∃ C:Nat,(C:Int)=pk cap 65:=⟨(pk cap 65).toNat,by omega⟩
 exact TC kind st co nx ou _ _ N C (by omega) (by omega) (by omega) w hn ho _ fun σ P tell h=>LM _ kind th cap st co a1 a2 nx.length c1 ou.length c2 N C hN hC rfl l hl hi s w hs ik it ic h
end Go.Proofs.YtefjhnhdagolhaaGreat
namespace Go.Proofs.YtefjhnhdagolhaaGreat
open Go.ChangeShapes Go.WideShapes Go.ChangeAt Go.RowKit Go.Joins Go.Deep
theorem FW:laidOutB Tryz.prog=true:=by kernel_rfl
theorem TD:ownKnob Tryz.prog.godebug=none:=by kernel_rfl
theorem DZ {H:Type} (d:DataW H):sliceLen d≤Rows.uptoBulk d:=by
 have one:∀ x:DataW H,1≤Rows.uptoBulk x:=by
  intro x
  cases x with
  |lit l=>cases l<;>simp [Rows.uptoBulk]
  |nil=>simp [Rows.uptoBulk]
  |ptr d=>simp [Rows.uptoBulk]
  |slice elems spare=>simp [Rows.uptoBulk]
  |agg parts=>simp [Rows.uptoBulk]
  |iface t d=>simp [Rows.uptoBulk]
  |map entries=>simp [Rows.uptoBulk]
  |held h=>simp [Rows.uptoBulk]
 cases d with
 |slice el sp =>
  have:=FV 1 el fun d _=>one d
  simp only [sliceLen,Rows.uptoBulk]
  omega
 |lit l=>exact Nat.zero_le _
 |nil=>exact Nat.zero_le _
 |ptr d=>exact Nat.zero_le _
 |agg parts=>exact Nat.zero_le _
 |iface t d=>exact Nat.zero_le _
 |map entries=>exact Nat.zero_le _
 |held h=>exact Nat.zero_le _
theorem TE {H:Type} {k t c s o:Int} {dn dou d1:DataW H} (h:Rows.uptoBulkAll [.agg [.lit (.int .i64 k),.lit (.int .i64 t),.lit (.int .i64 c),.agg [.lit (.int .i64 s),.lit (.int .i64 o),dn,dou]],d1]≤1048576):sliceLen dn≤1048576∧sliceLen dou≤1048576∧Rows.uptoBulk d1≤1048576:=by
 have h1:=DZ dn
 have h2:=DZ dou
 simp only [Rows.uptoBulk,Rows.uptoBulkAll] at h
 omega
theorem zV (H:Type) (enc:TypeId×Value→H) (W:World) (base:Nat) (args:Array Value) (ds gs:List (DataW H)) (before:List MemPlace)
  (hval:∀ (j:Nat) t v,Tryz.f14.params[j]?=some t→args[j]?=some v→Value.okWide Tryz.prog W .any base t v)
  (hW:DataW.Whole enc Tryz.prog Tryz.f14.params.toList Rows.helpedSpec.vars false W args.toList ds gs before) (hk:Rows.uptoSmall H (ds++gs)=true) :
  Calls Tryz.prog 14 args W fun e W'=>∃ v,e = .returned v∧Rows.helpedSpec.post enc Tryz.prog Tryz.f14 false true false false W args v W':=by
 have hW':=hW
 obtain ⟨p,q,hA0,hV,rfl,hfz,hnd⟩:=hW
 have hA:DataW.TrodAll enc Tryz.prog W 0 (fun _=>true) true Tryz.f14.params.toList args.toList ds p:=hA0
 rw [Tryz.params14] at hA hval
 obtain ⟨v0,vs0,d0,ds0,p0,q0,hargs,rfl,rfl,h0,r0⟩:=trodAll_cons hA
 obtain ⟨v1,vs1,d1,ds1,p1,q1,rfl,rfl,rfl,h1,r1⟩:=trodAll_cons r0
 obtain ⟨rfl,rfl,rfl⟩:=trodAll_nil r1
 obtain rfl:args=#[v0,v1]:=by cases args;simp_all
 obtain ⟨rfl,rfl⟩:=trodVars_none hV
 have h0k:=h0
 have h1k:=h1
 obtain ⟨kind,th,cap,st,co,nx,ou,vn,vo,dn,dou,rfl,s1,s2,rfl,l1,l2,hwf⟩:=LP (hval 0 26 v0 rfl rfl) h0
 obtain ⟨l,hs,hi,hlb⟩:=LY (hval 1 29 v1 rfl rfl) h1
 clear hA0
 simp only [List.append_nil] at hW' hk
 have hlt:∀ x∈p0++p1,x.block<W.heap.size:=fun x hx=>by simpa using hW'.lt x (by simpa using hx)
 obtain ⟨b1,b2,b3⟩:=TE (of_decide_eq_true hk)
 have hw:∀ x∈[kind,th,cap,st,co]++nx++ou,tU x:=fun x hx=>wf_i64 (hwf x hx)
 refine (PN kind th cap st co nx ou vn vo l (by omega) hi v1 W hs s1 s2 (hw kind (by simp)) (hw th (by simp)) (hw cap (by simp))).mono fun e W' ⟨he,hb⟩=>?_
 subst he
 have aIl:DataW.Trod enc Tryz.prog W' 0 (fun b=>decide (b<W.heap.size)) true 26 _ _ p0:=Below.trod FW (by kernel_rfl) (of_decide_eq_true (by kernel_rfl)) h0k hb (fun x hx=>hlt x (by simp [hx]))
 have aIm:DataW.Trod enc Tryz.prog W' 0 (fun b=>decide (b<W.heap.size)) true 29 _ _ p1:=Below.trod FW (by kernel_rfl) (of_decide_eq_true (by kernel_rfl)) h1k hb (fun x hx=>hlt x (by simp [hx]))
 exact ⟨_,rfl,⟨_,_,_,[],p0++p1,[],hW',trodAll_cons_mk (shut_bool Tryz.underlying4 _) trodAll_mk0,trodAll_cons_mk aIl (trodAll_mk1 aIm),rfl,hb.frame _,fun h=>by cases h⟩⟩
theorem EW (os:Os) (started:os.Started) (H:Type) (enc:TypeId×Value→H) (F:Stop.Interp) :
  ReturnsInHanded {} Tryz.checked os 14 .any ((Rows.OpenSpec.upto Rows.helpedSpec).pre6 enc Tryz.prog Tryz.f14 Rows.helpedUptoRow.domain false) (((Rows.OpenSpec.upto Rows.helpedSpec).at F).post enc Tryz.prog Tryz.f14 false true false false):=by
 refine returnsInHanded_of_cond (C:=Tryz.checked) (s:=Rows.OpenSpec.upto Rows.helpedSpec) (k:=Rows.uptoSmall) rfl TD started (by kernel_rfl) Tryz.func14
  (OpenSpec.witness (enc:=enc) (C:=Tryz.checked) (s:=Rows.OpenSpec.upto Rows.helpedSpec) (k:=Rows.uptoSmall) rfl false ⟨#[],#[.agg #[.int .i64 0,.int .i64 0,.int .i64 0,.int .i64 0,.int .i64 0,.slice none 0 0,.slice none 0 0],.slice none 0 0],[]⟩ 8 (by kernel_rfl) (by kernel_rfl) (by kernel_rfl)
   (x:=([.agg [.lit (.int .i64 0),.lit (.int .i64 0),.lit (.int .i64 0),.agg [.lit (.int .i64 0),.lit (.int .i64 0),.nil,.nil]],.nil],[],[])) (by kernel_rfl) rfl (by kernel_rfl)) ?_
 intro W base args ds gs before hval hW _ hk _
 exact zV H enc W base args ds gs before hval hW hk
theorem aCp {a b:Bool} (h:a=true) (h':b=true):(a && b)=true:=by rw [h,h'];rfl
theorem JS:Tryz.pinned.checked.prog.funcNamed Rows.helpedUptoRow.func=some 14:=by kernel_rfl
theorem JT:joinedFacts Tryz.pinned.checked.prog 14 Tryz.f14 (Rows.OpenSpec.upto Rows.helpedSpec).bare Rows.helpedUptoRow=true:=by
 unfold joinedFacts
 repeat' with_reducible refine aCp ?_ ?_
 all_goals as_aux_lemma=>kernel_rfl
theorem LZ:Tryz.f14.isInstance Tryz.pinned.checked.prog Rows.helpedUptoRow.origin Rows.helpedUptoRow.targs:=of_decide_eq_true (by kernel_rfl)
theorem MA:Tryz.f14.isWrapper Tryz.pinned.checked.prog Rows.helpedUptoRow.wrapper Rows.helpedUptoRow.mainSum:=by
 unfold Func.isWrapper
 first
  |(rw [if_pos (by decide +kernel)];kernel_rfl)
  |(rw [if_neg (by decide +kernel)];exact ⟨rfl,rfl⟩)
theorem helped_upto:Rows.HelpedUptoSaid :=
 OpenClaim.holds_of_cond 14 Tryz.f14 rfl rfl rfl rfl rfl rfl rfl ⟨rfl,rfl,rfl,rfl,rfl⟩ rfl rfl rfl rfl rfl JS Tryz.func14 JT LZ MA
  (fun os started H enc _ F=>EW os started H enc F)
end Go.Proofs.YtefjhnhdagolhaaGreat
