import Derived.Test.YtefjhnhdagolhaaGreatQ29
namespace Go.Proofs.YtefjhnhdagolhaaGreat
open Go.RowKit
open M (aI aC aD aR aT cnt marks tagged num)
attribute [local go_sem ↓] Go.wp_at_zero Go.wp_at_succ
structure NG {σ:Type} (L:DL) (P:M.Plain σ) (tell:σ→List Int) (sz:σ→Nat) (HM:World→Value→σ→Prop) (Au:Nat→World→Prop) (Y:aR) (w:World):Prop where
 d:VX L P tell sz HM Au
 mem:∀ b∈Y.bs,∀ k∈b,k<L.n
 ops:∀ t,t<L.n→cnt Y.bs t≤(Y.th t).ops.length
 all:Y.bs.flatten.length≤100000000000
 au:∃ B,B≤w.heap.size∧Au B w
 vn:∃ a l c,L.vn = .slice a l c
 vo:∃ a l c,L.vo = .slice a l c
section
variable {σ:Type} {L:DL} {P:M.Plain σ} {tell:σ→List Int} {sz:σ→Nat} {HM:World→Value→σ→Prop} {Au:Nat→World→Prop} {S:Nat→Prop} {Y:aR} {w:World} {bC:Nat→Nat} {vo vp:Nat→Value} {vb:Value} {bv:Nat→Value} {t:Nat}
theorem ZH (hD:VX L P tell sz HM Au) (Y:aR):∀ u,u≤Y.bs.flatten.length→sz (eK P Y u).st≤2+2*u
 |0,_=>hD.sz0
 |u+1,h=>by
  have:=ZH hD Y u (by omega)
  rw [AY P Y u (by omega)]
  have h2:=hD.vU (eK P Y u).st (((Y.th (Y.bs.flatten[u])).ops).getD ((eK P Y u).c (Y.bs.flatten[u])) ⟨0,0,0⟩)
  exact Nat.le_trans h2 (by omega)
set_option maxRecDepth 20000 in
set_option maxHeartbeats 1000000 in
theorem docState (o:NG L P tell sz HM Au Y w) (h:DR L S Y w bC vo vp vb bv) :
  Calls Tryz.prog 56 #[.pointer (some ⟨L.b,0,none⟩)] w fun e w'=>∃ v,e = .returned v∧w'.ownsRow w.heap.size 3 1 v (tell (eK P Y Y.order.length).st).length (ints (tell (eK P Y Y.order.length).st))∧Below w.heap.size w w':=by
 obtain ⟨a1,l1,c1,PN⟩:=o.vn
 obtain ⟨a2,l2,c2,VY⟩:=o.vo
 obtain ⟨B,hB,hAu⟩:=o.au
 have HRp:=aA (AZ o.d h o.mem o.ops o.all B hB hAu a1 a2 l1 c1 l2 c2 PN VY (-1) 0)
 have yB:=aA (show sz (eK P Y Y.order.length).st≤1000000000000 by have:=ZH o.d Y Y.order.length (Nat.le_of_eq (gA Y));have:=o.all;rw [gA] at *;omega)
 have HD:=aA o.d
 clear o h
 go_enter Tryz.func56,Tryz.ntmps56
 go_wp2_with fail
 refine HRp.out.mono ?_
 rintro e w1 ⟨vh,an,rfl,hM,hfr,dU,-⟩
 obtain ⟨va,vl,vc,rfl⟩:=HD.out.form _ _ _ hM
 have e9:vM L (.slice va vl vc)=[.int .i64 L.kind,.int .i64 L.st,.int .i64 L.co,.slice a1 l1 c1,.slice a2 l2 c2,.slice va vl vc]:=by unfold vM;rw [PN,VY]
 have HE9:=aA e9
 have FA:=aA hM
 have jW:=aA dU
 rw [e9]
 clear hM hfr dU e9
 go_wp2_with fail
 generalize nV:World.alloc (World.alloc w1 _) _=W3
 have cH:Below w1.heap.size w1 W3:=by rw [←nV];exact ((Below.refl _ _).alloc (Nat.le_refl _) _).alloc (by simp) _
 have hP:Row W3 w1.heap.size 159 (vM L (.slice va vl vc)):=by rw [←nV,HE9.out];exact (Row.new' rfl).alloc _
 refine (HD.out.tells W3 w1.heap.size _ _ hP (HD.out.stay _ _ _ _ FA.out (fun k e=>cH.block k (HD.out.lt _ _ _ FA.out k e))) yB.out).mono ?_
 rintro e w2 ⟨v,rfl,zY,aP⟩
 have JY:=aA zY
 have mD:=aA (Below.next (Below.next jW.out cH jW.out.size) aP (Nat.le_trans jW.out.size cH.size))
 have VL:w.heap.size≤W3.heap.size:=Nat.le_trans jW.out.size cH.size
 clear zY aP nV cH hP
 go_wp2_with fail
 go_ret
 exact ⟨v,rfl,dV JY.out VL,mD.out⟩
set_option maxHeartbeats 400000 in
theorem zZ (h:DR L S Y w bC vo vp vb bv) (x:Int) (hx:¬(0≤x∧x<L.n)) :
  Calls Tryz.prog 54 #[.pointer (some ⟨L.b,0,none⟩),.int .i64 x] w fun e w'=>e = .returned (.tuple #[.agg #[.int .i64 0,.int .i64 0],.int .i64 3])∧Below w.heap.size w w':=by
 have c7:w.cell? ⟨L.b,7,none⟩=some (.slice (some ⟨L.g,0,none⟩) L.n L.gc):=h.cS rfl
 have c7':=fun ob=>aX c7 ob
 have hn:=h.n64
 clear h
 by_cases h0:x<0
 ·go_enter Tryz.func54,Tryz.ntmps54
  go_wp2
  exact bodyPost_ret (v:=.tuple #[.agg #[.int .i64 0,.int .i64 0],.int .i64 3]) (by simp [results,Tryz.results54,go_sem]) rfl ⟨rfl,(by repeat (first|exact Below.refl _ _|assumption|refine Below.drewN ?_ _|refine Below.alloc ?_ (by simp) _))⟩
 ·have h1:(L.n:Int)≤x:=by omega
  clear hx
  go_enter Tryz.func54,Tryz.ntmps54
  go_wp2
  exact bodyPost_ret (v:=.tuple #[.agg #[.int .i64 0,.int .i64 0],.int .i64 3]) (by simp [results,Tryz.results54,go_sem]) rfl ⟨rfl,(by repeat (first|exact Below.refl _ _|assumption|refine Below.drewN ?_ _|refine Below.alloc ?_ (by simp) _))⟩
set_option maxHeartbeats 400000 in
theorem yF (h:DR L S Y w bC vo vp vb bv) (ht:t<L.n) (hp:(Y.th t).part≠0) :
  Calls Tryz.prog 54 #[.pointer (some ⟨L.b,0,none⟩),.int .i64 (t:Int)] w fun e w'=>e = .returned (.tuple #[.agg #[.int .i64 0,.int .i64 0],.int .i64 4])∧Below w.heap.size w w':=by
 have c7':=fun ob=>aX (show w.cell? ⟨L.b,7,none⟩=some (.slice (some ⟨L.g,0,none⟩) L.n L.gc) from h.cS rfl) ob
 have hn:=h.n64
 have cp:=fun ob=>aX (h.ptr t ht) ob
 have t3:=fun ob=>aX (show w.cell? ⟨L.bT t,3,none⟩=some (.int .i64 ((Y.th t).part:Int)) from h.cR ht rfl) ob
 have MZ:¬((Y.th t).part:Int)=0:=by omega
 have fG:(0:Int)≤(t:Int):=by omega
 have dD:(t:Int)<(L.n:Int):=by omega
 have iM:¬(L.n:Int)≤(t:Int):=by omega
 clear h
 go_enter Tryz.func54,Tryz.ntmps54
 go_wp2
 exact bodyPost_ret (v:=.tuple #[.agg #[.int .i64 0,.int .i64 0],.int .i64 4]) (by simp [results,Tryz.results54,go_sem]) rfl ⟨rfl,(by repeat (first|exact Below.refl _ _|assumption|refine Below.drewN ?_ _|refine Below.alloc ?_ (by simp) _))⟩
set_option maxHeartbeats 400000 in
theorem yG (h:DR L S Y w bC vo vp vb bv) (ht:t<L.n) (hp:(Y.th t).part=0) (he:(Y.th t).ended=0) :
  Calls Tryz.prog 54 #[.pointer (some ⟨L.b,0,none⟩),.int .i64 (t:Int)] w fun e w'=>e = .returned (.tuple #[.agg #[.int .i64 0,.int .i64 0],.int .i64 5])∧Below w.heap.size w w':=by
 have c7':=fun ob=>aX (show w.cell? ⟨L.b,7,none⟩=some (.slice (some ⟨L.g,0,none⟩) L.n L.gc) from h.cS rfl) ob
 have hn:=h.n64
 have cp:=fun ob=>aX (h.ptr t ht) ob
 have t3:=fun ob=>aX (show w.cell? ⟨L.bT t,3,none⟩=some (.int .i64 ((Y.th t).part:Int)) from h.cR ht rfl) ob
 have t1:=fun ob=>aX (show w.cell? ⟨L.bT t,1,none⟩=some (.int .i64 ((Y.th t).ended:Int)) from h.cR ht rfl) ob
 rw [hp] at t3
 rw [he] at t1
 have fG:(0:Int)≤(t:Int):=by omega
 have dD:(t:Int)<(L.n:Int):=by omega
 have iM:¬(L.n:Int)≤(t:Int):=by omega
 clear h
 go_enter Tryz.func54,Tryz.ntmps54
 go_wp2
 exact bodyPost_ret (v:=.tuple #[.agg #[.int .i64 0,.int .i64 0],.int .i64 5]) (by simp [results,Tryz.results54,go_sem]) rfl ⟨rfl,(by repeat (first|exact Below.refl _ _|assumption|refine Below.drewN ?_ _|refine Below.alloc ?_ (by simp) _))⟩
set_option maxRecDepth 20000 in
set_option maxHeartbeats 2000000 in
theorem yH (o:NG L P tell sz HM Au Y w) (h:DR L S Y w bC vo vp vb bv) (ht:t<L.n) (hp:(Y.th t).part=0) (he:(Y.th t).ended≠0) (hc:(Y.th t).ended=cnt Y.bs t) (hb:(Y.th t).ended≤1000000000) :
  Calls Tryz.prog 54 #[.pointer (some ⟨L.b,0,none⟩),.int .i64 (t:Int)] w fun e w'=>e = .returned (.tuple #[.agg #[.int .i64 ((eK P Y Y.order.length).an t).s,.int .i64 ((eK P Y Y.order.length).an t).v],.int .i64 0])∧Below w.heap.size w w':=by
 obtain ⟨a1,l1,c1,PN⟩:=o.vn
 obtain ⟨a2,l2,c2,VY⟩:=o.vo
 obtain ⟨B,hB,hAu⟩:=o.au
 have hn:=h.n64
 have he0:¬((Y.th t).ended:Int)=0:=by omega
 have fG:(0:Int)≤(t:Int):=by omega
 have dD:(t:Int)<(L.n:Int):=by omega
 have iM:¬(L.n:Int)≤(t:Int):=by omega
 have HCT:=aA (show (((Y.bs.flatten.take Y.order.length).count t:Nat):Int)=((Y.th t).ended:Int)-1+1 by rw [gA,List.take_length,hc];unfold cnt;omega)
 have HH:=aA h
 have HD:=aA o.d
 have HO:=aA o
 go_enter Tryz.func54,Tryz.ntmps54
 go_upto_region 1 with fail
 generalize jE:World.alloc w _=W0 at *
 have hb0:Below w.heap.size w W0:=by rw [←jE];exact aB _ _
 have hR0:Row W0 w.heap.size 94 [.int .i64 0,.int .i64 0]:=by rw [←jE];exact Row.new' (by simp)
 have q0:DR L S Y W0 bC vo vp vb bv:=h.stay (fun k hS=>hb0.block k (h.lt k hS)) (fun _ h=>h) (fun k hS=>Nat.lt_of_lt_of_le (h.lt k hS) hb0.size)
 have o0:NG L P tell sz HM Au Y W0:=⟨o.d,o.mem,o.ops,o.all,⟨B,Nat.le_trans hB hb0.size,o.d.au B w W0 hAu (fun k hk=>hb0.block k (by omega))⟩,o.vn,o.vo⟩
 have HRp:=aA (AZ o0.d q0 o0.mem o0.ops o0.all B (Nat.le_trans hB hb0.size) (o.d.au B w W0 hAu (fun k hk=>hb0.block k (by omega))) a1 a2 l1 c1 l2 c2 PN VY (t:Int) (((Y.th t).ended:Int)-1))
 have c7:W0.cell? ⟨L.b,7,none⟩=some (.slice (some ⟨L.g,0,none⟩) L.n L.gc):=q0.cS rfl
 have cp:=q0.ptr t ht
 have t3:W0.cell? ⟨L.bT t,3,none⟩=some (.int .i64 ((Y.th t).part:Int)):=q0.cR ht rfl
 have t1:W0.cell? ⟨L.bT t,1,none⟩=some (.int .i64 ((Y.th t).ended:Int)):=q0.cR ht rfl
 rw [hp] at t3
 have HR0:=aA hR0
 have mL:=aA hb0
 have hz0:w.heap.size<W0.heap.size:=hR0.lt
 clear jE h o q0 o0 hb0 hR0 hc he
 go_wp2_with fail
 refine HRp.out.mono ?_
 rintro e w1 ⟨vh,an,rfl,hM,hfr,dU,AP⟩
 obtain ⟨va,vl,vc,rfl⟩:=HD.out.form _ _ _ hM
 have e9:vM L (.slice va vl vc)=[.int .i64 L.kind,.int .i64 L.st,.int .i64 L.co,.slice a1 l1 c1,.slice a2 l2 c2,.slice va vl vc]:=by unfold vM;rw [PN,VY]
 have hAN:=AP t rfl HCT.out
 subst hAN
 have lC:=HR0.out.old dU
 have y0:=lC.cell_of (i:=0) rfl
 have y1:=lC.cell_of (i:=1) rfl
 have z0:=lC.frozen 0
 have z1:=lC.frozen 1
 have jF:=aA lC
 have jW:=aA (Below.next mL.out dU mL.out.size)
 have hz1:w.heap.size<w1.heap.size:=lC.lt
 rw [e9]
 clear hM hfr dU e9 AP lC
 go_wp2_with fail
 have q2:=(((jF.out.set 0 (.int .i64 ((eK P Y Y.order.length).an t).s)).set 1 (.int .i64 ((eK P Y Y.order.length).an t).v)).alloc (.cells #[.int .i64 L.kind,.int .i64 L.st,.int .i64 L.co,.slice a1 l1 c1,.slice a2 l2 c2,.slice va vl vc] 159)).alloc (.cells #[.int .i64 ((eK P Y Y.order.length).an t).s,.int .i64 ((eK P Y Y.order.length).an t).v] 94)
 have x1:=q2.cell_of (i:=0) rfl
 have x2:=q2.cell_of (i:=1) rfl
 refine bodyPost_ret (v:=.tuple #[.agg #[.int .i64 ((eK P Y Y.order.length).an t).s,.int .i64 ((eK P Y Y.order.length).an t).v],.int .i64 0]) (by simp [results,Tryz.results54,go_sem,x1,x2]) rfl ⟨rfl,?_⟩
 exact (((jW.out.setCell (by simp) _).setCell (by simp) _).alloc (by simp;omega) _).alloc (by simp;omega) _
end
end Go.Proofs.YtefjhnhdagolhaaGreat
