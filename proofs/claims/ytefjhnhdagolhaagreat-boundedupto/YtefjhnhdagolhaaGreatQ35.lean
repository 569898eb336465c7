import Derived.Test.YtefjhnhdagolhaaGreatQ34
import Derived.Test.YtefjhnhdagolhaaGreatQ19
import Derived.Test.YtefjhnhdagolhaaGreatQ07
import Derived.Test.YtefjhnhdagolhaaGreatQ09
set_option maxHeartbeats 8000000
set_option maxRecDepth 20000
namespace Go.Proofs.YtefjhnhdagolhaaGreat
open int list tree
open Go.RowKit
open M (aI aC aD cY aS aK aP bA aQ aL aN)
attribute [local go_sem ↓] Go.wp_at_zero Go.wp_at_succ
def int.numOf:List (Nat×List Nat)→Nat | []=>0|(q,_)::_=>q
theorem int.cP.num {I:Nat→Prop} {w:World} {bs:List (Nat×List Nat)} {b:Nat} (h:cP I w bs b):w.cell? ⟨b,0,none⟩=some (.int .i64 (numOf bs:Int)):=by
 cases bs with
 |nil=>exact h.2.cell_of rfl
 |cons x bs =>
  obtain ⟨v,b',-,h2,-⟩:=h
  exact h2.cell_of rfl
def int.dN:Prop:=∀ {σ:Type} {R:SR σ} {L:Lt} {S:Nat→Prop} {E:aK σ} {w:World} (_h:RE R L S E w) {v f:cY σ} (_hv:E.eX E.prec=some (v,f)) (_hp:E.prec<2*L.n+1) (_hN:E.cZ≤1000000000) (_xU:numOf v.bs.reverse=E.cZ),Calls Tryz.prog 217 #[.pointer (some ⟨L.bS,0,none⟩),.int .i64 ((E.cZ:Int)*129+(E.prec:Int))] w fun e w'=>∃ q0 bB,e = .returned (.agg #[.int .i64 q0,.pointer (some ⟨bB,0,none⟩)])∧R.rep (fun k=>S k∧¬L.own k) w v.st [.int .i64 q0]∧cP (fun k=>S k∧¬L.own k) w v.bs.reverse bB∧Below w.heap.size w w'
def list.dN:Prop:=∀ {σ:Type} {R:SR σ} {L:Lt} {S:Nat→Prop} {E:aK σ} {w:World} (_h:RE R L S E w) {v f:cY σ} (_hv:E.eX E.prec=some (v,f)) (_hp:E.prec<2*L.n+1) (_hN:E.cZ≤1000000000) (_xU:numOf v.bs.reverse=E.cZ),Calls Tryz.prog 276 #[.pointer (some ⟨L.bS,0,none⟩),.int .i64 ((E.cZ:Int)*129+(E.prec:Int))] w fun e w'=>∃ q0 bB,e = .returned (.agg #[.pointer q0,.pointer (some ⟨bB,0,none⟩)])∧R.rep (fun k=>S k∧¬L.own k) w v.st [.pointer q0]∧cP (fun k=>S k∧¬L.own k) w v.bs.reverse bB∧Below w.heap.size w w'
def tree.dN:Prop:=∀ {σ:Type} {R:SR σ} {L:Lt} {S:Nat→Prop} {E:aK σ} {w:World} (_h:RE R L S E w) {v f:cY σ} (_hv:E.eX E.prec=some (v,f)) (_hp:E.prec<2*L.n+1) (_hN:E.cZ≤1000000000) (_xU:numOf v.bs.reverse=E.cZ),Calls Tryz.prog 350 #[.pointer (some ⟨L.bS,0,none⟩),.int .i64 ((E.cZ:Int)*129+(E.prec:Int))] w fun e w'=>∃ q0 bB,e = .returned (.agg #[.pointer q0,.pointer (some ⟨bB,0,none⟩)])∧R.rep (fun k=>S k∧¬L.own k) w v.st [.pointer q0]∧cP (fun k=>S k∧¬L.own k) w v.bs.reverse bB∧Below w.heap.size w w'
theorem mE:int.dN∧list.dN∧tree.dN:=by
 refine ⟨@mkK _ 0 ?_,@mkK _ 1 ?_,@mkK _ 2 ?_⟩<;>intro kk σ R L S E w h v f hv hp hN xV
 all_goals
  first
   |have _:Kn 0:=kk
    obtain ⟨b,cv,cf,NV,-,hrow,sO,hfr⟩:∃ b cv cf,w.cell? ⟨L.bP,E.prec*2+1,none⟩=some (.pointer (some ⟨b,0,none⟩))∧(S b∧¬L.own b)∧Row w b 227 (cv++cf)∧int.aV R (fun k=>S k∧¬L.own k) w v cv∧int.aV R (fun k=>S k∧¬L.own k) w f cf:=by
     obtain ⟨sp,q1,q2⟩:=h.po
     obtain ⟨b,cv,cf,a1,a2,a3,a4,a5⟩:=q2 E.prec hp v f hv
     refine ⟨b,cv,cf,?_,a2,a3,a4,a5⟩
     have:=q1.cell hp (show 1<2 by decide)
     rw [this,a1]
     rfl
   |have _:Kn 1:=kk
    obtain ⟨b,cv,cf,NV,-,hrow,sO,hfr⟩:∃ b cv cf,w.cell? ⟨L.bP,E.prec*2+1,none⟩=some (.pointer (some ⟨b,0,none⟩))∧(S b∧¬L.own b)∧Row w b 241 (cv++cf)∧list.aV R (fun k=>S k∧¬L.own k) w v cv∧list.aV R (fun k=>S k∧¬L.own k) w f cf:=by
     obtain ⟨sp,q1,q2⟩:=h.po
     obtain ⟨b,cv,cf,a1,a2,a3,a4,a5⟩:=q2 E.prec hp v f hv
     refine ⟨b,cv,cf,?_,a2,a3,a4,a5⟩
     have:=q1.cell hp (show 1<2 by decide)
     rw [this,a1]
     rfl
   |have _:Kn 2:=kk
    obtain ⟨b,cv,cf,NV,-,hrow,sO,hfr⟩:∃ b cv cf,w.cell? ⟨L.bP,E.prec*2+1,none⟩=some (.pointer (some ⟨b,0,none⟩))∧(S b∧¬L.own b)∧Row w b 269 (cv++cf)∧tree.aV R (fun k=>S k∧¬L.own k) w v cv∧tree.aV R (fun k=>S k∧¬L.own k) w f cf:=by
     obtain ⟨sp,q1,q2⟩:=h.po
     obtain ⟨b,cv,cf,a1,a2,a3,a4,a5⟩:=q2 E.prec hp v f hv
     refine ⟨b,cv,cf,?_,a2,a3,a4,a5⟩
     have:=q1.cell hp (show 1<2 by decide)
     rw [this,a1]
     rfl
  obtain ⟨sc,bB,rfl,ES,vG⟩:=sO
  obtain ⟨x0,rfl⟩:=pK (R.len ES)
  obtain ⟨q0,rfl⟩:=R.shape ES x0 (by simp)
  obtain ⟨y0,y1,rfl⟩:=aE (aV.len R hfr)
  have hn:=h.ok.n64
  have c4:w.cell? ⟨L.bS,4,none⟩=some (.slice (some ⟨L.bP,0,none⟩) (2*L.n+1) (2*L.n+1)):=h.sh.cell_of rfl
  have cB:=vG.num
  rw [xV] at cB
  have hm:=aA (show (((E.cZ:Int)*129+(E.prec:Int)) % 129=(E.prec:Int))∧(((E.cZ:Int)*129+(E.prec:Int)) / 129=(E.cZ:Int)) by omega)
  have hp':(E.prec:Int)<2*(L.n:Int)+1:=by omega
  have tG:(0:Int)≤(E.prec:Int):=by omega
  have lX:=aA (And.intro ES vG)
  have aBN:=aA hrow
  have HPB:=aA NV
  have HCB:=aA cB
  have HC4:=aA c4
  clear h hv hfr ES vG hrow NV cB c4 xV
  first|(have _:Kn 0:=kk;go_enter Tryz.func217,Tryz.ntmps217)|(have _:Kn 1:=kk;go_enter Tryz.func276,Tryz.ntmps276)|(have _:Kn 2:=kk;go_enter Tryz.func350,Tryz.ntmps350)
  go_wp2
  generalize vT:World.alloc w _=W0
  have hb0:Below w.heap.size w W0:=by rw [←vT];exact aB w _
  have d4:=cell_later hb0 HC4.out
  have HDP:=aA (cell_later hb0 HPB.out)
  have HDR:=aA (aBN.out.old hb0)
  have dB:=cell_later hb0 HCB.out
  first|(have _:Kn 0:=kk;have HZ0:=aA (show Row W0 w.heap.size 225 ([.int .i64 0]++[.pointer none]) by rw [←vT];exact Row.new' rfl))|(have _:Kn 1:=kk;have HZ0:=aA (show Row W0 w.heap.size 239 ([.pointer none]++[.pointer none]) by rw [←vT];exact Row.new' rfl))|(have _:Kn 2:=kk;have HZ0:=aA (show Row W0 w.heap.size 267 ([.pointer none]++[.pointer none]) by rw [←vT];exact Row.new' rfl))
  have jD:=aA hb0
  clear vT hb0
  have A1:=aA (fun n=>Calls.quiet_of_same (n:=n) (rN ((E.cZ:Int)*129+(E.prec:Int)) (W0.drewN n) (by omega) (by omega)))
  rw [hm.out.1] at A1
  first|(have _:Kn 0:=kk;have A2:=aA (fun n=>Calls.quiet_of_same (n:=n) (int.jE L.bP (E.prec*2+1) b _ (W0.drewN n) HDP.out (HDR.out.drewN _) rfl)))|(have _:Kn 1:=kk;have A2:=aA (fun n=>Calls.quiet_of_same (n:=n) (list.jE L.bP (E.prec*2+1) b _ (W0.drewN n) HDP.out (HDR.out.drewN _) rfl)))|(have _:Kn 2:=kk;have A2:=aA (fun n=>Calls.quiet_of_same (n:=n) (tree.jE L.bP (E.prec*2+1) b _ (W0.drewN n) HDP.out (HDR.out.drewN _) rfl)))
  first|(have _:Kn 0:=kk;go_quiet ((first|(go_at_call 223;with_reducible exact A1.out _)|(go_at_call 238;with_reducible exact A2.out _))))|(have _:Kn 1:=kk;go_quiet ((first|(go_at_call 223;with_reducible exact A1.out _)|(go_at_call 285;with_reducible exact A2.out _))))|(have _:Kn 2:=kk;go_quiet ((first|(go_at_call 223;with_reducible exact A1.out _)|(go_at_call 359;with_reducible exact A2.out _))))
  generalize yY:World.drewN W0 nq=W5
  have WJ:=HDR.out.drewN nq
  rw [yY] at WJ
  have TL:=aA WJ
  clear WJ
  have k1:W5.cell? ⟨b,1,none⟩=some (.pointer (some ⟨bB,0,none⟩)):=TL.out.cell_of rfl
  have k2:W5.cell? ⟨bB,0,none⟩=some (.int .i64 (E.cZ:Int)):=by rw [←yY];exact dB
  first|(have _:Kn 0:=kk;have HZ5:=aA (show Row W5 w.heap.size 225 ([.int .i64 0]++[.pointer none]) by rw [←yY];exact HZ0.out))|(have _:Kn 1:=kk;have HZ5:=aA (show Row W5 w.heap.size 239 ([.pointer none]++[.pointer none]) by rw [←yY];exact HZ0.out))|(have _:Kn 2:=kk;have HZ5:=aA (show Row W5 w.heap.size 267 ([.pointer none]++[.pointer none]) by rw [←yY];exact HZ0.out))
  have TT:=aA (show Below w.heap.size w W5 by rw [←yY];exact Below.drewN jD.out _)
  clear yY d4 dB A1 A2
  have A3:=aA (fun n=>Calls.quiet_of_same (n:=n) (rO ((E.cZ:Int)*129+(E.prec:Int)) (W5.drewN n) (by omega) (by omega)))
  rw [hm.out.2] at A3
  go_wp2
  go_quiet ((go_at_call 226;with_reducible exact A3.out _))
  generalize QM:World.drewN W5 nq=W6
  have YO:=TL.out.drewN nq
  rw [QM] at YO
  first|(have _:Kn 0:=kk;have TU:Row W6 w.heap.size 225 ([.int .i64 0]++[.pointer none]):=by rw [←QM];exact HZ5.out)|(have _:Kn 1:=kk;have TU:Row W6 w.heap.size 239 ([.pointer none]++[.pointer none]):=by rw [←QM];exact HZ5.out)|(have _:Kn 2:=kk;have TU:Row W6 w.heap.size 267 ([.pointer none]++[.pointer none]):=by rw [←QM];exact HZ5.out)
  have y0:W6.cell? ⟨b,0,none⟩=some _:=YO.cell_of rfl
  have y1:W6.cell? ⟨b,1,none⟩=some _:=YO.cell_of rfl
  have z0:W6.cell? ⟨w.heap.size,0,none⟩=some _:=TU.cell_of rfl
  have z1:W6.cell? ⟨w.heap.size,1,none⟩=some _:=TU.cell_of rfl
  have zf:=TU.frozen
  have HB6:=aA (show Below w.heap.size w W6 by rw [←QM];exact Below.drewN TT.out _)
  clear QM k1 k2 YO TU A3
  go_wp2
  first|(have _:Kn 0:=kk;refine bodyPost_ret (v:=.agg #[.int .i64 q0,.pointer (some ⟨bB,0,none⟩)]) (by simp [results,Tryz.results217,go_sem, *]) rfl ⟨q0,bB,rfl,lX.out.1,lX.out.2,?_⟩)|(have _:Kn 1:=kk;refine bodyPost_ret (v:=.agg #[.pointer q0,.pointer (some ⟨bB,0,none⟩)]) (by simp [results,Tryz.results276,go_sem, *]) rfl ⟨q0,bB,rfl,lX.out.1,lX.out.2,?_⟩)|(have _:Kn 2:=kk;refine bodyPost_ret (v:=.agg #[.pointer q0,.pointer (some ⟨bB,0,none⟩)]) (by simp [results,Tryz.results350,go_sem, *]) rfl ⟨q0,bB,rfl,lX.out.1,lX.out.2,?_⟩)
  repeat (refine Below.setCell ?_ (by simp) _)
  exact HB6.out
theorem int.jW:dN:=mE.1
theorem list.jW:dN:=mE.2.1
theorem tree.jW:dN:=mE.2.2
theorem row.jW {σ:Type} {R:SR σ} {L:Lt} {S:Nat→Prop} {E:aK σ} {w:World} (h:RE R L S E w) {v f:cY σ} (hv:E.eX E.prec=some (v,f)) (hp:E.prec<2*L.n+1) (hN:E.cZ≤1000000000) (xV:numOf v.bs.reverse=E.cZ) :
  Calls Tryz.prog 313 #[.pointer (some ⟨L.bS,0,none⟩),.int .i64 ((E.cZ:Int)*129+(E.prec:Int))] w fun e w'=>∃ q0 q1 bB,e = .returned (.agg #[.pointer q0,.pointer q1,.pointer (some ⟨bB,0,none⟩)])∧R.rep (fun k=>S k∧¬L.own k) w v.st [.pointer q0,.pointer q1]∧cP (fun k=>S k∧¬L.own k) w v.bs.reverse bB∧Below w.heap.size w w':=by
 obtain ⟨b,cv,cf,NV,-,hrow,sO,hfr⟩:∃ b cv cf,w.cell? ⟨L.bP,E.prec*2+1,none⟩=some (.pointer (some ⟨b,0,none⟩))∧(S b∧¬L.own b)∧Row w b 255 (cv++cf)∧aV R (fun k=>S k∧¬L.own k) w v cv∧aV R (fun k=>S k∧¬L.own k) w f cf:=by
  obtain ⟨sp,q1,q2⟩:=h.po
  obtain ⟨b,cv,cf,a1,a2,a3,a4,a5⟩:=q2 E.prec hp v f hv
  refine ⟨b,cv,cf,?_,a2,a3,a4,a5⟩
  have:=q1.cell hp (show 1<2 by decide)
  rw [this,a1]
  rfl
 obtain ⟨sc,bB,rfl,ES,vG⟩:=sO
 obtain ⟨x0,x1,rfl⟩:=CW (R.len ES)
 obtain ⟨q0,rfl⟩:=R.shape ES x0 (by simp)
 obtain ⟨q1,rfl⟩:=R.shape ES x1 (by simp)
 obtain ⟨y0,y1,y2,rfl⟩:=aE (aV.len R hfr)
 have hn:=h.ok.n64
 have c4:w.cell? ⟨L.bS,4,none⟩=some (.slice (some ⟨L.bP,0,none⟩) (2*L.n+1) (2*L.n+1)):=h.sh.cell_of rfl
 have cB:=vG.num
 rw [xV] at cB
 have hm:=aA (show (((E.cZ:Int)*129+(E.prec:Int)) % 129=(E.prec:Int))∧(((E.cZ:Int)*129+(E.prec:Int)) / 129=(E.cZ:Int)) by omega)
 have hp':(E.prec:Int)<2*(L.n:Int)+1:=by omega
 have tG:(0:Int)≤(E.prec:Int):=by omega
 have lX:=aA (And.intro ES vG)
 have aBN:=aA hrow
 have HPB:=aA NV
 have HCB:=aA cB
 have HC4:=aA c4
 clear h hv hfr ES vG hrow NV cB c4 xV
 go_enter Tryz.func313,Tryz.ntmps313
 go_wp2
 generalize vT:World.alloc w _=W0
 have hb0:Below w.heap.size w W0:=by rw [←vT];exact aB w _
 have d4:=cell_later hb0 HC4.out
 have HDP:=aA (cell_later hb0 HPB.out)
 have HDR:=aA (aBN.out.old hb0)
 have dB:=cell_later hb0 HCB.out
 have HZ0:=aA (show Row W0 w.heap.size 253 ([.pointer none,.pointer none]++[.pointer none]) by rw [←vT];exact Row.new' rfl)
 have jD:=aA hb0
 clear vT hb0
 have A1:=aA (fun n=>Calls.quiet_of_same (n:=n) (rN ((E.cZ:Int)*129+(E.prec:Int)) (W0.drewN n) (by omega) (by omega)))
 rw [hm.out.1] at A1
 have A2:=aA (fun n=>Calls.quiet_of_same (n:=n) (jE L.bP (E.prec*2+1) b _ (W0.drewN n) HDP.out (HDR.out.drewN _) rfl))
 go_quiet ((first|(go_at_call 223;with_reducible exact A1.out _)|(go_at_call 322;with_reducible exact A2.out _)))
 generalize yY:World.drewN W0 nq=W5
 have WJ:=HDR.out.drewN nq
 rw [yY] at WJ
 have TL:=aA WJ
 clear WJ
 have k1:W5.cell? ⟨b,2,none⟩=some (.pointer (some ⟨bB,0,none⟩)):=TL.out.cell_of rfl
 have k2:W5.cell? ⟨bB,0,none⟩=some (.int .i64 (E.cZ:Int)):=by rw [←yY];exact dB
 have HZ5:=aA (show Row W5 w.heap.size 253 ([.pointer none,.pointer none]++[.pointer none]) by rw [←yY];exact HZ0.out)
 have TT:=aA (show Below w.heap.size w W5 by rw [←yY];exact Below.drewN jD.out _)
 clear yY d4 dB A1 A2
 have A3:=aA (fun n=>Calls.quiet_of_same (n:=n) (rO ((E.cZ:Int)*129+(E.prec:Int)) (W5.drewN n) (by omega) (by omega)))
 rw [hm.out.2] at A3
 go_wp2
 go_quiet ((go_at_call 226;with_reducible exact A3.out _))
 generalize QM:World.drewN W5 nq=W6
 have YO:=TL.out.drewN nq
 rw [QM] at YO
 have TU:Row W6 w.heap.size 253 ([.pointer none,.pointer none]++[.pointer none]):=by rw [←QM];exact HZ5.out
 have y0:W6.cell? ⟨b,0,none⟩=some _:=YO.cell_of rfl
 have y1:W6.cell? ⟨b,1,none⟩=some _:=YO.cell_of rfl
 have y2:W6.cell? ⟨b,2,none⟩=some _:=YO.cell_of rfl
 have z0:W6.cell? ⟨w.heap.size,0,none⟩=some _:=TU.cell_of rfl
 have z1:W6.cell? ⟨w.heap.size,1,none⟩=some _:=TU.cell_of rfl
 have z2:W6.cell? ⟨w.heap.size,2,none⟩=some _:=TU.cell_of rfl
 have zf:=TU.frozen
 have HB6:=aA (show Below w.heap.size w W6 by rw [←QM];exact Below.drewN TT.out _)
 clear QM k1 k2 YO TU A3
 go_wp2
 refine bodyPost_ret (v:=.agg #[.pointer q0,.pointer q1,.pointer (some ⟨bB,0,none⟩)]) (by simp [results,Tryz.results313,go_sem, *]) rfl ⟨q0,q1,bB,rfl,lX.out.1,lX.out.2,?_⟩
 repeat (refine Below.setCell ?_ (by simp) _)
 exact HB6.out
def int.jX:Prop:=∀ {σ:Type} {R:SR σ} {L:Lt} {S:Nat→Prop} {E:aK σ} {w:World} (_h:RE R L S E w) {v f:cY σ} (_hv:E.eX E.prec=some (v,f)) (_hp:E.prec<2*L.n+1) (_hN:E.cZ≤1000000000) (_xU:numOf v.bs.reverse=E.cZ),Calls Tryz.prog 202 #[.pointer (some ⟨L.bS,0,none⟩)] w fun e w'=>∃ q0 bB,e = .returned (.agg #[.int .i64 q0,.pointer (some ⟨bB,0,none⟩)])∧R.rep (fun k=>S k∧¬L.own k) w v.st [.int .i64 q0]∧cP (fun k=>S k∧¬L.own k) w v.bs.reverse bB∧Below w.heap.size w w'
def list.jX:Prop:=∀ {σ:Type} {R:SR σ} {L:Lt} {S:Nat→Prop} {E:aK σ} {w:World} (_h:RE R L S E w) {v f:cY σ} (_hv:E.eX E.prec=some (v,f)) (_hp:E.prec<2*L.n+1) (_hN:E.cZ≤1000000000) (_xU:numOf v.bs.reverse=E.cZ),Calls Tryz.prog 261 #[.pointer (some ⟨L.bS,0,none⟩)] w fun e w'=>∃ q0 bB,e = .returned (.agg #[.pointer q0,.pointer (some ⟨bB,0,none⟩)])∧R.rep (fun k=>S k∧¬L.own k) w v.st [.pointer q0]∧cP (fun k=>S k∧¬L.own k) w v.bs.reverse bB∧Below w.heap.size w w'
def tree.jX:Prop:=∀ {σ:Type} {R:SR σ} {L:Lt} {S:Nat→Prop} {E:aK σ} {w:World} (_h:RE R L S E w) {v f:cY σ} (_hv:E.eX E.prec=some (v,f)) (_hp:E.prec<2*L.n+1) (_hN:E.cZ≤1000000000) (_xU:numOf v.bs.reverse=E.cZ),Calls Tryz.prog 335 #[.pointer (some ⟨L.bS,0,none⟩)] w fun e w'=>∃ q0 bB,e = .returned (.agg #[.pointer q0,.pointer (some ⟨bB,0,none⟩)])∧R.rep (fun k=>S k∧¬L.own k) w v.st [.pointer q0]∧cP (fun k=>S k∧¬L.own k) w v.bs.reverse bB∧Below w.heap.size w w'
theorem wC:int.jX∧list.jX∧tree.jX:=by
 refine ⟨@mkK _ 0 ?_,@mkK _ 1 ?_,@mkK _ 2 ?_⟩<;>intro kk σ R L S E w h v f hv hp hN xV
 all_goals
  have c5:w.cell? ⟨L.bS,5,none⟩=some (.int .i64 ((E.cZ:Int)*129+(E.prec:Int))):=h.sh.cell_of rfl
  have HH:=aA h
  have HC5:=aA c5
  have HV:=aA (And.intro hv xV)
  clear h c5 hv xV
  first|(have _:Kn 0:=kk;go_enter Tryz.func202,Tryz.ntmps202)|(have _:Kn 1:=kk;go_enter Tryz.func261,Tryz.ntmps261)|(have _:Kn 2:=kk;go_enter Tryz.func335,Tryz.ntmps335)
  go_wp2_with fail
  refine (uL L.bS 5 _ _ (dM HC5.out _)).mono ?_
  rintro e w1 ⟨rfl,rfl⟩
  go_wp2_with fail
  refine (jW (S:=S) (HH.out.stay (fun k hk=>(aB w _).block k (HH.out.lt k hk)) (fun _ hk=>hk) (fun k hk=>Nat.lt_of_lt_of_le (HH.out.lt k hk) (by simp))) HV.out.1 hp hN HV.out.2).mono ?_
  rintro e w2 ⟨q0,bB,rfl,FH,vQ,aZ⟩
  first|(have _:Kn 0:=kk;have hZ:Row w2 w.heap.size 225 ([.int .i64 0]++[.pointer none]):=(Row.new' rfl).old aZ)|(have _:Kn 1:=kk;have hZ:Row w2 w.heap.size 239 ([.pointer none]++[.pointer none]):=(Row.new' rfl).old aZ)|(have _:Kn 2:=kk;have hZ:Row w2 w.heap.size 267 ([.pointer none]++[.pointer none]):=(Row.new' rfl).old aZ)
  have HB:=aA (Below.next (aB w _) aZ (by simp))
  first|(have _:Kn 0:=kk;have lX:=aA (And.intro (R.stay (fun k hk _=>⟨hk,((aB w _).block k (HH.out.lt k hk.1)).symm⟩) FH) (int.cP.stay (fun k hk _=>⟨hk,((aB w _).block k (HH.out.lt k hk.1)).symm⟩) (fun k hk=>Nat.lt_of_lt_of_le (HH.out.lt k hk.1) (by simp)) _ _ vQ)))|(have _:Kn 1:=kk;have lX:=aA (And.intro (R.stay (fun k hk _=>⟨hk,((aB w _).block k (HH.out.lt k hk.1)).symm⟩) FH) (list.cP.stay (fun k hk _=>⟨hk,((aB w _).block k (HH.out.lt k hk.1)).symm⟩) (fun k hk=>Nat.lt_of_lt_of_le (HH.out.lt k hk.1) (by simp)) _ _ vQ)))|(have _:Kn 2:=kk;have lX:=aA (And.intro (R.stay (fun k hk _=>⟨hk,((aB w _).block k (HH.out.lt k hk.1)).symm⟩) FH) (tree.cP.stay (fun k hk _=>⟨hk,((aB w _).block k (HH.out.lt k hk.1)).symm⟩) (fun k hk=>Nat.lt_of_lt_of_le (HH.out.lt k hk.1) (by simp)) _ _ vQ)))
  have z0:w2.cell? ⟨w.heap.size,0,none⟩=some _:=hZ.cell_of rfl
  have z1:w2.cell? ⟨w.heap.size,1,none⟩=some _:=hZ.cell_of rfl
  have zf:=hZ.frozen
  clear hZ aZ FH vQ
  go_wp2
  first|(have _:Kn 0:=kk;refine bodyPost_ret (v:=.agg #[.int .i64 q0,.pointer (some ⟨bB,0,none⟩)]) (by simp [results,Tryz.results202,go_sem, *]) rfl ⟨q0,bB,rfl,lX.out.1,lX.out.2,?_⟩)|(have _:Kn 1:=kk;refine bodyPost_ret (v:=.agg #[.pointer q0,.pointer (some ⟨bB,0,none⟩)]) (by simp [results,Tryz.results261,go_sem, *]) rfl ⟨q0,bB,rfl,lX.out.1,lX.out.2,?_⟩)|(have _:Kn 2:=kk;refine bodyPost_ret (v:=.agg #[.pointer q0,.pointer (some ⟨bB,0,none⟩)]) (by simp [results,Tryz.results335,go_sem, *]) rfl ⟨q0,bB,rfl,lX.out.1,lX.out.2,?_⟩)
  repeat (refine Below.setCell ?_ (by simp) _)
  exact HB.out
theorem int.pO:jX:=wC.1
theorem list.pO:jX:=wC.2.1
theorem tree.pO:jX:=wC.2.2
theorem row.pO {σ:Type} {R:SR σ} {L:Lt} {S:Nat→Prop} {E:aK σ} {w:World} (h:RE R L S E w) {v f:cY σ} (hv:E.eX E.prec=some (v,f)) (hp:E.prec<2*L.n+1) (hN:E.cZ≤1000000000) (xV:numOf v.bs.reverse=E.cZ) :
  Calls Tryz.prog 298 #[.pointer (some ⟨L.bS,0,none⟩)] w fun e w'=>∃ q0 q1 bB,e = .returned (.agg #[.pointer q0,.pointer q1,.pointer (some ⟨bB,0,none⟩)])∧R.rep (fun k=>S k∧¬L.own k) w v.st [.pointer q0,.pointer q1]∧cP (fun k=>S k∧¬L.own k) w v.bs.reverse bB∧Below w.heap.size w w':=by
 have c5:w.cell? ⟨L.bS,5,none⟩=some (.int .i64 ((E.cZ:Int)*129+(E.prec:Int))):=h.sh.cell_of rfl
 have HH:=aA h
 have HC5:=aA c5
 have HV:=aA (And.intro hv xV)
 clear h c5 hv xV
 go_enter Tryz.func298,Tryz.ntmps298
 go_wp2_with fail
 refine (uL L.bS 5 _ _ (dM HC5.out _)).mono ?_
 rintro e w1 ⟨rfl,rfl⟩
 go_wp2_with fail
 refine (jW (S:=S) (HH.out.stay (fun k hk=>(aB w _).block k (HH.out.lt k hk)) (fun _ hk=>hk) (fun k hk=>Nat.lt_of_lt_of_le (HH.out.lt k hk) (by simp))) HV.out.1 hp hN HV.out.2).mono ?_
 rintro e w2 ⟨q0,q1,bB,rfl,FH,vQ,aZ⟩
 have hZ:Row w2 w.heap.size 253 ([.pointer none,.pointer none]++[.pointer none]):=(Row.new' rfl).old aZ
 have HB:=aA (Below.next (aB w _) aZ (by simp))
 have lX:=aA (And.intro (R.stay (fun k hk _=>⟨hk,((aB w _).block k (HH.out.lt k hk.1)).symm⟩) FH) (cP.stay (fun k hk _=>⟨hk,((aB w _).block k (HH.out.lt k hk.1)).symm⟩) (fun k hk=>Nat.lt_of_lt_of_le (HH.out.lt k hk.1) (by simp)) _ _ vQ))
 have z0:w2.cell? ⟨w.heap.size,0,none⟩=some _:=hZ.cell_of rfl
 have z1:w2.cell? ⟨w.heap.size,1,none⟩=some _:=hZ.cell_of rfl
 have z2:w2.cell? ⟨w.heap.size,2,none⟩=some _:=hZ.cell_of rfl
 have zf:=hZ.frozen
 clear hZ aZ FH vQ
 go_wp2
 refine bodyPost_ret (v:=.agg #[.pointer q0,.pointer q1,.pointer (some ⟨bB,0,none⟩)]) (by simp [results,Tryz.results298,go_sem, *]) rfl ⟨q0,q1,bB,rfl,lX.out.1,lX.out.2,?_⟩
 repeat (refine Below.setCell ?_ (by simp) _)
 exact HB.out
end Go.Proofs.YtefjhnhdagolhaaGreat
namespace Go.Proofs.YtefjhnhdagolhaaGreat
open int list tree
open Go.RowKit
open M (aI aC aD cY aS aK aP bA aQ aL aN)
theorem int.dO {w:World} {b:Nat} {t:TypeId} {m:Nat} (h:Row w b t (zeros (.int .i64 0) m)):Fn w b t m (fun _=>.int .i64 0):=by
 have e:zeros (.int .i64 0) m=(List.range m).map (fun _=>Value.int .i64 0):=by
  apply List.ext_getElem
  ·simp [zeros]
  ·intro i h1 h2;simp [zeros]
 unfold Fn
 rw [←e]
 exact h
def int.jY:Prop:=∀ {w:World} {g:Nat} {e:TypeId} {cur:Array Value} {m c:Nat} (_h:w.heap[g]?=some (.cells cur e (0,0))) (_hs:cur.size=m*c),vV w g e m c (fun i j=>(cur.toList[i*c+j]?).getD (.int .i64 0))
def list.jY:Prop:=∀ {w:World} {g:Nat} {e:TypeId} {cur:Array Value} {m c:Nat} (_h:w.heap[g]?=some (.cells cur e (0,0))) (_hs:cur.size=m*c),vV w g e m c (fun i j=>(cur.toList[i*c+j]?).getD (.int .i64 0))
def tree.jY:Prop:=∀ {w:World} {g:Nat} {e:TypeId} {cur:Array Value} {m c:Nat} (_h:w.heap[g]?=some (.cells cur e (0,0))) (_hs:cur.size=m*c),vV w g e m c (fun i j=>(cur.toList[i*c+j]?).getD (.int .i64 0))
def row.jY:Prop:=∀ {w:World} {g:Nat} {e:TypeId} {cur:Array Value} {m c:Nat} (_h:w.heap[g]?=some (.cells cur e (0,0))) (_hs:cur.size=m*c),vV w g e m c (fun i j=>(cur.toList[i*c+j]?).getD (.int .i64 0))
open row in
theorem xW:int.jY∧list.jY∧tree.jY∧row.jY:=by
 refine ⟨?_,?_,?_,?_⟩<;>intro w g e cur m c h hs
 all_goals
  have q:cur.toList=(List.range (m*c)).map (fun k=>(fun i j=>(cur.toList[i*c+j]?).getD (Value.int .i64 0)) (k / c) (k % c)):=by
   apply List.ext_getElem
   ·simp [hs]
   ·intro i h1 h2
    have:i / c*c+i % c=i:=Nat.div_add_mod' i c
    simp only [List.getElem_map,List.getElem_range,this]
    rw [List.getElem?_eq_getElem h1]
    rfl
  unfold vV Fn Row
  rw [←q]
  simpa using h
theorem int.wD:jY:=xW.1
theorem list.wD:jY:=xW.2.1
theorem tree.wD:jY:=xW.2.2.1
theorem row.wD:jY:=xW.2.2.2
theorem int.AZ {w:World} {b e rw n bE:Nat} {bW:Nat→Nat} (h:Row w b e ((eY (2*n+1) rw (2*n+1) bW).set 1 (.pointer (some ⟨bE,0,none⟩)))) :
  vV w b e (2*n+1) 2 (fun r j=>if j=0 then .slice (some ⟨bW r,0,none⟩) rw rw else .pointer ((if r=0 then some bE else none).map fun b=>⟨b,0,none⟩)):=by
 have q:(eY (2*n+1) rw (2*n+1) bW).set 1 (.pointer (some ⟨bE,0,none⟩))=(List.range ((2*n+1)*2)).map (fun k=>(fun (r j:Nat)=>if j=0 then Value.slice (some ⟨bW r,0,none⟩) rw rw else .pointer ((if r=0 then some bE else none).map fun b=>⟨b,0,none⟩)) (k / 2) (k % 2)):=by
  apply List.ext_getElem
  ·simp [qY];omega
  ·intro i h1 h2
   have hi:i<(2*n+1)*2:=by simpa using h2
   rw [List.getElem_set]
   simp only [List.getElem_map,List.getElem_range,eY]
   by_cases c1:1=i
   ·subst c1;simp
   ·rw [if_neg c1]
    by_cases c2:i % 2=0
    ·rw [if_pos c2,if_pos c2,if_pos (by omega)]
    ·rw [if_neg c2,if_neg c2,if_neg (by omega)]
     rfl
 unfold vV Fn
 rw [←q]
 exact h
theorem int.jZ {σ:Type} {P:M.Plain σ} (L:Lt) (t:Nat) (f:cY σ):aO L t ((M.E0 P f).th t) ([.int .i64 0]++[.pointer none]) ([.int .i64 0]++[.pointer none]) (.slice none 0 0)=aW L.bS (t:Int) (L.cap:Int) (L.gD t) (eC L.n) (L.gG t) (tw L.n):=by
 simp [aO,aW,M.E0,eC,aQ,M.tw,tw]
theorem list.jZ {σ:Type} {P:M.Plain σ} (L:Lt) (t:Nat) (f:cY σ):aO L t ((M.E0 P f).th t) ([.pointer none]++[.pointer none]) ([.pointer none]++[.pointer none]) (.slice none 0 0)=aW L.bS (t:Int) (L.cap:Int) (L.gD t) (eC L.n) (L.gG t) (tw L.n):=by
 simp [aO,aW,M.E0,eC,aQ,M.tw,tw]
theorem tree.jZ {σ:Type} {P:M.Plain σ} (L:Lt) (t:Nat) (f:cY σ):aO L t ((M.E0 P f).th t) ([.pointer none]++[.pointer none]) ([.pointer none]++[.pointer none]) (.slice none 0 0)=aW L.bS (t:Int) (L.cap:Int) (L.gD t) (eC L.n) (L.gG t) (tw L.n):=by
 simp [aO,aW,M.E0,eC,aQ,M.tw,tw]
theorem row.jZ {σ:Type} {P:M.Plain σ} (L:Lt) (t:Nat) (f:cY σ):aO L t ((M.E0 P f).th t) ([.pointer none,.pointer none]++[.pointer none]) ([.pointer none,.pointer none]++[.pointer none]) (.slice none 0 0)=aW L.bS (t:Int) (L.cap:Int) (L.gD t) (eC L.n) (L.gG t) (tw L.n):=by
 simp [aO,aW,M.E0,eC,aQ,M.tw,tw]
def int.RE.pP:Prop:=∀ {σ:Type} {R:SR σ} {P:M.Plain σ} {w0 w:World} {x:Nat} {xl:List Value} (_hx:Row w x 74 xl) {n cap:Nat} {oT:TypeId} {ov:Value} {b:Nat} (_h:bH w0 n (cap:Int) oT ov b w) (_hn:1≤n) (_OG:n≤64) (_hc:cap≤64) {G:Nat→Prop} (_hGl:∀ k,G k→k<w0.heap.size) (_hz:∀ I:Nat→Prop,(∀ k,G k→I k)→R.rep I w P.first [.int .i64 0]),∃ L:Lt,L.n=n∧L.cap=cap∧L.oT=oT∧L.ov=ov∧L.bE=b∧RE R L (fun k=>((w0.heap.size≤k∧k<w.heap.size)∧k≠x)∨G k) (M.E0 P ⟨P.first,[]⟩) w
def list.RE.pP:Prop:=∀ {σ:Type} {R:SR σ} {P:M.Plain σ} {w0 w:World} {x:Nat} {xl:List Value} (_hx:Row w x 74 xl) {n cap:Nat} {oT:TypeId} {ov:Value} {b:Nat} (_h:bH w0 n (cap:Int) oT ov b w) (_hn:1≤n) (_OG:n≤64) (_hc:cap≤64) {G:Nat→Prop} (_hGl:∀ k,G k→k<w0.heap.size) (_hz:∀ I:Nat→Prop,(∀ k,G k→I k)→R.rep I w P.first [.pointer none]),∃ L:Lt,L.n=n∧L.cap=cap∧L.oT=oT∧L.ov=ov∧L.bE=b∧RE R L (fun k=>((w0.heap.size≤k∧k<w.heap.size)∧k≠x)∨G k) (M.E0 P ⟨P.first,[]⟩) w
def tree.RE.pP:Prop:=∀ {σ:Type} {R:SR σ} {P:M.Plain σ} {w0 w:World} {x:Nat} {xl:List Value} (_hx:Row w x 74 xl) {n cap:Nat} {oT:TypeId} {ov:Value} {b:Nat} (_h:bH w0 n (cap:Int) oT ov b w) (_hn:1≤n) (_OG:n≤64) (_hc:cap≤64) {G:Nat→Prop} (_hGl:∀ k,G k→k<w0.heap.size) (_hz:∀ I:Nat→Prop,(∀ k,G k→I k)→R.rep I w P.first [.pointer none]),∃ L:Lt,L.n=n∧L.cap=cap∧L.oT=oT∧L.ov=ov∧L.bE=b∧RE R L (fun k=>((w0.heap.size≤k∧k<w.heap.size)∧k≠x)∨G k) (M.E0 P ⟨P.first,[]⟩) w
def row.RE.pP:Prop:=∀ {σ:Type} {R:SR σ} {P:M.Plain σ} {w0 w:World} {x:Nat} {xl:List Value} (_hx:Row w x 74 xl) {n cap:Nat} {oT:TypeId} {ov:Value} {b:Nat} (_h:bH w0 n (cap:Int) oT ov b w) (_hn:1≤n) (_OG:n≤64) (_hc:cap≤64) {G:Nat→Prop} (_hGl:∀ k,G k→k<w0.heap.size) (_hz:∀ I:Nat→Prop,(∀ k,G k→I k)→R.rep I w P.first [.pointer none,.pointer none]),∃ L:Lt,L.n=n∧L.cap=cap∧L.oT=oT∧L.ov=ov∧L.bE=b∧RE R L (fun k=>((w0.heap.size≤k∧k<w.heap.size)∧k≠x)∨G k) (M.E0 P ⟨P.first,[]⟩) w
open row in
theorem vH:int.RE.pP∧list.RE.pP∧tree.RE.pP∧row.RE.pP:=by
 refine ⟨@mkK _ 0 ?_,@mkK _ 1 ?_,@mkK _ 2 ?_,@mkK _ 3 ?_⟩<;>intro kk σ R P w0 w x xl hx n cap oT ov b h hn lG hc G SI hz
 all_goals
  obtain ⟨W1,bS,aY,aX,bP,bW,bB,bE,v,gD,gG,rfl,h2,h3,h4⟩:=h
  obtain ⟨hE,hO,hG,hD,hB⟩:=h4
  have hz0:=h3.size
  have hz1:=hB.size
  obtain ⟨hl,⟨rfl,hn0⟩|⟨g,gc,cur,rfl,hgb,hg,hnc,hcm,hcs,htk⟩⟩:=hO
  ·omega
  ·have lS:=h2.1.lt
   have h2':=h2.later hB
   obtain ⟨a1,a2,a3,a4,a5,a6,a7,a8,z1,z2,z3,z4,z5,z6,z7,z8,z9,z10⟩:=h2'
   have lB:bB<W1.heap.size:=h2.2.2.2.2.2.2.1.lt
   have lE:bE<W1.heap.size:=h2.2.2.2.2.2.2.2.1.lt
   have lg:g<w.heap.size:=by have:=Array.getElem?_eq_some_iff.mp hg;exact this.1
   obtain ⟨-,y1,y2⟩:=a5 0 (by omega)
   let L:Lt:={n:=n,cap:=cap,oT:=oT,ov:=ov,bE:=W1.heap.size,bS:=bS,aY:=aY,aX:=aX,bP:=bP,bW:=bW,g:=g,gc:=gc,gD:=gD,gG:=gG}
   have hown:∀ k,L.own k→w0.heap.size≤k∧k<w.heap.size∧k≠W1.heap.size∧k≠bB∧k≠bE:=by
    rintro k (q|q|q|q|⟨r,hr,q⟩|q|⟨t,ht,q|q⟩)
    ·have q:k=bS:=q;omega
    ·have q:k=aY:=q;omega
    ·have q:k=aX:=q;omega
    ·have q:k=bP:=q;omega
    ·have:=(a5 r hr).2
     have q:k=bW r:=q;omega
    ·have q:k=g:=q;omega
    ·obtain ⟨r1,r2,r3,r4,-⟩:=hG t ht
     have:=r1.lt
     have q:k=gD t:=q;omega
    ·obtain ⟨r1,r2,r3,r4,-⟩:=hG t ht
     have:=r2.lt
     have q:k=gG t:=q;omega
   have QN:∀ k,L.own k→k≠x:=by
    rintro k (q|q|q|q|⟨r,hr,q⟩|q|⟨t,ht,q|q⟩)
    ·have q:k=bS:=q;subst q;exact Row.apart a1 hx (by decide)
    ·have q:k=aY:=q;subst q;exact Row.apart a2 hx (by decide)
    ·have q:k=aX:=q;subst q;exact Row.apart a3 hx (by decide)
    ·have q:k=bP:=q;subst q;exact Row.apart a4 hx (by decide)
    ·have q:k=bW r:=q;subst q;exact Row.apart (a5 r hr).1 hx (by decide)
    ·have q:k=g:=q;subst q;exact Row.apart (show Row w k _ cur.toList by simpa [Row] using hg) hx (by decide)
    ·have q:k=gD t:=q;subst q;exact Row.apart (hG t ht).1 hx (by decide)
    ·have q:k=gG t:=q;subst q;exact Row.apart (hG t ht).2.1 hx (by decide)
   have iB:(((w0.heap.size≤bB∧bB<w.heap.size)∧bB≠x)∨G bB)∧¬L.own bB:=⟨.inl ⟨by omega,Row.apart a7 hx (by decide)⟩,fun c=>(hown _ c).2.2.2.1 rfl⟩
   have iE:(((w0.heap.size≤bE∧bE<w.heap.size)∧bE≠x)∨G bE)∧¬L.own bE:=⟨.inl ⟨by omega,Row.apart a8 hx (by decide)⟩,fun c=>(hown _ c).2.2.2.2 rfl⟩
   first|(have _:Kn 0:=kk;have TV:Row w bS 296 [.int .i64 (n:Int),.iface oT ov,.slice (some ⟨aY,0,none⟩) (tw n) (tw n),.slice (some ⟨aX,0,none⟩) n n,.slice (some ⟨bP,0,none⟩) (2*n+1) (2*n+1),.int .i64 (((0:Nat):Int)*129+((0:Nat):Int))]:=by simpa using a1)|(have _:Kn 1:=kk;have TV:Row w bS 310 [.int .i64 (n:Int),.iface oT ov,.slice (some ⟨aY,0,none⟩) (tw n) (tw n),.slice (some ⟨aX,0,none⟩) n n,.slice (some ⟨bP,0,none⟩) (2*n+1) (2*n+1),.int .i64 (((0:Nat):Int)*129+((0:Nat):Int))]:=by simpa using a1)|(have _:Kn 2:=kk;have TV:Row w bS 336 [.int .i64 (n:Int),.iface oT ov,.slice (some ⟨aY,0,none⟩) (tw n) (tw n),.slice (some ⟨aX,0,none⟩) n n,.slice (some ⟨bP,0,none⟩) (2*n+1) (2*n+1),.int .i64 (((0:Nat):Int)*129+((0:Nat):Int))]:=by simpa using a1)|(have _:Kn 3:=kk;have TV:Row w bS 323 [.int .i64 (n:Int),.iface oT ov,.slice (some ⟨aY,0,none⟩) (tw n) (tw n),.slice (some ⟨aX,0,none⟩) n n,.slice (some ⟨bP,0,none⟩) (2*n+1) (2*n+1),.int .i64 (((0:Nat):Int)*129+((0:Nat):Int))]:=by simpa using a1)
   first|(have _:Kn 0:=kk;have a8':Row w bE 227 (([.int .i64 0]++[.pointer (some ⟨bB,0,none⟩)])++([.int .i64 0]++[.pointer (some ⟨bB,0,none⟩)])):=by simpa [int.jG] using a8)|(have _:Kn 1:=kk;have a8':Row w bE 241 (([.pointer none]++[.pointer (some ⟨bB,0,none⟩)])++([.pointer none]++[.pointer (some ⟨bB,0,none⟩)])):=by simpa [list.jG] using a8)|(have _:Kn 2:=kk;have a8':Row w bE 269 (([.pointer none]++[.pointer (some ⟨bB,0,none⟩)])++([.pointer none]++[.pointer (some ⟨bB,0,none⟩)])):=by simpa [tree.jG] using a8)|(have _:Kn 3:=kk;have a8':Row w bE 255 (([.pointer none,.pointer none]++[.pointer (some ⟨bB,0,none⟩)])++([.pointer none,.pointer none]++[.pointer (some ⟨bB,0,none⟩)])):=by simpa [row.jG] using a8)
   first|(have _:Kn 0:=kk;have hV:int.aV R (fun k=>(((w0.heap.size≤k∧k<w.heap.size)∧k≠x)∨G k)∧¬L.own k) w (⟨P.first,[]⟩:cY σ) ([.int .i64 0]++[.pointer (some ⟨bB,0,none⟩)]):=⟨[.int .i64 0],bB,rfl,hz _ (fun k hk=>⟨.inr hk,fun c=>by have:=(hown k c).1;have:=SI k hk;omega⟩),iB,a7⟩)|(have _:Kn 1:=kk;have hV:list.aV R (fun k=>(((w0.heap.size≤k∧k<w.heap.size)∧k≠x)∨G k)∧¬L.own k) w (⟨P.first,[]⟩:cY σ) ([.pointer none]++[.pointer (some ⟨bB,0,none⟩)]):=⟨[.pointer none],bB,rfl,hz _ (fun k hk=>⟨.inr hk,fun c=>by have:=(hown k c).1;have:=SI k hk;omega⟩),iB,a7⟩)|(have _:Kn 2:=kk;have hV:tree.aV R (fun k=>(((w0.heap.size≤k∧k<w.heap.size)∧k≠x)∨G k)∧¬L.own k) w (⟨P.first,[]⟩:cY σ) ([.pointer none]++[.pointer (some ⟨bB,0,none⟩)]):=⟨[.pointer none],bB,rfl,hz _ (fun k hk=>⟨.inr hk,fun c=>by have:=(hown k c).1;have:=SI k hk;omega⟩),iB,a7⟩)|(have _:Kn 3:=kk;have hV:row.aV R (fun k=>(((w0.heap.size≤k∧k<w.heap.size)∧k≠x)∨G k)∧¬L.own k) w (⟨P.first,[]⟩:cY σ) ([.pointer none,.pointer none]++[.pointer (some ⟨bB,0,none⟩)]):=⟨[.pointer none,.pointer none],bB,rfl,hz _ (fun k hk=>⟨.inr hk,fun c=>by have:=(hown k c).1;have:=SI k hk;omega⟩),iB,a7⟩)
   first|(have _:Kn 0:=kk;refine ⟨L,rfl,rfl,rfl,rfl,rfl,{ok:=?ok,oQ:=hE,pU:=⟨.inl ⟨⟨hz0,hE.lt⟩,Row.apart hE hx (by decide)⟩,fun c=>(hown _ c).2.2.1 rfl⟩,sh:=TV,tg:=dO a2,an:=dO a3,po:=⟨_,AZ a4,?ed⟩,rw:=fun r hr=>dO (a5 r hr).1,th:=⟨_,int.wD hg hcs,?th⟩,gd:=fun t ht=>dO (hG t ht).1,gg:=fun t ht=>dO (hG t ht).2.1,ow:=fun k hk=>.inl ⟨⟨(hown k hk).1,(hown k hk).2.1⟩,QN k hk⟩,lt:=?lt}⟩)|(have _:Kn 1:=kk;refine ⟨L,rfl,rfl,rfl,rfl,rfl,{ok:=?ok,oQ:=hE,pU:=⟨.inl ⟨⟨hz0,hE.lt⟩,Row.apart hE hx (by decide)⟩,fun c=>(hown _ c).2.2.1 rfl⟩,sh:=TV,tg:=dO a2,an:=dO a3,po:=⟨_,AZ a4,?ed⟩,rw:=fun r hr=>dO (a5 r hr).1,th:=⟨_,list.wD hg hcs,?th⟩,gd:=fun t ht=>dO (hG t ht).1,gg:=fun t ht=>dO (hG t ht).2.1,ow:=fun k hk=>.inl ⟨⟨(hown k hk).1,(hown k hk).2.1⟩,QN k hk⟩,lt:=?lt}⟩)|(have _:Kn 2:=kk;refine ⟨L,rfl,rfl,rfl,rfl,rfl,{ok:=?ok,oQ:=hE,pU:=⟨.inl ⟨⟨hz0,hE.lt⟩,Row.apart hE hx (by decide)⟩,fun c=>(hown _ c).2.2.1 rfl⟩,sh:=TV,tg:=dO a2,an:=dO a3,po:=⟨_,AZ a4,?ed⟩,rw:=fun r hr=>dO (a5 r hr).1,th:=⟨_,tree.wD hg hcs,?th⟩,gd:=fun t ht=>dO (hG t ht).1,gg:=fun t ht=>dO (hG t ht).2.1,ow:=fun k hk=>.inl ⟨⟨(hown k hk).1,(hown k hk).2.1⟩,QN k hk⟩,lt:=?lt}⟩)|(have _:Kn 3:=kk;refine ⟨L,rfl,rfl,rfl,rfl,rfl,{ok:=?ok,oQ:=hE,pU:=⟨.inl ⟨⟨hz0,hE.lt⟩,Row.apart hE hx (by decide)⟩,fun c=>(hown _ c).2.2.1 rfl⟩,sh:=TV,tg:=dO a2,an:=dO a3,po:=⟨_,AZ a4,?ed⟩,rw:=fun r hr=>dO (a5 r hr).1,th:=⟨_,row.wD hg hcs,?th⟩,gd:=fun t ht=>dO (hG t ht).1,gg:=fun t ht=>dO (hG t ht).2.1,ow:=fun k hk=>.inl ⟨⟨(hown k hk).1,(hown k hk).2.1⟩,QN k hk⟩,lt:=?lt}⟩)
   case lt =>
    rintro k (hk|hk)
    ·exact hk.1.2
    ·have:=SI k hk;omega
   case ok =>
    have hlt:∀ r s,r<2*n+1→s<2*n+1→bW r=bW s→r=s:=by
     intro r s hr hs q
     rcases Nat.lt_trichotomy r s with c|c|c
     ·have:=a6 r s c hs;omega
     ·exact c
     ·have:=a6 s r c hr;omega
    refine {n1:=hn,n64:=lG,VQ:=hc,gn:=hnc,tw:=fun r hr=>?_,ww:=hlt,dg:=fun t u ht hu=>?_,dd:=fun t u ht hu q=>?_,gg:=fun t u ht hu q=>?_}
    ·have:=(a5 r hr).2.1
     show aY≠bW r
     omega
    ·show gD t≠gG u
     rcases Nat.lt_trichotomy t u with c|c|c
     ·exact (hD t u c hu).2.1
     ·subst c;exact (hG t ht).2.2.2.2.2.2
     ·exact Ne.symm (hD u t c ht).2.2.1
    ·rcases Nat.lt_trichotomy t u with c|c|c
     ·exact absurd q (hD t u c hu).1
     ·exact c
     ·exact absurd q.symm (hD u t c ht).1
    ·rcases Nat.lt_trichotomy t u with c|c|c
     ·exact absurd q (hD t u c hu).2.2.2
     ·exact c
     ·exact absurd q.symm (hD u t c ht).2.2.2
   case ed =>
    intro r hr v' f' hq
    by_cases c:r=0
    ·subst c
     simp only [M.E0,if_true,Option.some.injEq,Prod.mk.injEq] at hq
     obtain ⟨rfl,rfl⟩:=hq
     first|(have _:Kn 0:=kk;exact ⟨bE,[.int .i64 0]++[.pointer (some ⟨bB,0,none⟩)],[.int .i64 0]++[.pointer (some ⟨bB,0,none⟩)],by simp,iE,a8',hV,hV⟩)|(have _:Kn 1:=kk;exact ⟨bE,[.pointer none]++[.pointer (some ⟨bB,0,none⟩)],[.pointer none]++[.pointer (some ⟨bB,0,none⟩)],by simp,iE,a8',hV,hV⟩)|(have _:Kn 2:=kk;exact ⟨bE,[.pointer none]++[.pointer (some ⟨bB,0,none⟩)],[.pointer none]++[.pointer (some ⟨bB,0,none⟩)],by simp,iE,a8',hV,hV⟩)|(have _:Kn 3:=kk;exact ⟨bE,[.pointer none,.pointer none]++[.pointer (some ⟨bB,0,none⟩)],[.pointer none,.pointer none]++[.pointer (some ⟨bB,0,none⟩)],by simp,iE,a8',hV,hV⟩)
    ·simp [M.E0,c] at hq
   case th =>
    intro t ht
    first|(have _:Kn 0:=kk;refine ⟨[.int .i64 0]++[.pointer none],[.int .i64 0]++[.pointer none],.slice none 0 0,?_,⟨rfl,fun u hu=>nomatch hu⟩,⟨rfl,fun u hu=>nomatch hu⟩,.inl ⟨rfl,rfl⟩⟩)|(have _:Kn 1:=kk;refine ⟨[.pointer none]++[.pointer none],[.pointer none]++[.pointer none],.slice none 0 0,?_,⟨rfl,fun u hu=>nomatch hu⟩,⟨rfl,fun u hu=>nomatch hu⟩,.inl ⟨rfl,rfl⟩⟩)|(have _:Kn 2:=kk;refine ⟨[.pointer none]++[.pointer none],[.pointer none]++[.pointer none],.slice none 0 0,?_,⟨rfl,fun u hu=>nomatch hu⟩,⟨rfl,fun u hu=>nomatch hu⟩,.inl ⟨rfl,rfl⟩⟩)|(have _:Kn 3:=kk;refine ⟨[.pointer none,.pointer none]++[.pointer none],[.pointer none,.pointer none]++[.pointer none],.slice none 0 0,?_,⟨rfl,fun u hu=>nomatch hu⟩,⟨rfl,fun u hu=>nomatch hu⟩,.inl ⟨rfl,rfl⟩⟩)
    intro j v' hv
    first|(have _:Kn 0:=kk;refine (have hj:j<28:=?_;?_))|(have _:Kn 1:=kk;refine (have hj:j<28:=?_;?_))|(have _:Kn 2:=kk;refine (have hj:j<28:=?_;?_))|(have _:Kn 3:=kk;refine (have hj:j<30:=?_;?_))
    ·have:=(List.getElem?_eq_some_iff.mp hv).1
     first|(have _:Kn 0:=kk;simpa [int.aO] using this)|(have _:Kn 1:=kk;simpa [list.aO] using this)|(have _:Kn 2:=kk;simpa [tree.aO] using this)|(have _:Kn 3:=kk;simpa [row.aO] using this)
    first|(have _:Kn 0:=kk;rw [int.jZ L t] at hv)|(have _:Kn 1:=kk;rw [list.jZ L t] at hv)|(have _:Kn 2:=kk;rw [tree.jZ L t] at hv)|(have _:Kn 3:=kk;rw [row.jZ L t] at hv)
    first|(have _:Kn 0:=kk;show (cur.toList[t*28+j]?).getD (.int .i64 0)=v')|(have _:Kn 1:=kk;show (cur.toList[t*28+j]?).getD (.int .i64 0)=v')|(have _:Kn 2:=kk;show (cur.toList[t*28+j]?).getD (.int .i64 0)=v')|(have _:Kn 3:=kk;show (cur.toList[t*30+j]?).getD (.int .i64 0)=v')
    first|(have _:Kn 0:=kk;rw [←int.gQ bS n (cap:Int) gD gG n t j ht hj,←htk,List.getElem?_take] at hv)|(have _:Kn 1:=kk;rw [←list.gQ bS n (cap:Int) gD gG n t j ht hj,←htk,List.getElem?_take] at hv)|(have _:Kn 2:=kk;rw [←tree.gQ bS n (cap:Int) gD gG n t j ht hj,←htk,List.getElem?_take] at hv)|(have _:Kn 3:=kk;rw [←row.gQ bS n (cap:Int) gD gG n t j ht hj,←htk,List.getElem?_take] at hv)
    split at hv
    ·rw [hv];rfl
    ·cases hv
theorem int.RE.new2:pP:=vH.1
theorem list.RE.new2:pP:=vH.2.1
theorem tree.RE.new2:pP:=vH.2.2.1
theorem row.RE.new2:pP:=vH.2.2.2
theorem int.Both.new2 {σ:Type} {R:SR σ} {P:M.Plain σ} {w0 w:World} {x:Nat} {xl:List Value} (hx:Row w x 74 xl) {n cap:Nat} {oT:TypeId} {ov:Value} {b:Nat} (h:bH w0 n (cap:Int) oT ov b w) (hn:1≤n) (lG:n≤64) (hc:cap≤64) {G:Nat→Prop} (SI:∀ k,G k→k<w0.heap.size) (hz:∀ I:Nat→Prop,(∀ k,G k→I k)→R.rep I w P.first [.int .i64 0]) :
  ∃ L:Lt,L.n=n∧L.cap=cap∧L.oT=oT∧L.ov=ov∧L.bE=b∧Both R P L (fun k=>((w0.heap.size≤k∧k<w.heap.size)∧k≠x)∨G k) (M.E0 P ⟨P.first,[]⟩) M.Y0 w:=by
 obtain ⟨L,e1,e2,e3,e4,e5,r⟩:=RE.new2 (P:=P) hx h hn lG hc SI hz
 exact ⟨L,e1,e2,e3,e4,e5,r,M.wU P L.n L.cap _,M.zZ P L.n _,M.AB _ P L.n _⟩
theorem list.Both.new2 {σ:Type} {R:SR σ} {P:M.Plain σ} {w0 w:World} {x:Nat} {xl:List Value} (hx:Row w x 74 xl) {n cap:Nat} {oT:TypeId} {ov:Value} {b:Nat} (h:bH w0 n (cap:Int) oT ov b w) (hn:1≤n) (lG:n≤64) (hc:cap≤64) {G:Nat→Prop} (SI:∀ k,G k→k<w0.heap.size) (hz:∀ I:Nat→Prop,(∀ k,G k→I k)→R.rep I w P.first [.pointer none]) :
  ∃ L:Lt,L.n=n∧L.cap=cap∧L.oT=oT∧L.ov=ov∧L.bE=b∧Both R P L (fun k=>((w0.heap.size≤k∧k<w.heap.size)∧k≠x)∨G k) (M.E0 P ⟨P.first,[]⟩) M.Y0 w:=by
 obtain ⟨L,e1,e2,e3,e4,e5,r⟩:=RE.new2 (P:=P) hx h hn lG hc SI hz
 exact ⟨L,e1,e2,e3,e4,e5,r,M.wU P L.n L.cap _,M.zZ P L.n _,M.AB _ P L.n _⟩
theorem tree.Both.new2 {σ:Type} {R:SR σ} {P:M.Plain σ} {w0 w:World} {x:Nat} {xl:List Value} (hx:Row w x 74 xl) {n cap:Nat} {oT:TypeId} {ov:Value} {b:Nat} (h:bH w0 n (cap:Int) oT ov b w) (hn:1≤n) (lG:n≤64) (hc:cap≤64) {G:Nat→Prop} (SI:∀ k,G k→k<w0.heap.size) (hz:∀ I:Nat→Prop,(∀ k,G k→I k)→R.rep I w P.first [.pointer none]) :
  ∃ L:Lt,L.n=n∧L.cap=cap∧L.oT=oT∧L.ov=ov∧L.bE=b∧Both R P L (fun k=>((w0.heap.size≤k∧k<w.heap.size)∧k≠x)∨G k) (M.E0 P ⟨P.first,[]⟩) M.Y0 w:=by
 obtain ⟨L,e1,e2,e3,e4,e5,r⟩:=RE.new2 (P:=P) hx h hn lG hc SI hz
 exact ⟨L,e1,e2,e3,e4,e5,r,M.wU P L.n L.cap _,M.zZ P L.n _,M.AB _ P L.n _⟩
theorem row.Both.new2 {σ:Type} {R:SR σ} {P:M.Plain σ} {w0 w:World} {x:Nat} {xl:List Value} (hx:Row w x 74 xl) {n cap:Nat} {oT:TypeId} {ov:Value} {b:Nat} (h:bH w0 n (cap:Int) oT ov b w) (hn:1≤n) (lG:n≤64) (hc:cap≤64) {G:Nat→Prop} (SI:∀ k,G k→k<w0.heap.size) (hz:∀ I:Nat→Prop,(∀ k,G k→I k)→R.rep I w P.first [.pointer none,.pointer none]) :
  ∃ L:Lt,L.n=n∧L.cap=cap∧L.oT=oT∧L.ov=ov∧L.bE=b∧Both R P L (fun k=>((w0.heap.size≤k∧k<w.heap.size)∧k≠x)∨G k) (M.E0 P ⟨P.first,[]⟩) M.Y0 w:=by
 obtain ⟨L,e1,e2,e3,e4,e5,r⟩:=RE.new2 (P:=P) hx h hn lG hc SI hz
 exact ⟨L,e1,e2,e3,e4,e5,r,M.wU P L.n L.cap _,M.zZ P L.n _,M.AB _ P L.n _⟩
end Go.Proofs.YtefjhnhdagolhaaGreat
