import Derived.Test.YtefjhnhdagolhabGreatQ30
set_option maxHeartbeats 8000000
set_option maxRecDepth 20000
namespace Go.Proofs.YtefjhnhdagolhabGreat
open int list tree
open Go.RowKit
open M (aH aC aE cY aS aK aT bJ aR aL aM)
attribute [local go_sem ↓] Go.wp_at_zero Go.wp_at_succ
def int.numOf:List (Nat×List Nat)→Nat | []=>0|(q,_)::_=>q
theorem int.cO.num {I:Nat→Prop} {w:World} {bs:List (Nat×List Nat)} {b:Nat} (h:cO I w bs b):w.cell? ⟨b,0,none⟩=some (.int .i64 (numOf bs:Int)):=by
 cases bs with
 |nil=>exact h.2.cell_of rfl
 |cons x bs =>
  obtain ⟨v,b',-,h2,-⟩:=h
  exact h2.cell_of rfl
def int.dP:Prop:=∀ {σ:Type} {R:SR σ} {L:Lt} {S:Nat→Prop} {E:aK σ} {w:World} (_h:RE R L S E w) {v f:cY σ} (_hv:E.eV E.prec=some (v,f)) (_hp:E.prec<2*L.n+1) (_hN:E.cZ≤1000000000) (_wX:numOf v.bs.reverse=E.cZ),Calls Tryz.prog 128 #[.pointer (some ⟨L.bS,0,none⟩),.int .i64 ((E.cZ:Int)*129+(E.prec:Int))] w fun e w'=>∃ q0 bB,e = .returned (.agg #[.int .i64 q0,.pointer (some ⟨bB,0,none⟩)])∧R.rep (fun k=>S k∧¬L.own k) w v.st [.int .i64 q0]∧cO (fun k=>S k∧¬L.own k) w v.bs.reverse bB∧Below w.heap.size w w'
def list.dP:Prop:=∀ {σ:Type} {R:SR σ} {L:Lt} {S:Nat→Prop} {E:aK σ} {w:World} (_h:RE R L S E w) {v f:cY σ} (_hv:E.eV E.prec=some (v,f)) (_hp:E.prec<2*L.n+1) (_hN:E.cZ≤1000000000) (_wX:numOf v.bs.reverse=E.cZ),Calls Tryz.prog 188 #[.pointer (some ⟨L.bS,0,none⟩),.int .i64 ((E.cZ:Int)*129+(E.prec:Int))] w fun e w'=>∃ q0 bB,e = .returned (.agg #[.pointer q0,.pointer (some ⟨bB,0,none⟩)])∧R.rep (fun k=>S k∧¬L.own k) w v.st [.pointer q0]∧cO (fun k=>S k∧¬L.own k) w v.bs.reverse bB∧Below w.heap.size w w'
def tree.dP:Prop:=∀ {σ:Type} {R:SR σ} {L:Lt} {S:Nat→Prop} {E:aK σ} {w:World} (_h:RE R L S E w) {v f:cY σ} (_hv:E.eV E.prec=some (v,f)) (_hp:E.prec<2*L.n+1) (_hN:E.cZ≤1000000000) (_wX:numOf v.bs.reverse=E.cZ),Calls Tryz.prog 262 #[.pointer (some ⟨L.bS,0,none⟩),.int .i64 ((E.cZ:Int)*129+(E.prec:Int))] w fun e w'=>∃ q0 bB,e = .returned (.agg #[.pointer q0,.pointer (some ⟨bB,0,none⟩)])∧R.rep (fun k=>S k∧¬L.own k) w v.st [.pointer q0]∧cO (fun k=>S k∧¬L.own k) w v.bs.reverse bB∧Below w.heap.size w w'
theorem mB:int.dP∧list.dP∧tree.dP:=by
 refine ⟨@mkK _ 0 ?_,@mkK _ 1 ?_,@mkK _ 2 ?_⟩<;>intro kk σ R L S E w h v f hv hp hN wY
 all_goals
  first
   |have _:Kn 0:=kk
    obtain ⟨b,cv,cf,NF,-,hrow,sB,hfr⟩:∃ b cv cf,w.cell? ⟨L.bP,E.prec*2+1,none⟩=some (.pointer (some ⟨b,0,none⟩))∧(S b∧¬L.own b)∧Row w b 122 (cv++cf)∧int.aV R (fun k=>S k∧¬L.own k) w v cv∧int.aV R (fun k=>S k∧¬L.own k) w f cf:=by
     obtain ⟨sp,q1,q2⟩:=h.po
     obtain ⟨b,cv,cf,a1,a2,a3,a4,a5⟩:=q2 E.prec hp v f hv
     refine ⟨b,cv,cf,?_,a2,a3,a4,a5⟩
     have:=q1.cell hp (show 1<2 by decide)
     rw [this,a1]
     rfl
   |have _:Kn 1:=kk
    obtain ⟨b,cv,cf,NF,-,hrow,sB,hfr⟩:∃ b cv cf,w.cell? ⟨L.bP,E.prec*2+1,none⟩=some (.pointer (some ⟨b,0,none⟩))∧(S b∧¬L.own b)∧Row w b 136 (cv++cf)∧list.aV R (fun k=>S k∧¬L.own k) w v cv∧list.aV R (fun k=>S k∧¬L.own k) w f cf:=by
     obtain ⟨sp,q1,q2⟩:=h.po
     obtain ⟨b,cv,cf,a1,a2,a3,a4,a5⟩:=q2 E.prec hp v f hv
     refine ⟨b,cv,cf,?_,a2,a3,a4,a5⟩
     have:=q1.cell hp (show 1<2 by decide)
     rw [this,a1]
     rfl
   |have _:Kn 2:=kk
    obtain ⟨b,cv,cf,NF,-,hrow,sB,hfr⟩:∃ b cv cf,w.cell? ⟨L.bP,E.prec*2+1,none⟩=some (.pointer (some ⟨b,0,none⟩))∧(S b∧¬L.own b)∧Row w b 164 (cv++cf)∧tree.aV R (fun k=>S k∧¬L.own k) w v cv∧tree.aV R (fun k=>S k∧¬L.own k) w f cf:=by
     obtain ⟨sp,q1,q2⟩:=h.po
     obtain ⟨b,cv,cf,a1,a2,a3,a4,a5⟩:=q2 E.prec hp v f hv
     refine ⟨b,cv,cf,?_,a2,a3,a4,a5⟩
     have:=q1.cell hp (show 1<2 by decide)
     rw [this,a1]
     rfl
  obtain ⟨sc,bB,rfl,ED,xX⟩:=sB
  obtain ⟨x0,rfl⟩:=oR (R.len ED)
  obtain ⟨q0,rfl⟩:=R.shape ED x0 (by simp)
  obtain ⟨y0,y1,rfl⟩:=aD (aV.len R hfr)
  have hn:=h.ok.n64
  have c4:w.cell? ⟨L.bS,4,none⟩=some (.slice (some ⟨L.bP,0,none⟩) (2*L.n+1) (2*L.n+1)):=h.sh.cell_of rfl
  have cB:=xX.num
  rw [wY] at cB
  have hm:=aA (show (((E.cZ:Int)*129+(E.prec:Int)) % 129=(E.prec:Int))∧(((E.cZ:Int)*129+(E.prec:Int)) / 129=(E.cZ:Int)) by omega)
  have hp':(E.prec:Int)<2*(L.n:Int)+1:=by omega
  have hp0:(0:Int)≤(E.prec:Int):=by omega
  have lX:=aA (And.intro ED xX)
  have aAZ:=aA hrow
  have HPB:=aA NF
  have HCB:=aA cB
  have HC4:=aA c4
  clear h hv hfr ED xX hrow NF cB c4 wY
  first|(have _:Kn 0:=kk;go_enter Tryz.func128,Tryz.ntmps128)|(have _:Kn 1:=kk;go_enter Tryz.func188,Tryz.ntmps188)|(have _:Kn 2:=kk;go_enter Tryz.func262,Tryz.ntmps262)
  go_wp2
  generalize xH:World.alloc w _=W0
  have hb0:Below w.heap.size w W0:=by rw [←xH];exact aB w _
  have d4:=cell_later hb0 HC4.out
  have HDP:=aA (cell_later hb0 HPB.out)
  have HDR:=aA (aAZ.out.old hb0)
  have dB:=cell_later hb0 HCB.out
  first|(have _:Kn 0:=kk;have HZ0:=aA (show Row W0 w.heap.size 120 ([.int .i64 0]++[.pointer none]) by rw [←xH];exact Row.new' rfl))|(have _:Kn 1:=kk;have HZ0:=aA (show Row W0 w.heap.size 134 ([.pointer none]++[.pointer none]) by rw [←xH];exact Row.new' rfl))|(have _:Kn 2:=kk;have HZ0:=aA (show Row W0 w.heap.size 162 ([.pointer none]++[.pointer none]) by rw [←xH];exact Row.new' rfl))
  have gH:=aA hb0
  clear xH hb0
  have A1:=aA (fun n=>Calls.quiet_of_same (n:=n) (rA ((E.cZ:Int)*129+(E.prec:Int)) (W0.drewN n) (by omega) (by omega)))
  rw [hm.out.1] at A1
  first|(have _:Kn 0:=kk;have A2:=aA (fun n=>Calls.quiet_of_same (n:=n) (int.iW L.bP (E.prec*2+1) b _ (W0.drewN n) HDP.out (HDR.out.drewN _) rfl)))|(have _:Kn 1:=kk;have A2:=aA (fun n=>Calls.quiet_of_same (n:=n) (list.iW L.bP (E.prec*2+1) b _ (W0.drewN n) HDP.out (HDR.out.drewN _) rfl)))|(have _:Kn 2:=kk;have A2:=aA (fun n=>Calls.quiet_of_same (n:=n) (tree.iW L.bP (E.prec*2+1) b _ (W0.drewN n) HDP.out (HDR.out.drewN _) rfl)))
  first|(have _:Kn 0:=kk;go_quiet ((first|(go_at_call 134;with_reducible exact A1.out _)|(go_at_call 150;with_reducible exact A2.out _))))|(have _:Kn 1:=kk;go_quiet ((first|(go_at_call 134;with_reducible exact A1.out _)|(go_at_call 197;with_reducible exact A2.out _))))|(have _:Kn 2:=kk;go_quiet ((first|(go_at_call 134;with_reducible exact A1.out _)|(go_at_call 271;with_reducible exact A2.out _))))
  generalize EM:World.drewN W0 nq=W5
  have VD:=HDR.out.drewN nq
  rw [EM] at VD
  have HR5:=aA VD
  clear VD
  have k1:W5.cell? ⟨b,1,none⟩=some (.pointer (some ⟨bB,0,none⟩)):=HR5.out.cell_of rfl
  have k2:W5.cell? ⟨bB,0,none⟩=some (.int .i64 (E.cZ:Int)):=by rw [←EM];exact dB
  first|(have _:Kn 0:=kk;have HZ5:=aA (show Row W5 w.heap.size 120 ([.int .i64 0]++[.pointer none]) by rw [←EM];exact HZ0.out))|(have _:Kn 1:=kk;have HZ5:=aA (show Row W5 w.heap.size 134 ([.pointer none]++[.pointer none]) by rw [←EM];exact HZ0.out))|(have _:Kn 2:=kk;have HZ5:=aA (show Row W5 w.heap.size 162 ([.pointer none]++[.pointer none]) by rw [←EM];exact HZ0.out))
  have YO:=aA (show Below w.heap.size w W5 by rw [←EM];exact Below.drewN gH.out _)
  clear EM d4 dB A1 A2
  have A3:=aA (fun n=>Calls.quiet_of_same (n:=n) (rC ((E.cZ:Int)*129+(E.prec:Int)) (W5.drewN n) (by omega) (by omega)))
  rw [hm.out.2] at A3
  go_wp2
  go_quiet ((go_at_call 138;with_reducible exact A3.out _))
  generalize VH:World.drewN W5 nq=W6
  have XA:=HR5.out.drewN nq
  rw [VH] at XA
  first|(have _:Kn 0:=kk;have SN:Row W6 w.heap.size 120 ([.int .i64 0]++[.pointer none]):=by rw [←VH];exact HZ5.out)|(have _:Kn 1:=kk;have SN:Row W6 w.heap.size 134 ([.pointer none]++[.pointer none]):=by rw [←VH];exact HZ5.out)|(have _:Kn 2:=kk;have SN:Row W6 w.heap.size 162 ([.pointer none]++[.pointer none]):=by rw [←VH];exact HZ5.out)
  have y0:W6.cell? ⟨b,0,none⟩=some _:=XA.cell_of rfl
  have y1:W6.cell? ⟨b,1,none⟩=some _:=XA.cell_of rfl
  have z0:W6.cell? ⟨w.heap.size,0,none⟩=some _:=SN.cell_of rfl
  have z1:W6.cell? ⟨w.heap.size,1,none⟩=some _:=SN.cell_of rfl
  have zf:=SN.frozen
  have HB6:=aA (show Below w.heap.size w W6 by rw [←VH];exact Below.drewN YO.out _)
  clear VH k1 k2 XA SN A3
  go_wp2
  first|(have _:Kn 0:=kk;refine bodyPost_ret (v:=.agg #[.int .i64 q0,.pointer (some ⟨bB,0,none⟩)]) (by simp [results,Tryz.results128,go_sem, *]) rfl ⟨q0,bB,rfl,lX.out.1,lX.out.2,?_⟩)|(have _:Kn 1:=kk;refine bodyPost_ret (v:=.agg #[.pointer q0,.pointer (some ⟨bB,0,none⟩)]) (by simp [results,Tryz.results188,go_sem, *]) rfl ⟨q0,bB,rfl,lX.out.1,lX.out.2,?_⟩)|(have _:Kn 2:=kk;refine bodyPost_ret (v:=.agg #[.pointer q0,.pointer (some ⟨bB,0,none⟩)]) (by simp [results,Tryz.results262,go_sem, *]) rfl ⟨q0,bB,rfl,lX.out.1,lX.out.2,?_⟩)
  repeat (refine Below.setCell ?_ (by simp) _)
  exact HB6.out
theorem int.jR:dP:=mB.1
theorem list.jR:dP:=mB.2.1
theorem tree.jR:dP:=mB.2.2
theorem row.jR {σ:Type} {R:SR σ} {L:Lt} {S:Nat→Prop} {E:aK σ} {w:World} (h:RE R L S E w) {v f:cY σ} (hv:E.eV E.prec=some (v,f)) (hp:E.prec<2*L.n+1) (hN:E.cZ≤1000000000) (wY:numOf v.bs.reverse=E.cZ) :
  Calls Tryz.prog 225 #[.pointer (some ⟨L.bS,0,none⟩),.int .i64 ((E.cZ:Int)*129+(E.prec:Int))] w fun e w'=>∃ q0 q1 bB,e = .returned (.agg #[.pointer q0,.pointer q1,.pointer (some ⟨bB,0,none⟩)])∧R.rep (fun k=>S k∧¬L.own k) w v.st [.pointer q0,.pointer q1]∧cO (fun k=>S k∧¬L.own k) w v.bs.reverse bB∧Below w.heap.size w w':=by
 obtain ⟨b,cv,cf,NF,-,hrow,sB,hfr⟩:∃ b cv cf,w.cell? ⟨L.bP,E.prec*2+1,none⟩=some (.pointer (some ⟨b,0,none⟩))∧(S b∧¬L.own b)∧Row w b 150 (cv++cf)∧aV R (fun k=>S k∧¬L.own k) w v cv∧aV R (fun k=>S k∧¬L.own k) w f cf:=by
  obtain ⟨sp,q1,q2⟩:=h.po
  obtain ⟨b,cv,cf,a1,a2,a3,a4,a5⟩:=q2 E.prec hp v f hv
  refine ⟨b,cv,cf,?_,a2,a3,a4,a5⟩
  have:=q1.cell hp (show 1<2 by decide)
  rw [this,a1]
  rfl
 obtain ⟨sc,bB,rfl,ED,xX⟩:=sB
 obtain ⟨x0,x1,rfl⟩:=BS (R.len ED)
 obtain ⟨q0,rfl⟩:=R.shape ED x0 (by simp)
 obtain ⟨q1,rfl⟩:=R.shape ED x1 (by simp)
 obtain ⟨y0,y1,y2,rfl⟩:=aD (aV.len R hfr)
 have hn:=h.ok.n64
 have c4:w.cell? ⟨L.bS,4,none⟩=some (.slice (some ⟨L.bP,0,none⟩) (2*L.n+1) (2*L.n+1)):=h.sh.cell_of rfl
 have cB:=xX.num
 rw [wY] at cB
 have hm:=aA (show (((E.cZ:Int)*129+(E.prec:Int)) % 129=(E.prec:Int))∧(((E.cZ:Int)*129+(E.prec:Int)) / 129=(E.cZ:Int)) by omega)
 have hp':(E.prec:Int)<2*(L.n:Int)+1:=by omega
 have hp0:(0:Int)≤(E.prec:Int):=by omega
 have lX:=aA (And.intro ED xX)
 have aAZ:=aA hrow
 have HPB:=aA NF
 have HCB:=aA cB
 have HC4:=aA c4
 clear h hv hfr ED xX hrow NF cB c4 wY
 go_enter Tryz.func225,Tryz.ntmps225
 go_wp2
 generalize xH:World.alloc w _=W0
 have hb0:Below w.heap.size w W0:=by rw [←xH];exact aB w _
 have d4:=cell_later hb0 HC4.out
 have HDP:=aA (cell_later hb0 HPB.out)
 have HDR:=aA (aAZ.out.old hb0)
 have dB:=cell_later hb0 HCB.out
 have HZ0:=aA (show Row W0 w.heap.size 148 ([.pointer none,.pointer none]++[.pointer none]) by rw [←xH];exact Row.new' rfl)
 have gH:=aA hb0
 clear xH hb0
 have A1:=aA (fun n=>Calls.quiet_of_same (n:=n) (rA ((E.cZ:Int)*129+(E.prec:Int)) (W0.drewN n) (by omega) (by omega)))
 rw [hm.out.1] at A1
 have A2:=aA (fun n=>Calls.quiet_of_same (n:=n) (iW L.bP (E.prec*2+1) b _ (W0.drewN n) HDP.out (HDR.out.drewN _) rfl))
 go_quiet ((first|(go_at_call 134;with_reducible exact A1.out _)|(go_at_call 234;with_reducible exact A2.out _)))
 generalize EM:World.drewN W0 nq=W5
 have VD:=HDR.out.drewN nq
 rw [EM] at VD
 have HR5:=aA VD
 clear VD
 have k1:W5.cell? ⟨b,2,none⟩=some (.pointer (some ⟨bB,0,none⟩)):=HR5.out.cell_of rfl
 have k2:W5.cell? ⟨bB,0,none⟩=some (.int .i64 (E.cZ:Int)):=by rw [←EM];exact dB
 have HZ5:=aA (show Row W5 w.heap.size 148 ([.pointer none,.pointer none]++[.pointer none]) by rw [←EM];exact HZ0.out)
 have YO:=aA (show Below w.heap.size w W5 by rw [←EM];exact Below.drewN gH.out _)
 clear EM d4 dB A1 A2
 have A3:=aA (fun n=>Calls.quiet_of_same (n:=n) (rC ((E.cZ:Int)*129+(E.prec:Int)) (W5.drewN n) (by omega) (by omega)))
 rw [hm.out.2] at A3
 go_wp2
 go_quiet ((go_at_call 138;with_reducible exact A3.out _))
 generalize VH:World.drewN W5 nq=W6
 have XA:=HR5.out.drewN nq
 rw [VH] at XA
 have SN:Row W6 w.heap.size 148 ([.pointer none,.pointer none]++[.pointer none]):=by rw [←VH];exact HZ5.out
 have y0:W6.cell? ⟨b,0,none⟩=some _:=XA.cell_of rfl
 have y1:W6.cell? ⟨b,1,none⟩=some _:=XA.cell_of rfl
 have y2:W6.cell? ⟨b,2,none⟩=some _:=XA.cell_of rfl
 have z0:W6.cell? ⟨w.heap.size,0,none⟩=some _:=SN.cell_of rfl
 have z1:W6.cell? ⟨w.heap.size,1,none⟩=some _:=SN.cell_of rfl
 have z2:W6.cell? ⟨w.heap.size,2,none⟩=some _:=SN.cell_of rfl
 have zf:=SN.frozen
 have HB6:=aA (show Below w.heap.size w W6 by rw [←VH];exact Below.drewN YO.out _)
 clear VH k1 k2 XA SN A3
 go_wp2
 refine bodyPost_ret (v:=.agg #[.pointer q0,.pointer q1,.pointer (some ⟨bB,0,none⟩)]) (by simp [results,Tryz.results225,go_sem, *]) rfl ⟨q0,q1,bB,rfl,lX.out.1,lX.out.2,?_⟩
 repeat (refine Below.setCell ?_ (by simp) _)
 exact HB6.out
def int.jS:Prop:=∀ {σ:Type} {R:SR σ} {L:Lt} {S:Nat→Prop} {E:aK σ} {w:World} (_h:RE R L S E w) {v f:cY σ} (_hv:E.eV E.prec=some (v,f)) (_hp:E.prec<2*L.n+1) (_hN:E.cZ≤1000000000) (_wX:numOf v.bs.reverse=E.cZ),Calls Tryz.prog 113 #[.pointer (some ⟨L.bS,0,none⟩)] w fun e w'=>∃ q0 bB,e = .returned (.agg #[.int .i64 q0,.pointer (some ⟨bB,0,none⟩)])∧R.rep (fun k=>S k∧¬L.own k) w v.st [.int .i64 q0]∧cO (fun k=>S k∧¬L.own k) w v.bs.reverse bB∧Below w.heap.size w w'
def list.jS:Prop:=∀ {σ:Type} {R:SR σ} {L:Lt} {S:Nat→Prop} {E:aK σ} {w:World} (_h:RE R L S E w) {v f:cY σ} (_hv:E.eV E.prec=some (v,f)) (_hp:E.prec<2*L.n+1) (_hN:E.cZ≤1000000000) (_wX:numOf v.bs.reverse=E.cZ),Calls Tryz.prog 173 #[.pointer (some ⟨L.bS,0,none⟩)] w fun e w'=>∃ q0 bB,e = .returned (.agg #[.pointer q0,.pointer (some ⟨bB,0,none⟩)])∧R.rep (fun k=>S k∧¬L.own k) w v.st [.pointer q0]∧cO (fun k=>S k∧¬L.own k) w v.bs.reverse bB∧Below w.heap.size w w'
def tree.jS:Prop:=∀ {σ:Type} {R:SR σ} {L:Lt} {S:Nat→Prop} {E:aK σ} {w:World} (_h:RE R L S E w) {v f:cY σ} (_hv:E.eV E.prec=some (v,f)) (_hp:E.prec<2*L.n+1) (_hN:E.cZ≤1000000000) (_wX:numOf v.bs.reverse=E.cZ),Calls Tryz.prog 247 #[.pointer (some ⟨L.bS,0,none⟩)] w fun e w'=>∃ q0 bB,e = .returned (.agg #[.pointer q0,.pointer (some ⟨bB,0,none⟩)])∧R.rep (fun k=>S k∧¬L.own k) w v.st [.pointer q0]∧cO (fun k=>S k∧¬L.own k) w v.bs.reverse bB∧Below w.heap.size w w'
theorem vP:int.jS∧list.jS∧tree.jS:=by
 refine ⟨@mkK _ 0 ?_,@mkK _ 1 ?_,@mkK _ 2 ?_⟩<;>intro kk σ R L S E w h v f hv hp hN wY
 all_goals
  have c5:w.cell? ⟨L.bS,5,none⟩=some (.int .i64 ((E.cZ:Int)*129+(E.prec:Int))):=h.sh.cell_of rfl
  have HH:=aA h
  have ZP:=aA c5
  have HV:=aA (And.intro hv wY)
  clear h c5 hv wY
  first|(have _:Kn 0:=kk;go_enter Tryz.func113,Tryz.ntmps113)|(have _:Kn 1:=kk;go_enter Tryz.func173,Tryz.ntmps173)|(have _:Kn 2:=kk;go_enter Tryz.func247,Tryz.ntmps247)
  go_wp2_with fail
  refine (tU L.bS 5 _ _ (dM ZP.out _)).mono ?_
  rintro e w1 ⟨rfl,rfl⟩
  go_wp2_with fail
  refine (jR (S:=S) (HH.out.stay (fun k hk=>(aB w _).block k (HH.out.lt k hk)) (fun _ hk=>hk) (fun k hk=>Nat.lt_of_lt_of_le (HH.out.lt k hk) (by simp))) HV.out.1 hp hN HV.out.2).mono ?_
  rintro e w2 ⟨q0,bB,rfl,AA,uY,bA⟩
  first|(have _:Kn 0:=kk;have hZ:Row w2 w.heap.size 120 ([.int .i64 0]++[.pointer none]):=(Row.new' rfl).old bA)|(have _:Kn 1:=kk;have hZ:Row w2 w.heap.size 134 ([.pointer none]++[.pointer none]):=(Row.new' rfl).old bA)|(have _:Kn 2:=kk;have hZ:Row w2 w.heap.size 162 ([.pointer none]++[.pointer none]):=(Row.new' rfl).old bA)
  have HB:=aA (Below.next (aB w _) bA (by simp))
  first|(have _:Kn 0:=kk;have lX:=aA (And.intro (R.stay (fun k hk _=>⟨hk,((aB w _).block k (HH.out.lt k hk.1)).symm⟩) AA) (int.cO.stay (fun k hk _=>⟨hk,((aB w _).block k (HH.out.lt k hk.1)).symm⟩) (fun k hk=>Nat.lt_of_lt_of_le (HH.out.lt k hk.1) (by simp)) _ _ uY)))|(have _:Kn 1:=kk;have lX:=aA (And.intro (R.stay (fun k hk _=>⟨hk,((aB w _).block k (HH.out.lt k hk.1)).symm⟩) AA) (list.cO.stay (fun k hk _=>⟨hk,((aB w _).block k (HH.out.lt k hk.1)).symm⟩) (fun k hk=>Nat.lt_of_lt_of_le (HH.out.lt k hk.1) (by simp)) _ _ uY)))|(have _:Kn 2:=kk;have lX:=aA (And.intro (R.stay (fun k hk _=>⟨hk,((aB w _).block k (HH.out.lt k hk.1)).symm⟩) AA) (tree.cO.stay (fun k hk _=>⟨hk,((aB w _).block k (HH.out.lt k hk.1)).symm⟩) (fun k hk=>Nat.lt_of_lt_of_le (HH.out.lt k hk.1) (by simp)) _ _ uY)))
  have z0:w2.cell? ⟨w.heap.size,0,none⟩=some _:=hZ.cell_of rfl
  have z1:w2.cell? ⟨w.heap.size,1,none⟩=some _:=hZ.cell_of rfl
  have zf:=hZ.frozen
  clear hZ bA AA uY
  go_wp2
  first|(have _:Kn 0:=kk;refine bodyPost_ret (v:=.agg #[.int .i64 q0,.pointer (some ⟨bB,0,none⟩)]) (by simp [results,Tryz.results113,go_sem, *]) rfl ⟨q0,bB,rfl,lX.out.1,lX.out.2,?_⟩)|(have _:Kn 1:=kk;refine bodyPost_ret (v:=.agg #[.pointer q0,.pointer (some ⟨bB,0,none⟩)]) (by simp [results,Tryz.results173,go_sem, *]) rfl ⟨q0,bB,rfl,lX.out.1,lX.out.2,?_⟩)|(have _:Kn 2:=kk;refine bodyPost_ret (v:=.agg #[.pointer q0,.pointer (some ⟨bB,0,none⟩)]) (by simp [results,Tryz.results247,go_sem, *]) rfl ⟨q0,bB,rfl,lX.out.1,lX.out.2,?_⟩)
  repeat (refine Below.setCell ?_ (by simp) _)
  exact HB.out
theorem int.pE:jS:=vP.1
theorem list.pE:jS:=vP.2.1
theorem tree.pE:jS:=vP.2.2
theorem row.pE {σ:Type} {R:SR σ} {L:Lt} {S:Nat→Prop} {E:aK σ} {w:World} (h:RE R L S E w) {v f:cY σ} (hv:E.eV E.prec=some (v,f)) (hp:E.prec<2*L.n+1) (hN:E.cZ≤1000000000) (wY:numOf v.bs.reverse=E.cZ) :
  Calls Tryz.prog 210 #[.pointer (some ⟨L.bS,0,none⟩)] w fun e w'=>∃ q0 q1 bB,e = .returned (.agg #[.pointer q0,.pointer q1,.pointer (some ⟨bB,0,none⟩)])∧R.rep (fun k=>S k∧¬L.own k) w v.st [.pointer q0,.pointer q1]∧cO (fun k=>S k∧¬L.own k) w v.bs.reverse bB∧Below w.heap.size w w':=by
 have c5:w.cell? ⟨L.bS,5,none⟩=some (.int .i64 ((E.cZ:Int)*129+(E.prec:Int))):=h.sh.cell_of rfl
 have HH:=aA h
 have ZP:=aA c5
 have HV:=aA (And.intro hv wY)
 clear h c5 hv wY
 go_enter Tryz.func210,Tryz.ntmps210
 go_wp2_with fail
 refine (tU L.bS 5 _ _ (dM ZP.out _)).mono ?_
 rintro e w1 ⟨rfl,rfl⟩
 go_wp2_with fail
 refine (jR (S:=S) (HH.out.stay (fun k hk=>(aB w _).block k (HH.out.lt k hk)) (fun _ hk=>hk) (fun k hk=>Nat.lt_of_lt_of_le (HH.out.lt k hk) (by simp))) HV.out.1 hp hN HV.out.2).mono ?_
 rintro e w2 ⟨q0,q1,bB,rfl,AA,uY,bA⟩
 have hZ:Row w2 w.heap.size 148 ([.pointer none,.pointer none]++[.pointer none]):=(Row.new' rfl).old bA
 have HB:=aA (Below.next (aB w _) bA (by simp))
 have lX:=aA (And.intro (R.stay (fun k hk _=>⟨hk,((aB w _).block k (HH.out.lt k hk.1)).symm⟩) AA) (cO.stay (fun k hk _=>⟨hk,((aB w _).block k (HH.out.lt k hk.1)).symm⟩) (fun k hk=>Nat.lt_of_lt_of_le (HH.out.lt k hk.1) (by simp)) _ _ uY))
 have z0:w2.cell? ⟨w.heap.size,0,none⟩=some _:=hZ.cell_of rfl
 have z1:w2.cell? ⟨w.heap.size,1,none⟩=some _:=hZ.cell_of rfl
 have z2:w2.cell? ⟨w.heap.size,2,none⟩=some _:=hZ.cell_of rfl
 have zf:=hZ.frozen
 clear hZ bA AA uY
 go_wp2
 refine bodyPost_ret (v:=.agg #[.pointer q0,.pointer q1,.pointer (some ⟨bB,0,none⟩)]) (by simp [results,Tryz.results210,go_sem, *]) rfl ⟨q0,q1,bB,rfl,lX.out.1,lX.out.2,?_⟩
 repeat (refine Below.setCell ?_ (by simp) _)
 exact HB.out
end Go.Proofs.YtefjhnhdagolhabGreat
namespace Go.Proofs.YtefjhnhdagolhabGreat
namespace int
end int
namespace list
end list
namespace tree
end tree
namespace row
end row
open int list tree
open Go.RowKit
open M (aH aC aE cY aS aK aT bJ aR aL aM)
def int.RE.pF:Prop:=∀ {σ:Type} {R:SR σ} {P:M.Plain σ} {w0 w:World} {x:Nat} {xl:List Value} (_hx:Row w x 44 xl) {n cap:Nat} {oT:TypeId} {ov:Value} {b:Nat} (_h:bG w0 n (cap:Int) oT ov b w) (_hn:1≤n) (_NI:n≤64) (_hc:cap≤64) {G:Nat→Prop} (_hGl:∀ k,G k→k<w0.heap.size) (_hz:∀ I:Nat→Prop,(∀ k,G k→I k)→R.rep I w P.first [.int .i64 0]),∃ L:Lt,L.n=n∧L.cap=cap∧L.oT=oT∧L.ov=ov∧L.bE=b∧RE R L (fun k=>((w0.heap.size≤k∧k<w.heap.size)∧k≠x)∨G k) (M.E0 P ⟨P.first,[]⟩) w
def list.RE.pF:Prop:=∀ {σ:Type} {R:SR σ} {P:M.Plain σ} {w0 w:World} {x:Nat} {xl:List Value} (_hx:Row w x 44 xl) {n cap:Nat} {oT:TypeId} {ov:Value} {b:Nat} (_h:bG w0 n (cap:Int) oT ov b w) (_hn:1≤n) (_NI:n≤64) (_hc:cap≤64) {G:Nat→Prop} (_hGl:∀ k,G k→k<w0.heap.size) (_hz:∀ I:Nat→Prop,(∀ k,G k→I k)→R.rep I w P.first [.pointer none]),∃ L:Lt,L.n=n∧L.cap=cap∧L.oT=oT∧L.ov=ov∧L.bE=b∧RE R L (fun k=>((w0.heap.size≤k∧k<w.heap.size)∧k≠x)∨G k) (M.E0 P ⟨P.first,[]⟩) w
def tree.RE.pF:Prop:=∀ {σ:Type} {R:SR σ} {P:M.Plain σ} {w0 w:World} {x:Nat} {xl:List Value} (_hx:Row w x 44 xl) {n cap:Nat} {oT:TypeId} {ov:Value} {b:Nat} (_h:bG w0 n (cap:Int) oT ov b w) (_hn:1≤n) (_NI:n≤64) (_hc:cap≤64) {G:Nat→Prop} (_hGl:∀ k,G k→k<w0.heap.size) (_hz:∀ I:Nat→Prop,(∀ k,G k→I k)→R.rep I w P.first [.pointer none]),∃ L:Lt,L.n=n∧L.cap=cap∧L.oT=oT∧L.ov=ov∧L.bE=b∧RE R L (fun k=>((w0.heap.size≤k∧k<w.heap.size)∧k≠x)∨G k) (M.E0 P ⟨P.first,[]⟩) w
def row.RE.pF:Prop:=∀ {σ:Type} {R:SR σ} {P:M.Plain σ} {w0 w:World} {x:Nat} {xl:List Value} (_hx:Row w x 44 xl) {n cap:Nat} {oT:TypeId} {ov:Value} {b:Nat} (_h:bG w0 n (cap:Int) oT ov b w) (_hn:1≤n) (_NI:n≤64) (_hc:cap≤64) {G:Nat→Prop} (_hGl:∀ k,G k→k<w0.heap.size) (_hz:∀ I:Nat→Prop,(∀ k,G k→I k)→R.rep I w P.first [.pointer none,.pointer none]),∃ L:Lt,L.n=n∧L.cap=cap∧L.oT=oT∧L.ov=ov∧L.bE=b∧RE R L (fun k=>((w0.heap.size≤k∧k<w.heap.size)∧k≠x)∨G k) (M.E0 P ⟨P.first,[]⟩) w
open row in
theorem uO:int.RE.pF∧list.RE.pF∧tree.RE.pF∧row.RE.pF:=by
 refine ⟨@mkK _ 0 ?_,@mkK _ 1 ?_,@mkK _ 2 ?_,@mkK _ 3 ?_⟩<;>intro kk σ R P w0 w x xl hx n cap oT ov b h hn tY hc G RD hz
 all_goals
  obtain ⟨W1,bS,aZ,aX,bP,bW,bB,bE,v,gD,gG,rfl,h2,h3,h4⟩:=h
  obtain ⟨hE,hO,hG,hD,hB⟩:=h4
  have XK:=h3.size
  have hz1:=hB.size
  obtain ⟨hl,⟨rfl,hn0⟩|⟨g,gc,cur,rfl,QX,hg,hnc,hcm,hcs,htk⟩⟩:=hO
  ·omega
  ·have lS:=h2.1.lt
   have h2':=h2.later hB
   obtain ⟨a1,a2,a3,a4,a5,a6,a7,a8,z1,z2,z3,z4,z5,z6,z7,z8,z9,z10⟩:=h2'
   have lB:bB<W1.heap.size:=h2.2.2.2.2.2.2.1.lt
   have lE:bE<W1.heap.size:=h2.2.2.2.2.2.2.2.1.lt
   have lg:g<w.heap.size:=by have:=Array.getElem?_eq_some_iff.mp hg;exact this.1
   obtain ⟨-,y1,y2⟩:=a5 0 (by omega)
   let L:Lt:={n:=n,cap:=cap,oT:=oT,ov:=ov,bE:=W1.heap.size,bS:=bS,aZ:=aZ,aX:=aX,bP:=bP,bW:=bW,g:=g,gc:=gc,gD:=gD,gG:=gG}
   have hown:∀ k,L.own k→w0.heap.size≤k∧k<w.heap.size∧k≠W1.heap.size∧k≠bB∧k≠bE:=by
    rintro k (q|q|q|q|⟨r,hr,q⟩|q|⟨t,ht,q|q⟩)
    ·have q:k=bS:=q;omega
    ·have q:k=aZ:=q;omega
    ·have q:k=aX:=q;omega
    ·have q:k=bP:=q;omega
    ·have:=(a5 r hr).2
     have q:k=bW r:=q;omega
    ·have q:k=g:=q;omega
    ·obtain ⟨r1,r2,r3,r4,-⟩:=hG t ht
     have:=r1.lt
     have q:k=gD t:=q;omega
    ·obtain ⟨r1,r2,r3,r4,-⟩:=hG t ht
     have:=r2.lt
     have q:k=gG t:=q;omega
   have PO:∀ k,L.own k→k≠x:=by
    rintro k (q|q|q|q|⟨r,hr,q⟩|q|⟨t,ht,q|q⟩)
    ·have q:k=bS:=q;subst q;exact Row.apart a1 hx (by decide)
    ·have q:k=aZ:=q;subst q;exact Row.apart a2 hx (by decide)
    ·have q:k=aX:=q;subst q;exact Row.apart a3 hx (by decide)
    ·have q:k=bP:=q;subst q;exact Row.apart a4 hx (by decide)
    ·have q:k=bW r:=q;subst q;exact Row.apart (a5 r hr).1 hx (by decide)
    ·have q:k=g:=q;subst q;exact Row.apart (show Row w k _ cur.toList by simpa [Row] using hg) hx (by decide)
    ·have q:k=gD t:=q;subst q;exact Row.apart (hG t ht).1 hx (by decide)
    ·have q:k=gG t:=q;subst q;exact Row.apart (hG t ht).2.1 hx (by decide)
   have iB:(((w0.heap.size≤bB∧bB<w.heap.size)∧bB≠x)∨G bB)∧¬L.own bB:=⟨.inl ⟨by omega,Row.apart a7 hx (by decide)⟩,fun c=>(hown _ c).2.2.2.1 rfl⟩
   have iE:(((w0.heap.size≤bE∧bE<w.heap.size)∧bE≠x)∨G bE)∧¬L.own bE:=⟨.inl ⟨by omega,Row.apart a8 hx (by decide)⟩,fun c=>(hown _ c).2.2.2.2 rfl⟩
   first|(have _:Kn 0:=kk;have a1':Row w bS 194 [.int .i64 (n:Int),.iface oT ov,.slice (some ⟨aZ,0,none⟩) (tw n) (tw n),.slice (some ⟨aX,0,none⟩) n n,.slice (some ⟨bP,0,none⟩) (2*n+1) (2*n+1),.int .i64 (((0:Nat):Int)*129+((0:Nat):Int))]:=by simpa using a1)|(have _:Kn 1:=kk;have a1':Row w bS 208 [.int .i64 (n:Int),.iface oT ov,.slice (some ⟨aZ,0,none⟩) (tw n) (tw n),.slice (some ⟨aX,0,none⟩) n n,.slice (some ⟨bP,0,none⟩) (2*n+1) (2*n+1),.int .i64 (((0:Nat):Int)*129+((0:Nat):Int))]:=by simpa using a1)|(have _:Kn 2:=kk;have a1':Row w bS 234 [.int .i64 (n:Int),.iface oT ov,.slice (some ⟨aZ,0,none⟩) (tw n) (tw n),.slice (some ⟨aX,0,none⟩) n n,.slice (some ⟨bP,0,none⟩) (2*n+1) (2*n+1),.int .i64 (((0:Nat):Int)*129+((0:Nat):Int))]:=by simpa using a1)|(have _:Kn 3:=kk;have a1':Row w bS 221 [.int .i64 (n:Int),.iface oT ov,.slice (some ⟨aZ,0,none⟩) (tw n) (tw n),.slice (some ⟨aX,0,none⟩) n n,.slice (some ⟨bP,0,none⟩) (2*n+1) (2*n+1),.int .i64 (((0:Nat):Int)*129+((0:Nat):Int))]:=by simpa using a1)
   first|(have _:Kn 0:=kk;have a8':Row w bE 122 (([.int .i64 0]++[.pointer (some ⟨bB,0,none⟩)])++([.int .i64 0]++[.pointer (some ⟨bB,0,none⟩)])):=by simpa [int.iY] using a8)|(have _:Kn 1:=kk;have a8':Row w bE 136 (([.pointer none]++[.pointer (some ⟨bB,0,none⟩)])++([.pointer none]++[.pointer (some ⟨bB,0,none⟩)])):=by simpa [list.iY] using a8)|(have _:Kn 2:=kk;have a8':Row w bE 164 (([.pointer none]++[.pointer (some ⟨bB,0,none⟩)])++([.pointer none]++[.pointer (some ⟨bB,0,none⟩)])):=by simpa [tree.iY] using a8)|(have _:Kn 3:=kk;have a8':Row w bE 150 (([.pointer none,.pointer none]++[.pointer (some ⟨bB,0,none⟩)])++([.pointer none,.pointer none]++[.pointer (some ⟨bB,0,none⟩)])):=by simpa [row.iY] using a8)
   first|(have _:Kn 0:=kk;have hV:int.aV R (fun k=>(((w0.heap.size≤k∧k<w.heap.size)∧k≠x)∨G k)∧¬L.own k) w (⟨P.first,[]⟩:cY σ) ([.int .i64 0]++[.pointer (some ⟨bB,0,none⟩)]):=⟨[.int .i64 0],bB,rfl,hz _ (fun k hk=>⟨.inr hk,fun c=>by have:=(hown k c).1;have:=RD k hk;omega⟩),iB,a7⟩)|(have _:Kn 1:=kk;have hV:list.aV R (fun k=>(((w0.heap.size≤k∧k<w.heap.size)∧k≠x)∨G k)∧¬L.own k) w (⟨P.first,[]⟩:cY σ) ([.pointer none]++[.pointer (some ⟨bB,0,none⟩)]):=⟨[.pointer none],bB,rfl,hz _ (fun k hk=>⟨.inr hk,fun c=>by have:=(hown k c).1;have:=RD k hk;omega⟩),iB,a7⟩)|(have _:Kn 2:=kk;have hV:tree.aV R (fun k=>(((w0.heap.size≤k∧k<w.heap.size)∧k≠x)∨G k)∧¬L.own k) w (⟨P.first,[]⟩:cY σ) ([.pointer none]++[.pointer (some ⟨bB,0,none⟩)]):=⟨[.pointer none],bB,rfl,hz _ (fun k hk=>⟨.inr hk,fun c=>by have:=(hown k c).1;have:=RD k hk;omega⟩),iB,a7⟩)|(have _:Kn 3:=kk;have hV:row.aV R (fun k=>(((w0.heap.size≤k∧k<w.heap.size)∧k≠x)∨G k)∧¬L.own k) w (⟨P.first,[]⟩:cY σ) ([.pointer none,.pointer none]++[.pointer (some ⟨bB,0,none⟩)]):=⟨[.pointer none,.pointer none],bB,rfl,hz _ (fun k hk=>⟨.inr hk,fun c=>by have:=(hown k c).1;have:=RD k hk;omega⟩),iB,a7⟩)
   first|(have _:Kn 0:=kk;refine ⟨L,rfl,rfl,rfl,rfl,rfl,{ok:=?ok,qM:=hE,pJ:=⟨.inl ⟨⟨XK,hE.lt⟩,Row.apart hE hx (by decide)⟩,fun c=>(hown _ c).2.2.1 rfl⟩,sh:=a1',tg:=dO a2,an:=dO a3,po:=⟨_,AQ a4,?ed⟩,rw:=fun r hr=>dO (a5 r hr).1,th:=⟨_,int.vO hg hcs,?th⟩,gd:=fun t ht=>dO (hG t ht).1,gg:=fun t ht=>dO (hG t ht).2.1,ow:=fun k hk=>.inl ⟨⟨(hown k hk).1,(hown k hk).2.1⟩,PO k hk⟩,lt:=?lt}⟩)|(have _:Kn 1:=kk;refine ⟨L,rfl,rfl,rfl,rfl,rfl,{ok:=?ok,qM:=hE,pJ:=⟨.inl ⟨⟨XK,hE.lt⟩,Row.apart hE hx (by decide)⟩,fun c=>(hown _ c).2.2.1 rfl⟩,sh:=a1',tg:=dO a2,an:=dO a3,po:=⟨_,AQ a4,?ed⟩,rw:=fun r hr=>dO (a5 r hr).1,th:=⟨_,list.vO hg hcs,?th⟩,gd:=fun t ht=>dO (hG t ht).1,gg:=fun t ht=>dO (hG t ht).2.1,ow:=fun k hk=>.inl ⟨⟨(hown k hk).1,(hown k hk).2.1⟩,PO k hk⟩,lt:=?lt}⟩)|(have _:Kn 2:=kk;refine ⟨L,rfl,rfl,rfl,rfl,rfl,{ok:=?ok,qM:=hE,pJ:=⟨.inl ⟨⟨XK,hE.lt⟩,Row.apart hE hx (by decide)⟩,fun c=>(hown _ c).2.2.1 rfl⟩,sh:=a1',tg:=dO a2,an:=dO a3,po:=⟨_,AQ a4,?ed⟩,rw:=fun r hr=>dO (a5 r hr).1,th:=⟨_,tree.vO hg hcs,?th⟩,gd:=fun t ht=>dO (hG t ht).1,gg:=fun t ht=>dO (hG t ht).2.1,ow:=fun k hk=>.inl ⟨⟨(hown k hk).1,(hown k hk).2.1⟩,PO k hk⟩,lt:=?lt}⟩)|(have _:Kn 3:=kk;refine ⟨L,rfl,rfl,rfl,rfl,rfl,{ok:=?ok,qM:=hE,pJ:=⟨.inl ⟨⟨XK,hE.lt⟩,Row.apart hE hx (by decide)⟩,fun c=>(hown _ c).2.2.1 rfl⟩,sh:=a1',tg:=dO a2,an:=dO a3,po:=⟨_,AQ a4,?ed⟩,rw:=fun r hr=>dO (a5 r hr).1,th:=⟨_,row.vO hg hcs,?th⟩,gd:=fun t ht=>dO (hG t ht).1,gg:=fun t ht=>dO (hG t ht).2.1,ow:=fun k hk=>.inl ⟨⟨(hown k hk).1,(hown k hk).2.1⟩,PO k hk⟩,lt:=?lt}⟩)
   case lt =>
    rintro k (hk|hk)
    ·exact hk.1.2
    ·have:=RD k hk;omega
   case ok =>
    have hlt:∀ r s,r<2*n+1→s<2*n+1→bW r=bW s→r=s:=by
     intro r s hr hs q
     rcases Nat.lt_trichotomy r s with c|c|c
     ·have:=a6 r s c hs;omega
     ·exact c
     ·have:=a6 s r c hr;omega
    refine {n1:=hn,n64:=tY,WU:=hc,gn:=hnc,tw:=fun r hr=>?_,ww:=hlt,dg:=fun t u ht hu=>?_,dd:=fun t u ht hu q=>?_,gg:=fun t u ht hu q=>?_}
    ·have:=(a5 r hr).2.1
     show aZ≠bW r
     omega
    ·show gD t≠gG u
     rcases Nat.lt_trichotomy t u with c|c|c
     ·exact (hD t u c hu).2.1
     ·subst c;exact (hG t ht).2.2.2.2.2.2
     ·exact Ne.symm (hD u t c ht).2.2.1
    ·rcases Nat.lt_trichotomy t u with c|c|c
     ·exact absurd q (hD t u c hu).1
     ·exact c
     ·exact absurd q.symm (hD u t c ht).1
    ·rcases Nat.lt_trichotomy t u with c|c|c
     ·exact absurd q (hD t u c hu).2.2.2
     ·exact c
     ·exact absurd q.symm (hD u t c ht).2.2.2
   case ed =>
    intro r hr v' f' hq
    by_cases c:r=0
    ·subst c
     simp only [M.E0,if_true,Option.some.injEq,Prod.mk.injEq] at hq
     obtain ⟨rfl,rfl⟩:=hq
     first|(have _:Kn 0:=kk;exact ⟨bE,[.int .i64 0]++[.pointer (some ⟨bB,0,none⟩)],[.int .i64 0]++[.pointer (some ⟨bB,0,none⟩)],by simp,iE,a8',hV,hV⟩)|(have _:Kn 1:=kk;exact ⟨bE,[.pointer none]++[.pointer (some ⟨bB,0,none⟩)],[.pointer none]++[.pointer (some ⟨bB,0,none⟩)],by simp,iE,a8',hV,hV⟩)|(have _:Kn 2:=kk;exact ⟨bE,[.pointer none]++[.pointer (some ⟨bB,0,none⟩)],[.pointer none]++[.pointer (some ⟨bB,0,none⟩)],by simp,iE,a8',hV,hV⟩)|(have _:Kn 3:=kk;exact ⟨bE,[.pointer none,.pointer none]++[.pointer (some ⟨bB,0,none⟩)],[.pointer none,.pointer none]++[.pointer (some ⟨bB,0,none⟩)],by simp,iE,a8',hV,hV⟩)
    ·simp [M.E0,c] at hq
   case th =>
    intro t ht
    first|(have _:Kn 0:=kk;refine ⟨[.int .i64 0]++[.pointer none],[.int .i64 0]++[.pointer none],.slice none 0 0,?_,⟨rfl,fun u hu=>nomatch hu⟩,⟨rfl,fun u hu=>nomatch hu⟩,.inl ⟨rfl,rfl⟩⟩)|(have _:Kn 1:=kk;refine ⟨[.pointer none]++[.pointer none],[.pointer none]++[.pointer none],.slice none 0 0,?_,⟨rfl,fun u hu=>nomatch hu⟩,⟨rfl,fun u hu=>nomatch hu⟩,.inl ⟨rfl,rfl⟩⟩)|(have _:Kn 2:=kk;refine ⟨[.pointer none]++[.pointer none],[.pointer none]++[.pointer none],.slice none 0 0,?_,⟨rfl,fun u hu=>nomatch hu⟩,⟨rfl,fun u hu=>nomatch hu⟩,.inl ⟨rfl,rfl⟩⟩)|(have _:Kn 3:=kk;refine ⟨[.pointer none,.pointer none]++[.pointer none],[.pointer none,.pointer none]++[.pointer none],.slice none 0 0,?_,⟨rfl,fun u hu=>nomatch hu⟩,⟨rfl,fun u hu=>nomatch hu⟩,.inl ⟨rfl,rfl⟩⟩)
    intro j v' hv
    first|(have _:Kn 0:=kk;refine (have hj:j<28:=?_;?_))|(have _:Kn 1:=kk;refine (have hj:j<28:=?_;?_))|(have _:Kn 2:=kk;refine (have hj:j<28:=?_;?_))|(have _:Kn 3:=kk;refine (have hj:j<30:=?_;?_))
    ·have:=(List.getElem?_eq_some_iff.mp hv).1
     first|(have _:Kn 0:=kk;simpa [int.aO] using this)|(have _:Kn 1:=kk;simpa [list.aO] using this)|(have _:Kn 2:=kk;simpa [tree.aO] using this)|(have _:Kn 3:=kk;simpa [row.aO] using this)
    first|(have _:Kn 0:=kk;rw [int.jQ L t] at hv)|(have _:Kn 1:=kk;rw [list.jQ L t] at hv)|(have _:Kn 2:=kk;rw [tree.jQ L t] at hv)|(have _:Kn 3:=kk;rw [row.jQ L t] at hv)
    first|(have _:Kn 0:=kk;show (cur.toList[t*28+j]?).getD (.int .i64 0)=v')|(have _:Kn 1:=kk;show (cur.toList[t*28+j]?).getD (.int .i64 0)=v')|(have _:Kn 2:=kk;show (cur.toList[t*28+j]?).getD (.int .i64 0)=v')|(have _:Kn 3:=kk;show (cur.toList[t*30+j]?).getD (.int .i64 0)=v')
    first|(have _:Kn 0:=kk;rw [←int.gM bS n (cap:Int) gD gG n t j ht hj,←htk,List.getElem?_take] at hv)|(have _:Kn 1:=kk;rw [←list.gM bS n (cap:Int) gD gG n t j ht hj,←htk,List.getElem?_take] at hv)|(have _:Kn 2:=kk;rw [←tree.gM bS n (cap:Int) gD gG n t j ht hj,←htk,List.getElem?_take] at hv)|(have _:Kn 3:=kk;rw [←row.gM bS n (cap:Int) gD gG n t j ht hj,←htk,List.getElem?_take] at hv)
    split at hv
    ·rw [hv];rfl
    ·cases hv
theorem int.RE.new2:pF:=uO.1
theorem list.RE.new2:pF:=uO.2.1
theorem tree.RE.new2:pF:=uO.2.2.1
theorem row.RE.new2:pF:=uO.2.2.2
theorem int.Both.new2 {σ:Type} {R:SR σ} {P:M.Plain σ} {w0 w:World} {x:Nat} {xl:List Value} (hx:Row w x 44 xl) {n cap:Nat} {oT:TypeId} {ov:Value} {b:Nat} (h:bG w0 n (cap:Int) oT ov b w) (hn:1≤n) (tY:n≤64) (hc:cap≤64) {G:Nat→Prop} (RD:∀ k,G k→k<w0.heap.size) (hz:∀ I:Nat→Prop,(∀ k,G k→I k)→R.rep I w P.first [.int .i64 0]) :
  ∃ L:Lt,L.n=n∧L.cap=cap∧L.oT=oT∧L.ov=ov∧L.bE=b∧Both R P L (fun k=>((w0.heap.size≤k∧k<w.heap.size)∧k≠x)∨G k) (M.E0 P ⟨P.first,[]⟩) M.Y0 w:=by
 obtain ⟨L,e1,e2,e3,e4,e5,r⟩:=RE.new2 (P:=P) hx h hn tY hc RD hz
 exact ⟨L,e1,e2,e3,e4,e5,r,M.wB P L.n L.cap _,M.zQ P L.n _,M.zR _ P L.n _⟩
theorem list.Both.new2 {σ:Type} {R:SR σ} {P:M.Plain σ} {w0 w:World} {x:Nat} {xl:List Value} (hx:Row w x 44 xl) {n cap:Nat} {oT:TypeId} {ov:Value} {b:Nat} (h:bG w0 n (cap:Int) oT ov b w) (hn:1≤n) (tY:n≤64) (hc:cap≤64) {G:Nat→Prop} (RD:∀ k,G k→k<w0.heap.size) (hz:∀ I:Nat→Prop,(∀ k,G k→I k)→R.rep I w P.first [.pointer none]) :
  ∃ L:Lt,L.n=n∧L.cap=cap∧L.oT=oT∧L.ov=ov∧L.bE=b∧Both R P L (fun k=>((w0.heap.size≤k∧k<w.heap.size)∧k≠x)∨G k) (M.E0 P ⟨P.first,[]⟩) M.Y0 w:=by
 obtain ⟨L,e1,e2,e3,e4,e5,r⟩:=RE.new2 (P:=P) hx h hn tY hc RD hz
 exact ⟨L,e1,e2,e3,e4,e5,r,M.wB P L.n L.cap _,M.zQ P L.n _,M.zR _ P L.n _⟩
theorem tree.Both.new2 {σ:Type} {R:SR σ} {P:M.Plain σ} {w0 w:World} {x:Nat} {xl:List Value} (hx:Row w x 44 xl) {n cap:Nat} {oT:TypeId} {ov:Value} {b:Nat} (h:bG w0 n (cap:Int) oT ov b w) (hn:1≤n) (tY:n≤64) (hc:cap≤64) {G:Nat→Prop} (RD:∀ k,G k→k<w0.heap.size) (hz:∀ I:Nat→Prop,(∀ k,G k→I k)→R.rep I w P.first [.pointer none]) :
  ∃ L:Lt,L.n=n∧L.cap=cap∧L.oT=oT∧L.ov=ov∧L.bE=b∧Both R P L (fun k=>((w0.heap.size≤k∧k<w.heap.size)∧k≠x)∨G k) (M.E0 P ⟨P.first,[]⟩) M.Y0 w:=by
 obtain ⟨L,e1,e2,e3,e4,e5,r⟩:=RE.new2 (P:=P) hx h hn tY hc RD hz
 exact ⟨L,e1,e2,e3,e4,e5,r,M.wB P L.n L.cap _,M.zQ P L.n _,M.zR _ P L.n _⟩
theorem row.Both.new2 {σ:Type} {R:SR σ} {P:M.Plain σ} {w0 w:World} {x:Nat} {xl:List Value} (hx:Row w x 44 xl) {n cap:Nat} {oT:TypeId} {ov:Value} {b:Nat} (h:bG w0 n (cap:Int) oT ov b w) (hn:1≤n) (tY:n≤64) (hc:cap≤64) {G:Nat→Prop} (RD:∀ k,G k→k<w0.heap.size) (hz:∀ I:Nat→Prop,(∀ k,G k→I k)→R.rep I w P.first [.pointer none,.pointer none]) :
  ∃ L:Lt,L.n=n∧L.cap=cap∧L.oT=oT∧L.ov=ov∧L.bE=b∧Both R P L (fun k=>((w0.heap.size≤k∧k<w.heap.size)∧k≠x)∨G k) (M.E0 P ⟨P.first,[]⟩) M.Y0 w:=by
 obtain ⟨L,e1,e2,e3,e4,e5,r⟩:=RE.new2 (P:=P) hx h hn tY hc RD hz
 exact ⟨L,e1,e2,e3,e4,e5,r,M.wB P L.n L.cap _,M.zQ P L.n _,M.zR _ P L.n _⟩
end Go.Proofs.YtefjhnhdagolhabGreat
