import Derived.Test.YtefjhnhdagolhabGreatQ25
import Derived.Test.YtefjhnhdagolhabGreatQ26
set_option maxHeartbeats 16000000
set_option maxRecDepth 20000
namespace Go.Proofs.YtefjhnhdagolhabGreat
open int list tree
open Go.RowKit
open M (aH aC aE Op cY aS aK aR aL aM)
attribute [local go_sem ↓] Go.wp_at_zero Go.wp_at_succ
def int.RE.iH:Prop:=∀ {σ:Type} {R:SR σ} {L:Lt} {S:Nat→Prop} {E:aK σ} {w:World} {t:Nat} (_h:RE R L S E w) (_ht:t<L.n) {j:Nat} (_hj:j<3) (x:Int),RE R L S {E with th:=aH E.th t {E.th t with heard:=aH (E.th t).heard j x}} (w.setCell ⟨L.g,t*28+21+j,none⟩ (.int .i64 x))
def list.RE.iH:Prop:=∀ {σ:Type} {R:SR σ} {L:Lt} {S:Nat→Prop} {E:aK σ} {w:World} {t:Nat} (_h:RE R L S E w) (_ht:t<L.n) {j:Nat} (_hj:j<3) (x:Int),RE R L S {E with th:=aH E.th t {E.th t with heard:=aH (E.th t).heard j x}} (w.setCell ⟨L.g,t*28+21+j,none⟩ (.int .i64 x))
def tree.RE.iH:Prop:=∀ {σ:Type} {R:SR σ} {L:Lt} {S:Nat→Prop} {E:aK σ} {w:World} {t:Nat} (_h:RE R L S E w) (_ht:t<L.n) {j:Nat} (_hj:j<3) (x:Int),RE R L S {E with th:=aH E.th t {E.th t with heard:=aH (E.th t).heard j x}} (w.setCell ⟨L.g,t*28+21+j,none⟩ (.int .i64 x))
theorem oZ:int.RE.iH∧list.RE.iH∧tree.RE.iH:=by
 refine ⟨?_,?_,?_⟩<;>intro σ R L S E w t h ht j hj x
 all_goals
  rcases (by omega:j=0∨j=1∨j=2) with q|q|q<;>subst q
  ·exact (h.fM ht 21 (by decide) (.int .i64 x) {E.th t with heard:=aH (E.th t).heard 0 x} rfl rfl rfl rfl rfl (by intros;rfl)).1
  ·exact (h.fM ht 22 (by decide) (.int .i64 x) {E.th t with heard:=aH (E.th t).heard 1 x} rfl rfl rfl rfl rfl (by intros;rfl)).1
  ·exact (h.fM ht 23 (by decide) (.int .i64 x) {E.th t with heard:=aH (E.th t).heard 2 x} rfl rfl rfl rfl rfl (by intros;rfl)).1
theorem int.RE.uH:iH:=oZ.1
theorem list.RE.uH:iH:=oZ.2.1
theorem tree.RE.uH:iH:=oZ.2.2
theorem row.RE.uH {σ:Type} {R:SR σ} {L:Lt} {S:Nat→Prop} {E:aK σ} {w:World} {t:Nat} (h:RE R L S E w) (ht:t<L.n) {j:Nat} (hj:j<3) (x:Int):RE R L S {E with th:=aH E.th t {E.th t with heard:=aH (E.th t).heard j x}} (w.setCell ⟨L.g,t*30+23+j,none⟩ (.int .i64 x)):=by
 rcases (by omega:j=0∨j=1∨j=2) with q|q|q<;>subst q
 ·exact (h.fM ht 23 (by decide) (.int .i64 x) {E.th t with heard:=aH (E.th t).heard 0 x} rfl rfl rfl rfl rfl (by intros;rfl)).1
 ·exact (h.fM ht 24 (by decide) (.int .i64 x) {E.th t with heard:=aH (E.th t).heard 1 x} rfl rfl rfl rfl rfl (by intros;rfl)).1
 ·exact (h.fM ht 25 (by decide) (.int .i64 x) {E.th t with heard:=aH (E.th t).heard 2 x} rfl rfl rfl rfl rfl (by intros;rfl)).1
def int.qT {σ:Type} (E:aK σ) (t:Nat):aS σ:={E.th t with heard:=aH (E.th t).heard ((E.th t).past % 3) (E.eJ ((E.th t).aI.getD ((E.th t).past / 3) 0) ((E.th t).past % 3))}
def int.gF {σ:Type} (P:M.Plain σ) (n:Nat) (E:aK σ) (t:Nat):aS σ:=if (E.th t).past % 3=2 then (qT E t).apply P n ((E.th t).aI.getD ((E.th t).past / 3) 0) else qT E t
def int.gV {σ:Type} (P:M.Plain σ) (n:Nat) (E:aK σ) (t:Nat):aS σ:=if (E.th t).past+1=3*(E.th t).aI.length then (gF P n E t).close n else gF P n E t
theorem int.NH {σ:Type} (P:M.Plain σ) (n k:Nat) (e:aS σ):(aS.apply P n e k).past=e.past∧(aS.apply P n e k).aI=e.aI∧(aS.apply P n e k).stamp=e.stamp∧(aS.apply P n e k).aQ=e.aQ∧(aS.apply P n e k).cC=e.cC∧(e.now.isSome→(aS.apply P n e k).now.isSome):=by
 unfold aS.apply
 cases hq:e.now with
 |none=>exact ⟨rfl,rfl,rfl,rfl,rfl,fun q=>by cases q⟩
 |some v=>exact ⟨rfl,rfl,rfl,rfl,rfl,fun _=>rfl⟩
theorem int.pX {σ:Type} (P:M.Plain σ) (n:Nat) (E:aK σ) (t:Nat):(gF P n E t).past=(E.th t).past∧(gF P n E t).aI=(E.th t).aI∧(gF P n E t).stamp=(E.th t).stamp∧(gF P n E t).aQ=(E.th t).aQ∧(gF P n E t).cC=(E.th t).cC∧((E.th t).now.isSome→(gF P n E t).now.isSome):=by
 unfold gF
 split
 ·exact NH P n _ (qT E t)
 ·exact ⟨rfl,rfl,rfl,rfl,rfl,fun q=>q⟩
theorem int.pY {σ:Type} (P:M.Plain σ) (n:Nat) (E:aK σ) (t:Nat):(gV P n E t).past=(E.th t).past:=by
 unfold gV
 split
 ·exact (pX P n E t).1
 ·exact (pX P n E t).1
def int.RE.pZ:Prop:=∀ {σ:Type} {R:SR σ} {L:Lt} {S:Nat→Prop} {E:aK σ} {w:World} {t:Nat} (_h:RE R L S E w) (_ht:t<L.n) {e:aS σ} (_he:E.th t=e) (_GG:e.aI≠[]),∃ gp pc,w.cell? ⟨L.g,t*28+20,none⟩=some (.slice (some ⟨gp,0,none⟩) e.aI.length pc)
def list.RE.pZ:Prop:=∀ {σ:Type} {R:SR σ} {L:Lt} {S:Nat→Prop} {E:aK σ} {w:World} {t:Nat} (_h:RE R L S E w) (_ht:t<L.n) {e:aS σ} (_he:E.th t=e) (_GG:e.aI≠[]),∃ gp pc,w.cell? ⟨L.g,t*28+20,none⟩=some (.slice (some ⟨gp,0,none⟩) e.aI.length pc)
def tree.RE.pZ:Prop:=∀ {σ:Type} {R:SR σ} {L:Lt} {S:Nat→Prop} {E:aK σ} {w:World} {t:Nat} (_h:RE R L S E w) (_ht:t<L.n) {e:aS σ} (_he:E.th t=e) (_GG:e.aI≠[]),∃ gp pc,w.cell? ⟨L.g,t*28+20,none⟩=some (.slice (some ⟨gp,0,none⟩) e.aI.length pc)
theorem vN:int.RE.pZ∧list.RE.pZ∧tree.RE.pZ:=by
 refine ⟨?_,?_,?_⟩<;>intro σ R L S E w t h ht e he hne
 all_goals
  obtain ⟨cv,cf,pv,hc,hcv,eE,SI,-⟩:=h.cells ht he
  obtain ⟨x0,x1,rfl⟩:=aD hcv.1
  obtain ⟨y0,y1,rfl⟩:=aD eE.1
  have:=hc 20 _ (by decide) rfl
  rcases SI with ⟨-,q⟩|⟨gp,pl,pc,-,q2,q3⟩
  ·exact absurd q hne
  ·obtain ⟨a,cap,e1,-,-,-⟩:=q3
   rw [q2] at e1
   injection e1 with e5 e6 e7
   have el:pl=e.aI.length:=by rw [e6];simp [ints]
   exact ⟨gp,pc,by rw [this,q2,el]⟩
theorem int.RE.KQ:pZ:=vN.1
theorem list.RE.KQ:pZ:=vN.2.1
theorem tree.RE.KQ:pZ:=vN.2.2
theorem row.RE.KQ {σ:Type} {R:SR σ} {L:Lt} {S:Nat→Prop} {E:aK σ} {w:World} {t:Nat} (h:RE R L S E w) (ht:t<L.n) {e:aS σ} (he:E.th t=e) (hne:e.aI≠[]):∃ gp pc,w.cell? ⟨L.g,t*30+22,none⟩=some (.slice (some ⟨gp,0,none⟩) e.aI.length pc):=by
 obtain ⟨cv,cf,pv,hc,hcv,eE,SI,-⟩:=h.cells ht he
 obtain ⟨x0,x1,x2,rfl⟩:=aD hcv.1
 obtain ⟨y0,y1,y2,rfl⟩:=aD eE.1
 have:=hc 22 _ (by decide) rfl
 rcases SI with ⟨-,q⟩|⟨gp,pl,pc,-,q2,q3⟩
 ·exact absurd q hne
 ·obtain ⟨a,cap,e1,-,-,-⟩:=q3
  rw [q2] at e1
  injection e1 with e5 e6 e7
  have el:pl=e.aI.length:=by rw [e6];simp [ints]
  exact ⟨gp,pc,by rw [this,q2,el]⟩
def int.jN:Prop:=∀ {σ:Type} {R:SR σ} {L:Lt} {S:Nat→Prop} {E:aK σ} {w:World} {t:Nat} {P:M.Plain σ} {fA:Nat} {rv:Value} (_hA:cE R P L fA rv) (_h:RE R L S E w) (_ht:t<L.n) (_hN:(E.th t).stamp≤1000000000) (_hr:(E.th t).aQ<129) {v f:cY σ} (_hv:(E.th t).now=some v) (_hf:(E.th t).cC=some f) (_RB:R.sz v.st≤1000000000000) (_hp:(E.th t).past<3*(E.th t).aI.length) (_hl:(E.th t).aI.length≤64) (_hk:(E.th t).aI.getD ((E.th t).past / 3) 0<L.n),Calls Tryz.prog 121 #[.pointer (some ⟨L.g,t*28,none⟩)] w fun e w'=>e = .returned (.tuple #[])∧aF R L S w {E with th:=aH E.th t ((gV P L.n E t).pass (3*(E.th t).aI.length) 9)} w'
def list.jN:Prop:=∀ {σ:Type} {R:SR σ} {L:Lt} {S:Nat→Prop} {E:aK σ} {w:World} {t:Nat} {P:M.Plain σ} {fA:Nat} {rv:Value} (_hA:cE R P L fA rv) (_h:RE R L S E w) (_ht:t<L.n) (_hN:(E.th t).stamp≤1000000000) (_hr:(E.th t).aQ<129) {v f:cY σ} (_hv:(E.th t).now=some v) (_hf:(E.th t).cC=some f) (_RB:R.sz v.st≤1000000000000) (_hp:(E.th t).past<3*(E.th t).aI.length) (_hl:(E.th t).aI.length≤64) (_hk:(E.th t).aI.getD ((E.th t).past / 3) 0<L.n),Calls Tryz.prog 181 #[.pointer (some ⟨L.g,t*28,none⟩)] w fun e w'=>e = .returned (.tuple #[])∧aF R L S w {E with th:=aH E.th t ((gV P L.n E t).pass (3*(E.th t).aI.length) 9)} w'
def tree.jN:Prop:=∀ {σ:Type} {R:SR σ} {L:Lt} {S:Nat→Prop} {E:aK σ} {w:World} {t:Nat} {P:M.Plain σ} {fA:Nat} {rv:Value} (_hA:cE R P L fA rv) (_h:RE R L S E w) (_ht:t<L.n) (_hN:(E.th t).stamp≤1000000000) (_hr:(E.th t).aQ<129) {v f:cY σ} (_hv:(E.th t).now=some v) (_hf:(E.th t).cC=some f) (_RB:R.sz v.st≤1000000000000) (_hp:(E.th t).past<3*(E.th t).aI.length) (_hl:(E.th t).aI.length≤64) (_hk:(E.th t).aI.getD ((E.th t).past / 3) 0<L.n),Calls Tryz.prog 255 #[.pointer (some ⟨L.g,t*28,none⟩)] w fun e w'=>e = .returned (.tuple #[])∧aF R L S w {E with th:=aH E.th t ((gV P L.n E t).pass (3*(E.th t).aI.length) 9)} w'
def row.jN:Prop:=∀ {σ:Type} {R:SR σ} {L:Lt} {S:Nat→Prop} {E:aK σ} {w:World} {t:Nat} {P:M.Plain σ} {fA:Nat} {rv:Value} (_hA:cE R P L fA rv) (_h:RE R L S E w) (_ht:t<L.n) (_hN:(E.th t).stamp≤1000000000) (_hr:(E.th t).aQ<129) {v f:cY σ} (_hv:(E.th t).now=some v) (_hf:(E.th t).cC=some f) (_RB:R.sz v.st≤1000000000000) (_hp:(E.th t).past<3*(E.th t).aI.length) (_hl:(E.th t).aI.length≤64) (_hk:(E.th t).aI.getD ((E.th t).past / 3) 0<L.n),Calls Tryz.prog 218 #[.pointer (some ⟨L.g,t*30,none⟩)] w fun e w'=>e = .returned (.tuple #[])∧aF R L S w {E with th:=aH E.th t ((gV P L.n E t).pass (3*(E.th t).aI.length) 9)} w'
open row in
theorem wT:int.jN∧list.jN∧tree.jN∧row.jN:=by
 refine ⟨@mkK _ 0 ?_,@mkK _ 1 ?_,@mkK _ 2 ?_,@mkK _ 3 ?_⟩<;>intro kk σ R L S E w t P fA rv hA h ht hN hr v f hv hf hsz hp hl hk
 all_goals
  obtain ⟨cv,cf,pv,hc,hcv,eE,SI,-⟩:=h.cells ht rfl
  first|(have _:Kn 0:=kk;obtain ⟨x0,x1,rfl⟩:=int.aD hcv.1)|(have _:Kn 1:=kk;obtain ⟨x0,x1,rfl⟩:=int.aD hcv.1)|(have _:Kn 2:=kk;obtain ⟨x0,x1,rfl⟩:=int.aD hcv.1)|(have _:Kn 3:=kk;obtain ⟨x0,x1,x2,rfl⟩:=row.aD hcv.1)
  first|(have _:Kn 0:=kk;obtain ⟨y0,y1,rfl⟩:=int.aD eE.1)|(have _:Kn 1:=kk;obtain ⟨y0,y1,rfl⟩:=int.aD eE.1)|(have _:Kn 2:=kk;obtain ⟨y0,y1,rfl⟩:=int.aD eE.1)|(have _:Kn 3:=kk;obtain ⟨y0,y1,y2,rfl⟩:=row.aD eE.1)
  have hn:=h.ok.n64
  first|(have _:Kn 0:=kk;have c0:w.cell? ⟨L.g,t*28,none⟩=some (.pointer (some ⟨L.bS,0,none⟩)):=hc 0 _ (by decide) rfl)|(have _:Kn 1:=kk;have c0:w.cell? ⟨L.g,t*28,none⟩=some (.pointer (some ⟨L.bS,0,none⟩)):=hc 0 _ (by decide) rfl)|(have _:Kn 2:=kk;have c0:w.cell? ⟨L.g,t*28,none⟩=some (.pointer (some ⟨L.bS,0,none⟩)):=hc 0 _ (by decide) rfl)|(have _:Kn 3:=kk;have c0:w.cell? ⟨L.g,t*30,none⟩=some (.pointer (some ⟨L.bS,0,none⟩)):=hc 0 _ (by decide) rfl)
  have c4:=hc 4 _ (by decide) rfl
  first|(have _:Kn 0:=kk;have SK:=hc 20 _ (by decide) rfl)|(have _:Kn 1:=kk;have SK:=hc 20 _ (by decide) rfl)|(have _:Kn 2:=kk;have SK:=hc 20 _ (by decide) rfl)|(have _:Kn 3:=kk;have SK:=hc 22 _ (by decide) rfl)
  have s3:w.cell? ⟨L.bS,3,none⟩=some (.slice (some ⟨L.aX,0,none⟩) L.n L.n):=h.sh.cell_of rfl
  have hp0:(E.th t).aI≠[]:=by intro q;rw [q] at hp;simp at hp
  obtain ⟨i,hi⟩:∃ i,i=(E.th t).past / 3:=⟨_,rfl⟩
  obtain ⟨j,hj⟩:∃ j,j=(E.th t).past % 3:=⟨_,rfl⟩
  obtain ⟨k,hkk⟩:∃ k,k=(E.th t).aI.getD ((E.th t).past / 3) 0:=⟨_,rfl⟩
  rw [←hkk] at hk
  have hil:i<(E.th t).aI.length:=by omega
  have hj3:j<3:=by omega
  obtain ⟨gp,pc,rfl,cpk⟩:∃ gp pc,pv = .slice (some ⟨gp,0,none⟩) (E.th t).aI.length pc∧w.cell? ⟨gp,i,none⟩=some (.int .i64 (k:Int)):=by
   rcases SI with ⟨-,q⟩|⟨gp,pl,pc,-,q2,q3⟩
   ·exact absurd q hp0
   ·obtain ⟨a,cap,e1,-,-,e4⟩:=q3
    rw [q2] at e1
    injection e1 with e5 e6 e7
    have el:pl=(E.th t).aI.length:=by rw [e6];simp [ints]
    refine ⟨gp,pc,by rw [q2,el],?_⟩
    rcases e4 with e4|⟨g',off,e8,e9⟩
    ·have:(ints ((E.th t).aI.map Int.ofNat)).length=0:=by rw [e4];rfl
     simp [ints] at this
     exact absurd this hp0
    ·rw [e8] at e5
     injection e5 with e5
     injection e5 with e10 e11
     subst e10
     subst e11
     have:=e9 i (.int .i64 (k:Int)) (by
      rw [qI,List.getElem?_map,List.getElem?_eq_getElem hil,hkk,←hi,List.getD_eq_getElem?_getD,List.getElem?_eq_getElem hil]
      rfl)
     rwa [Nat.zero_add] at this
  have hdiv:((E.th t).past:Int) / 3=(i:Int):=by omega
  have hmod:((E.th t).past:Int) % 3=(j:Int):=by omega
  have aFS:(i:Int)<((E.th t).aI.length:Int):=by omega
  have aJJ:(k:Int)<(L.n:Int):=by omega
  have aJK:(j:Int)<3:=by omega
  have a0:w.cell? ⟨L.aX,k*3+j,none⟩=some (.int .i64 (E.eJ k j)):=h.an.cell hk hj3
  first|(have _:Kn 0:=kk;have th:w.there L.g (t*28+21+j) 1:=by obtain ⟨T,q,-⟩:=h.th;have:=q.there (Nat.lt_of_lt_of_le ht h.ok.gn) (show 21+j<28 by omega);rwa [←Nat.add_assoc] at this)|(have _:Kn 1:=kk;have th:w.there L.g (t*28+21+j) 1:=by obtain ⟨T,q,-⟩:=h.th;have:=q.there (Nat.lt_of_lt_of_le ht h.ok.gn) (show 21+j<28 by omega);rwa [←Nat.add_assoc] at this)|(have _:Kn 2:=kk;have th:w.there L.g (t*28+21+j) 1:=by obtain ⟨T,q,-⟩:=h.th;have:=q.there (Nat.lt_of_lt_of_le ht h.ok.gn) (show 21+j<28 by omega);rwa [←Nat.add_assoc] at this)|(have _:Kn 3:=kk;have th:w.there L.g (t*30+23+j) 1:=by obtain ⟨T,q,-⟩:=h.th;have:=q.there (Nat.lt_of_lt_of_le ht h.ok.gn) (show 23+j<30 by omega);rwa [←Nat.add_assoc] at this)
  obtain ⟨nSg,-,nAg,-⟩:=h.CA
  have HE:=aA (show qT E t = {E.th t with heard:=aH (E.th t).heard j (E.eJ k j)} by unfold qT;rw [←hi,←hj] at *;rw [hkk,←hi])
  have HH:=aA h
  have HC:=aA (And.intro hv (And.intro hf hp0))
  have HI:=aA (And.intro hi (And.intro hj hkk))
  clear h hc hcv eE SI hv hf hp0 hi hj hkk
  first|(have _:Kn 0:=kk;go_enter Tryz.func121,Tryz.ntmps121)|(have _:Kn 1:=kk;go_enter Tryz.func181,Tryz.ntmps181)|(have _:Kn 2:=kk;go_enter Tryz.func255,Tryz.ntmps255)|(have _:Kn 3:=kk;go_enter Tryz.func218,Tryz.ntmps218)
  go_upto_region 0 with fail
  go_quiet (fail)
  rw [hmod]
  generalize xH:World.drewN w nq=W0
  first
   |have _:Kn 0:=kk
    obtain ⟨d0,d3,da,dth,r0,k0,d4,dpv⟩:W0.cell? ⟨L.g,t*28,none⟩=some (.pointer (some ⟨L.bS,0,none⟩))∧W0.cell? ⟨L.bS,3,none⟩=some (.slice (some ⟨L.aX,0,none⟩) L.n L.n)∧W0.cell? ⟨L.aX,k*3+j,none⟩=some (.int .i64 (E.eJ k j))∧W0.there L.g (t*28+21+j) 1∧int.RE R L S E W0∧Fr L.own w W0∧W0.cell? ⟨L.g,t*28+4,none⟩=some (.int .i64 ((E.th t).past:Int))∧W0.cell? ⟨L.g,t*28+20,none⟩=some (.slice (some ⟨gp,0,none⟩) (E.th t).aI.length pc):=by
     rw [←xH]
     exact ⟨c0,s3,a0,th,HH.out.drewN nq,(Fr.refl _ w).drewN nq,c4,SK⟩
   |have _:Kn 1:=kk
    obtain ⟨d0,d3,da,dth,r0,k0,d4,dpv⟩:W0.cell? ⟨L.g,t*28,none⟩=some (.pointer (some ⟨L.bS,0,none⟩))∧W0.cell? ⟨L.bS,3,none⟩=some (.slice (some ⟨L.aX,0,none⟩) L.n L.n)∧W0.cell? ⟨L.aX,k*3+j,none⟩=some (.int .i64 (E.eJ k j))∧W0.there L.g (t*28+21+j) 1∧list.RE R L S E W0∧Fr L.own w W0∧W0.cell? ⟨L.g,t*28+4,none⟩=some (.int .i64 ((E.th t).past:Int))∧W0.cell? ⟨L.g,t*28+20,none⟩=some (.slice (some ⟨gp,0,none⟩) (E.th t).aI.length pc):=by
     rw [←xH]
     exact ⟨c0,s3,a0,th,HH.out.drewN nq,(Fr.refl _ w).drewN nq,c4,SK⟩
   |have _:Kn 2:=kk
    obtain ⟨d0,d3,da,dth,r0,k0,d4,dpv⟩:W0.cell? ⟨L.g,t*28,none⟩=some (.pointer (some ⟨L.bS,0,none⟩))∧W0.cell? ⟨L.bS,3,none⟩=some (.slice (some ⟨L.aX,0,none⟩) L.n L.n)∧W0.cell? ⟨L.aX,k*3+j,none⟩=some (.int .i64 (E.eJ k j))∧W0.there L.g (t*28+21+j) 1∧tree.RE R L S E W0∧Fr L.own w W0∧W0.cell? ⟨L.g,t*28+4,none⟩=some (.int .i64 ((E.th t).past:Int))∧W0.cell? ⟨L.g,t*28+20,none⟩=some (.slice (some ⟨gp,0,none⟩) (E.th t).aI.length pc):=by
     rw [←xH]
     exact ⟨c0,s3,a0,th,HH.out.drewN nq,(Fr.refl _ w).drewN nq,c4,SK⟩
   |have _:Kn 3:=kk
    obtain ⟨d0,d3,da,dth,r0,k0,d4,dpv⟩:W0.cell? ⟨L.g,t*30,none⟩=some (.pointer (some ⟨L.bS,0,none⟩))∧W0.cell? ⟨L.bS,3,none⟩=some (.slice (some ⟨L.aX,0,none⟩) L.n L.n)∧W0.cell? ⟨L.aX,k*3+j,none⟩=some (.int .i64 (E.eJ k j))∧W0.there L.g (t*30+23+j) 1∧row.RE R L S E W0∧Fr L.own w W0∧W0.cell? ⟨L.g,t*30+4,none⟩=some (.int .i64 ((E.th t).past:Int))∧W0.cell? ⟨L.g,t*30+22,none⟩=some (.slice (some ⟨gp,0,none⟩) (E.th t).aI.length pc):=by
     rw [←xH]
     exact ⟨c0,s3,a0,th,HH.out.drewN nq,(Fr.refl _ w).drewN nq,c4,SK⟩
  have H1:=aA (r0.drew.uH ht hj3 (E.eJ k j))
  have K0:=aA k0
  clear xH r0 k0 c0 s3 a0 th c4 SK cpk hdiv hmod hil aFS
  go_upto_region 1 with fail
  first|(have _:Kn 0:=kk;refine fQ (S:=(fun w'=>w'.cell? ⟨L.g,t*28,none⟩=some (.pointer (some ⟨L.bS,0,none⟩))∧w'.cell? ⟨L.g,t*28+4,none⟩=some (.int .i64 ((E.th t).past:Int))∧w'.cell? ⟨L.g,t*28+20,none⟩=some (.slice (some ⟨gp,0,none⟩) (E.th t).aI.length pc)∧w'.cell? ⟨L.bS,3,none⟩=some (.slice (some ⟨L.aX,0,none⟩) L.n L.n)∧w'.cell? ⟨L.aX,k*3+j,none⟩=some (.int .i64 (E.eJ k j))∧w'.there (L.g) (t*28+21+j) 1)) 18 rfl (by kernel_rfl) ?_ (fun hHeld=>?_))|(have _:Kn 1:=kk;refine fQ (S:=(fun w'=>w'.cell? ⟨L.g,t*28,none⟩=some (.pointer (some ⟨L.bS,0,none⟩))∧w'.cell? ⟨L.g,t*28+4,none⟩=some (.int .i64 ((E.th t).past:Int))∧w'.cell? ⟨L.g,t*28+20,none⟩=some (.slice (some ⟨gp,0,none⟩) (E.th t).aI.length pc)∧w'.cell? ⟨L.bS,3,none⟩=some (.slice (some ⟨L.aX,0,none⟩) L.n L.n)∧w'.cell? ⟨L.aX,k*3+j,none⟩=some (.int .i64 (E.eJ k j))∧w'.there (L.g) (t*28+21+j) 1)) 18 rfl (by kernel_rfl) ?_ (fun hHeld=>?_))|(have _:Kn 2:=kk;refine fQ (S:=(fun w'=>w'.cell? ⟨L.g,t*28,none⟩=some (.pointer (some ⟨L.bS,0,none⟩))∧w'.cell? ⟨L.g,t*28+4,none⟩=some (.int .i64 ((E.th t).past:Int))∧w'.cell? ⟨L.g,t*28+20,none⟩=some (.slice (some ⟨gp,0,none⟩) (E.th t).aI.length pc)∧w'.cell? ⟨L.bS,3,none⟩=some (.slice (some ⟨L.aX,0,none⟩) L.n L.n)∧w'.cell? ⟨L.aX,k*3+j,none⟩=some (.int .i64 (E.eJ k j))∧w'.there (L.g) (t*28+21+j) 1)) 18 rfl (by kernel_rfl) ?_ (fun hHeld=>?_))|(have _:Kn 3:=kk;refine fQ (S:=(fun w'=>w'.cell? ⟨L.g,t*30,none⟩=some (.pointer (some ⟨L.bS,0,none⟩))∧w'.cell? ⟨L.g,t*30+4,none⟩=some (.int .i64 ((E.th t).past:Int))∧w'.cell? ⟨L.g,t*30+22,none⟩=some (.slice (some ⟨gp,0,none⟩) (E.th t).aI.length pc)∧w'.cell? ⟨L.bS,3,none⟩=some (.slice (some ⟨L.aX,0,none⟩) L.n L.n)∧w'.cell? ⟨L.aX,k*3+j,none⟩=some (.int .i64 (E.eJ k j))∧w'.there (L.g) (t*30+23+j) 1)) 18 rfl (by kernel_rfl) ?_ (fun hHeld=>?_))
  ·exact ⟨d0,d4,dpv,d3,da,dth⟩
  iterate 13 (refine tk 17 (by rfl) (by kernel_rfl) (by exact fun _ _ _ h=>h) (.inl ⟨by rfl,fun w hS=>by (try dsimp only at hS);go_simp;(try with_reducible rfl)⟩) (by assumption) ?_;try go_frame)
  iterate 2 (refine tk 18 (by rfl) (by kernel_rfl) (by exact fun _ _ _ h=>h) (.inl ⟨by rfl,fun w hS=>by (try dsimp only at hS);go_simp;(try with_reducible rfl)⟩) (by assumption) ?_;try go_frame)
  refine bK 13 (by rfl) (by kernel_rfl) (fun K hK=>?_)
  go_simp
  refine (rE L.aX (k*3+j) _ _ hHeld.2.2.2.2.1).mono ?_
  rintro e w3 ⟨rfl,rfl⟩
  go_wp2_with fail
  refine hK.out _ _ ?_ (fun hHeld=>?_)
  ·exact hHeld
  clear hK K
  (try go_frame)
  iterate 1 (refine tk 17 (by rfl) (by kernel_rfl) (by exact fun _ _ _ h=>h) (.inl ⟨by rfl,fun w hS=>by (try dsimp only at hS);go_simp;(try with_reducible rfl)⟩) (by assumption) ?_;try go_frame)
  refine bK 17 (by rfl) (by kernel_rfl) (fun K hK=>?_)
  rw [if_pos (by rfl)]
  first|(have _:Kn 0:=kk;refine aP _ _ _ rfl L.g (t*28+21+j) (.int .i64 (E.eJ k j)) rfl rfl rfl rfl hHeld.2.2.2.2.2 (by kernel_rfl) ?_)|(have _:Kn 1:=kk;refine aP _ _ _ rfl L.g (t*28+21+j) (.int .i64 (E.eJ k j)) rfl rfl rfl rfl hHeld.2.2.2.2.2 (by kernel_rfl) ?_)|(have _:Kn 2:=kk;refine aP _ _ _ rfl L.g (t*28+21+j) (.int .i64 (E.eJ k j)) rfl rfl rfl rfl hHeld.2.2.2.2.2 (by kernel_rfl) ?_)|(have _:Kn 3:=kk;refine aP _ _ _ rfl L.g (t*30+23+j) (.int .i64 (E.eJ k j)) rfl rfl rfl rfl hHeld.2.2.2.2.2 (by kernel_rfl) ?_)
  refine hK.out _ _ ?_ (fun hHeld=>?_)
  ·exact ⟨aJ hHeld.1 (by first|exact .inr (by dsimp only;omega)|exact .inl (by assumption)|exact .inl (Ne.symm (by assumption))),aJ hHeld.2.1 (by first|exact .inr (by dsimp only;omega)|exact .inl (by assumption)|exact .inl (Ne.symm (by assumption))),aJ hHeld.2.2.1 (by first|exact .inr (by dsimp only;omega)|exact .inl (by assumption)|exact .inl (Ne.symm (by assumption))),aJ hHeld.2.2.2.1 (by first|exact .inr (by dsimp only;omega)|exact .inl (by assumption)|exact .inl (Ne.symm (by assumption))),aJ hHeld.2.2.2.2.1 (by first|exact .inr (by dsimp only;omega)|exact .inl (by assumption)|exact .inl (Ne.symm (by assumption))),bM hHeld.2.2.2.2.2 _ rfl _⟩
  clear hK K
  (try go_frame)
  refine wpAnyH_done (by kernel_rfl) ?_ _
  have f4:=hHeld.2.1
  have YL:=hHeld.2.2.1
  clear hHeld
  generalize kS:World.setCell _ _ _=W2
  have xS:aF R L S w {E with th:=aH E.th t (qT E t)} W2:=by
   rw [←kS,HE.out]
   exact aF.of H1.out (K0.out.drew.trans (Fr.set _ kE _)) rfl
  first|(have _:Kn 0:=kk;have g4:W2.cell? ⟨L.g,t*28+4,none⟩=some (.int .i64 ((E.th t).past:Int)):=by rw [←kS];exact f4)|(have _:Kn 1:=kk;have g4:W2.cell? ⟨L.g,t*28+4,none⟩=some (.int .i64 ((E.th t).past:Int)):=by rw [←kS];exact f4)|(have _:Kn 2:=kk;have g4:W2.cell? ⟨L.g,t*28+4,none⟩=some (.int .i64 ((E.th t).past:Int)):=by rw [←kS];exact f4)|(have _:Kn 3:=kk;have g4:W2.cell? ⟨L.g,t*30+4,none⟩=some (.int .i64 ((E.th t).past:Int)):=by rw [←kS];exact f4)
  first|(have _:Kn 0:=kk;have gpv:W2.cell? ⟨L.g,t*28+20,none⟩=some (.slice (some ⟨gp,0,none⟩) (E.th t).aI.length pc):=by rw [←kS];exact YL)|(have _:Kn 1:=kk;have gpv:W2.cell? ⟨L.g,t*28+20,none⟩=some (.slice (some ⟨gp,0,none⟩) (E.th t).aI.length pc):=by rw [←kS];exact YL)|(have _:Kn 2:=kk;have gpv:W2.cell? ⟨L.g,t*28+20,none⟩=some (.slice (some ⟨gp,0,none⟩) (E.th t).aI.length pc):=by rw [←kS];exact YL)|(have _:Kn 3:=kk;have gpv:W2.cell? ⟨L.g,t*30+22,none⟩=some (.slice (some ⟨gp,0,none⟩) (E.th t).aI.length pc):=by rw [←kS];exact YL)
  have EY:=aA xS
  clear kS xS f4 YL d0 d3 da dth d4 dpv
  by_cases hj2:j=2
  ·have q1:(2:Int)≤(j:Int):=by omega
   have q2:(j:Int)≤2:=by omega
   have HJ:=aA (show gF P L.n E t=aS.apply P L.n (qT E t) k by unfold gF;rw [if_pos (by rw [←HI.out.2.1];exact hj2),←HI.out.2.2])
   clear hj2
   go_wp2_with fail
   refine (AD hA EY.out.re ht hk (v:=v) (f:=f) (by simp only [aC];exact HC.out.1) (by simp only [aC];exact HC.out.2.1) hsz).mono ?_
   rintro e w3 ⟨rfl,L3⟩
   have VF:=aA (show aF R L S w {E with th:=aH E.th t (gF P L.n E t)} w3 from (EY.out.next L3).cast (by rw [HJ.out];simp only [bR,aC]))
   clear L3
   obtain ⟨y1,y2,y3,y4,y5,y6⟩:=pX P L.n E t
   obtain ⟨cv7,cf7,pv7,hc7,-,-,-,-⟩:=VF.out.re.cells ht (aC _ _ _)
   have z4:=hc7 4 _ (by decide) rfl
   rw [y1] at z4
   obtain ⟨gp7,pc7,zpv⟩:=VF.out.re.KQ ht (aC _ _ _) (by rw [y2];exact HC.out.2.2)
   rw [y2] at zpv
   have HY:=aA (And.intro y1 (And.intro y2 (And.intro y3 (And.intro y4 (And.intro y5 y6)))))
   clear hc7 y1 y2 y3 y4 y5 y6 g4 gpv
   by_cases tA:(E.th t).past+1=3*(E.th t).aI.length
   ·have l1:((E.th t).past:Int)≤3*((E.th t).aI.length:Int)-1:=by omega
    have l2:3*((E.th t).aI.length:Int)-1≤((E.th t).past:Int):=by omega
    have HLA:=aA (show gV P L.n E t=(gF P L.n E t).close L.n by unfold gV;rw [if_pos tA])
    clear tA
    obtain ⟨v7,hv7⟩:=Option.isSome_iff_exists.1 (HY.out.2.2.2.2.2 (by rw [HC.out.1];rfl))
    have HV7:=aA hv7
    clear hv7
    go_wp2_with fail
    refine (wS VF.out.re ht (by simp only [aC];rw [HY.out.2.2.1];exact hN) (by simp only [aC];rw [HY.out.2.2.2.1];exact hr) (v:=v7) (f:=f) (by simp only [aC];exact HV7.out) (by simp only [aC];rw [HY.out.2.2.2.2.1];exact HC.out.2.1) (by simp only [aC];rw [HY.out.2.1];exact HC.out.2.2)).mono ?_
    rintro e w5 ⟨rfl,L5⟩
    have KP:=aA (show aF R L S w {E with th:=aH E.th t (gV P L.n E t)} w5 from (VF.out.next L5).cast (by rw [HLA.out];simp only [bR,aC]))
    have hps:=jZ KP.out.re ht (3*(E.th t).aI.length) 9 (by omega) (by simp only [aC];rw [pY];omega)
    rw [show ((3*(E.th t).aI.length:Nat):Int)=3*((E.th t).aI.length:Int) by omega] at hps
    have HPS:=aA hps
    clear hps L5
    go_wp2_with fail
    refine HPS.out.mono ?_
    rintro e w6 ⟨rfl,r6,k6⟩
    have HR:=aA (And.intro r6 k6)
    clear r6 k6
    go_wp2
    refine bodyPost_end (v:=.tuple #[]) (by simp [results,Tryz.results121,Tryz.results181,Tryz.results255,Tryz.results218,go_sem]) rfl ⟨rfl,KP.out.next (aF.of (HR.out.1.cast ?_) HR.out.2 rfl)⟩
    simp only [bR,aC]
   ·have l1:¬((E.th t).past:Int)=3*((E.th t).aI.length:Int)-1:=by omega
    have HLA:=aA (show gV P L.n E t=gF P L.n E t by unfold gV;rw [if_neg tA])
    clear tA
    have KP:=aA (show aF R L S w {E with th:=aH E.th t (gV P L.n E t)} w3 from VF.out.cast (by rw [HLA.out]))
    have hps:=jZ KP.out.re ht (3*(E.th t).aI.length) 9 (by omega) (by simp only [aC];rw [pY];omega)
    rw [show ((3*(E.th t).aI.length:Nat):Int)=3*((E.th t).aI.length:Int) by omega] at hps
    have HPS:=aA hps
    clear hps
    go_wp2_with fail
    refine HPS.out.mono ?_
    rintro e w6 ⟨rfl,r6,k6⟩
    have HR:=aA (And.intro r6 k6)
    clear r6 k6
    go_wp2
    refine bodyPost_end (v:=.tuple #[]) (by simp [results,Tryz.results121,Tryz.results181,Tryz.results255,Tryz.results218,go_sem]) rfl ⟨rfl,KP.out.next (aF.of (HR.out.1.cast ?_) HR.out.2 rfl)⟩
    simp only [bR,aC]
  ·have q1:¬(j:Int)=2:=by omega
   have HJ:=aA (show gF P L.n E t=qT E t by unfold gF;rw [if_neg (by rw [←HI.out.2.1];exact hj2)])
   clear hj2
   have VF:=aA (show aF R L S w {E with th:=aH E.th t (gF P L.n E t)} W2 from EY.out.cast (by rw [HJ.out]))
   obtain ⟨y1,y2,y3,y4,y5,y6⟩:=pX P L.n E t
   obtain ⟨cv7,cf7,pv7,hc7,-,-,-,-⟩:=VF.out.re.cells ht (aC _ _ _)
   have z4:=hc7 4 _ (by decide) rfl
   rw [y1] at z4
   obtain ⟨gp7,pc7,zpv⟩:=VF.out.re.KQ ht (aC _ _ _) (by rw [y2];exact HC.out.2.2)
   rw [y2] at zpv
   have HY:=aA (And.intro y1 (And.intro y2 (And.intro y3 (And.intro y4 (And.intro y5 y6)))))
   clear hc7 y1 y2 y3 y4 y5 y6 g4 gpv
   by_cases tA:(E.th t).past+1=3*(E.th t).aI.length
   ·have l1:((E.th t).past:Int)≤3*((E.th t).aI.length:Int)-1:=by omega
    have l2:3*((E.th t).aI.length:Int)-1≤((E.th t).past:Int):=by omega
    have HLA:=aA (show gV P L.n E t=(gF P L.n E t).close L.n by unfold gV;rw [if_pos tA])
    clear tA
    obtain ⟨v7,hv7⟩:=Option.isSome_iff_exists.1 (HY.out.2.2.2.2.2 (by rw [HC.out.1];rfl))
    have HV7:=aA hv7
    clear hv7
    go_wp2_with fail
    refine (wS VF.out.re ht (by simp only [aC];rw [HY.out.2.2.1];exact hN) (by simp only [aC];rw [HY.out.2.2.2.1];exact hr) (v:=v7) (f:=f) (by simp only [aC];exact HV7.out) (by simp only [aC];rw [HY.out.2.2.2.2.1];exact HC.out.2.1) (by simp only [aC];rw [HY.out.2.1];exact HC.out.2.2)).mono ?_
    rintro e w5 ⟨rfl,L5⟩
    have KP:=aA (show aF R L S w {E with th:=aH E.th t (gV P L.n E t)} w5 from (VF.out.next L5).cast (by rw [HLA.out];simp only [bR,aC]))
    have hps:=jZ KP.out.re ht (3*(E.th t).aI.length) 9 (by omega) (by simp only [aC];rw [pY];omega)
    rw [show ((3*(E.th t).aI.length:Nat):Int)=3*((E.th t).aI.length:Int) by omega] at hps
    have HPS:=aA hps
    clear hps L5
    go_wp2_with fail
    refine HPS.out.mono ?_
    rintro e w6 ⟨rfl,r6,k6⟩
    have HR:=aA (And.intro r6 k6)
    clear r6 k6
    go_wp2
    refine bodyPost_end (v:=.tuple #[]) (by simp [results,Tryz.results121,Tryz.results181,Tryz.results255,Tryz.results218,go_sem]) rfl ⟨rfl,KP.out.next (aF.of (HR.out.1.cast ?_) HR.out.2 rfl)⟩
    simp only [bR,aC]
   ·have l1:¬((E.th t).past:Int)=3*((E.th t).aI.length:Int)-1:=by omega
    have HLA:=aA (show gV P L.n E t=gF P L.n E t by unfold gV;rw [if_neg tA])
    clear tA
    have KP:=aA (show aF R L S w {E with th:=aH E.th t (gV P L.n E t)} W2 from VF.out.cast (by rw [HLA.out]))
    have hps:=jZ KP.out.re ht (3*(E.th t).aI.length) 9 (by omega) (by simp only [aC];rw [pY];omega)
    rw [show ((3*(E.th t).aI.length:Nat):Int)=3*((E.th t).aI.length:Int) by omega] at hps
    have HPS:=aA hps
    clear hps
    go_wp2_with fail
    refine HPS.out.mono ?_
    rintro e w6 ⟨rfl,r6,k6⟩
    have HR:=aA (And.intro r6 k6)
    clear r6 k6
    go_wp2
    refine bodyPost_end (v:=.tuple #[]) (by simp [results,Tryz.results121,Tryz.results181,Tryz.results255,Tryz.results218,go_sem]) rfl ⟨rfl,KP.out.next (aF.of (HR.out.1.cast ?_) HR.out.2 rfl)⟩
    simp only [bR,aC]
theorem int.CH:jN:=wT.1
theorem list.CH:jN:=wT.2.1
theorem tree.CH:jN:=wT.2.2.1
theorem row.CH:jN:=wT.2.2.2
end Go.Proofs.YtefjhnhdagolhabGreat
