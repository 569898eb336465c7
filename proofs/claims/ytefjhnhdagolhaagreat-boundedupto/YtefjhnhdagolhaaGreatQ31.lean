import Derived.Test.YtefjhnhdagolhaaGreatQ28
import Derived.Test.YtefjhnhdagolhaaGreatQ30
set_option maxHeartbeats 16000000
set_option maxRecDepth 20000
namespace Go.Proofs.YtefjhnhdagolhaaGreat
open int list tree
open Go.RowKit
open M (aI aC aD Op cY aS aK aQ aL aN)
attribute [local go_sem ↓] Go.wp_at_zero Go.wp_at_succ
def int.RE.iO:Prop:=∀ {σ:Type} {R:SR σ} {L:Lt} {S:Nat→Prop} {E:aK σ} {w:World} {t:Nat} (_h:RE R L S E w) (_ht:t<L.n) {j:Nat} (_hj:j<3) (x:Int),RE R L S {E with th:=aI E.th t {E.th t with heard:=aI (E.th t).heard j x}} (w.setCell ⟨L.g,t*28+21+j,none⟩ (.int .i64 x))
def list.RE.iO:Prop:=∀ {σ:Type} {R:SR σ} {L:Lt} {S:Nat→Prop} {E:aK σ} {w:World} {t:Nat} (_h:RE R L S E w) (_ht:t<L.n) {j:Nat} (_hj:j<3) (x:Int),RE R L S {E with th:=aI E.th t {E.th t with heard:=aI (E.th t).heard j x}} (w.setCell ⟨L.g,t*28+21+j,none⟩ (.int .i64 x))
def tree.RE.iO:Prop:=∀ {σ:Type} {R:SR σ} {L:Lt} {S:Nat→Prop} {E:aK σ} {w:World} {t:Nat} (_h:RE R L S E w) (_ht:t<L.n) {j:Nat} (_hj:j<3) (x:Int),RE R L S {E with th:=aI E.th t {E.th t with heard:=aI (E.th t).heard j x}} (w.setCell ⟨L.g,t*28+21+j,none⟩ (.int .i64 x))
theorem pM:int.RE.iO∧list.RE.iO∧tree.RE.iO:=by
 refine ⟨?_,?_,?_⟩<;>intro σ R L S E w t h ht j hj x
 all_goals
  rcases (by omega:j=0∨j=1∨j=2) with q|q|q<;>subst q
  ·exact (h.fN ht 21 (by decide) (.int .i64 x) {E.th t with heard:=aI (E.th t).heard 0 x} rfl rfl rfl rfl rfl (by intros;rfl)).1
  ·exact (h.fN ht 22 (by decide) (.int .i64 x) {E.th t with heard:=aI (E.th t).heard 1 x} rfl rfl rfl rfl rfl (by intros;rfl)).1
  ·exact (h.fN ht 23 (by decide) (.int .i64 x) {E.th t with heard:=aI (E.th t).heard 2 x} rfl rfl rfl rfl rfl (by intros;rfl)).1
theorem int.RE.uY:iO:=pM.1
theorem list.RE.uY:iO:=pM.2.1
theorem tree.RE.uY:iO:=pM.2.2
theorem row.RE.uY {σ:Type} {R:SR σ} {L:Lt} {S:Nat→Prop} {E:aK σ} {w:World} {t:Nat} (h:RE R L S E w) (ht:t<L.n) {j:Nat} (hj:j<3) (x:Int):RE R L S {E with th:=aI E.th t {E.th t with heard:=aI (E.th t).heard j x}} (w.setCell ⟨L.g,t*30+23+j,none⟩ (.int .i64 x)):=by
 rcases (by omega:j=0∨j=1∨j=2) with q|q|q<;>subst q
 ·exact (h.fN ht 23 (by decide) (.int .i64 x) {E.th t with heard:=aI (E.th t).heard 0 x} rfl rfl rfl rfl rfl (by intros;rfl)).1
 ·exact (h.fN ht 24 (by decide) (.int .i64 x) {E.th t with heard:=aI (E.th t).heard 1 x} rfl rfl rfl rfl rfl (by intros;rfl)).1
 ·exact (h.fN ht 25 (by decide) (.int .i64 x) {E.th t with heard:=aI (E.th t).heard 2 x} rfl rfl rfl rfl rfl (by intros;rfl)).1
def int.rJ {σ:Type} (E:aK σ) (t:Nat):aS σ:={E.th t with heard:=aI (E.th t).heard ((E.th t).past % 3) (E.eH ((E.th t).aJ.getD ((E.th t).past / 3) 0) ((E.th t).past % 3))}
def int.gN {σ:Type} (P:M.Plain σ) (n:Nat) (E:aK σ) (t:Nat):aS σ:=if (E.th t).past % 3=2 then (rJ E t).apply P n ((E.th t).aJ.getD ((E.th t).past / 3) 0) else rJ E t
def int.iC {σ:Type} (P:M.Plain σ) (n:Nat) (E:aK σ) (t:Nat):aS σ:=if (E.th t).past+1=3*(E.th t).aJ.length then (gN P n E t).close n else gN P n E t
theorem int.OD {σ:Type} (P:M.Plain σ) (n k:Nat) (e:aS σ):(aS.apply P n e k).past=e.past∧(aS.apply P n e k).aJ=e.aJ∧(aS.apply P n e k).stamp=e.stamp∧(aS.apply P n e k).aR=e.aR∧(aS.apply P n e k).cD=e.cD∧(e.now.isSome→(aS.apply P n e k).now.isSome):=by
 unfold aS.apply
 cases hq:e.now with
 |none=>exact ⟨rfl,rfl,rfl,rfl,rfl,fun q=>by cases q⟩
 |some v=>exact ⟨rfl,rfl,rfl,rfl,rfl,fun _=>rfl⟩
theorem int.qI {σ:Type} (P:M.Plain σ) (n:Nat) (E:aK σ) (t:Nat):(gN P n E t).past=(E.th t).past∧(gN P n E t).aJ=(E.th t).aJ∧(gN P n E t).stamp=(E.th t).stamp∧(gN P n E t).aR=(E.th t).aR∧(gN P n E t).cD=(E.th t).cD∧((E.th t).now.isSome→(gN P n E t).now.isSome):=by
 unfold gN
 split
 ·exact OD P n _ (rJ E t)
 ·exact ⟨rfl,rfl,rfl,rfl,rfl,fun q=>q⟩
theorem int.qJ {σ:Type} (P:M.Plain σ) (n:Nat) (E:aK σ) (t:Nat):(iC P n E t).past=(E.th t).past:=by
 unfold iC
 split
 ·exact (qI P n E t).1
 ·exact (qI P n E t).1
def int.RE.qK:Prop:=∀ {σ:Type} {R:SR σ} {L:Lt} {S:Nat→Prop} {E:aK σ} {w:World} {t:Nat} (_h:RE R L S E w) (_ht:t<L.n) {e:aS σ} (_he:E.th t=e) (_GZ:e.aJ≠[]),∃ gp pc,w.cell? ⟨L.g,t*28+20,none⟩=some (.slice (some ⟨gp,0,none⟩) e.aJ.length pc)
def list.RE.qK:Prop:=∀ {σ:Type} {R:SR σ} {L:Lt} {S:Nat→Prop} {E:aK σ} {w:World} {t:Nat} (_h:RE R L S E w) (_ht:t<L.n) {e:aS σ} (_he:E.th t=e) (_GZ:e.aJ≠[]),∃ gp pc,w.cell? ⟨L.g,t*28+20,none⟩=some (.slice (some ⟨gp,0,none⟩) e.aJ.length pc)
def tree.RE.qK:Prop:=∀ {σ:Type} {R:SR σ} {L:Lt} {S:Nat→Prop} {E:aK σ} {w:World} {t:Nat} (_h:RE R L S E w) (_ht:t<L.n) {e:aS σ} (_he:E.th t=e) (_GZ:e.aJ≠[]),∃ gp pc,w.cell? ⟨L.g,t*28+20,none⟩=some (.slice (some ⟨gp,0,none⟩) e.aJ.length pc)
theorem wB:int.RE.qK∧list.RE.qK∧tree.RE.qK:=by
 refine ⟨?_,?_,?_⟩<;>intro σ R L S E w t h ht e he hne
 all_goals
  obtain ⟨cv,cf,pv,hc,hcv,eD,TI,-⟩:=h.cells ht he
  obtain ⟨x0,x1,rfl⟩:=aE hcv.1
  obtain ⟨y0,y1,rfl⟩:=aE eD.1
  have:=hc 20 _ (by decide) rfl
  rcases TI with ⟨-,q⟩|⟨gp,pl,pc,-,q2,q3⟩
  ·exact absurd q hne
  ·obtain ⟨a,cap,e1,-,-,-⟩:=q3
   rw [q2] at e1
   injection e1 with e5 e6 e7
   have el:pl=e.aJ.length:=by rw [e6];simp [ints]
   exact ⟨gp,pc,by rw [this,q2,el]⟩
theorem int.RE.LG:qK:=wB.1
theorem list.RE.LG:qK:=wB.2.1
theorem tree.RE.LG:qK:=wB.2.2
theorem row.RE.LG {σ:Type} {R:SR σ} {L:Lt} {S:Nat→Prop} {E:aK σ} {w:World} {t:Nat} (h:RE R L S E w) (ht:t<L.n) {e:aS σ} (he:E.th t=e) (hne:e.aJ≠[]):∃ gp pc,w.cell? ⟨L.g,t*30+22,none⟩=some (.slice (some ⟨gp,0,none⟩) e.aJ.length pc):=by
 obtain ⟨cv,cf,pv,hc,hcv,eD,TI,-⟩:=h.cells ht he
 obtain ⟨x0,x1,x2,rfl⟩:=aE hcv.1
 obtain ⟨y0,y1,y2,rfl⟩:=aE eD.1
 have:=hc 22 _ (by decide) rfl
 rcases TI with ⟨-,q⟩|⟨gp,pl,pc,-,q2,q3⟩
 ·exact absurd q hne
 ·obtain ⟨a,cap,e1,-,-,-⟩:=q3
  rw [q2] at e1
  injection e1 with e5 e6 e7
  have el:pl=e.aJ.length:=by rw [e6];simp [ints]
  exact ⟨gp,pc,by rw [this,q2,el]⟩
def int.jT:Prop:=∀ {σ:Type} {R:SR σ} {L:Lt} {S:Nat→Prop} {E:aK σ} {w:World} {t:Nat} {P:M.Plain σ} {fA:Nat} {rv:Value} (_hA:bO R P L fA rv) (_h:RE R L S E w) (_ht:t<L.n) (_hN:(E.th t).stamp≤1000000000) (_hr:(E.th t).aR<129) {v f:cY σ} (_hv:(E.th t).now=some v) (_hf:(E.th t).cD=some f) (_SC:R.sz v.st≤1000000000000) (_hp:(E.th t).past<3*(E.th t).aJ.length) (_hl:(E.th t).aJ.length≤64) (_hk:(E.th t).aJ.getD ((E.th t).past / 3) 0<L.n),Calls Tryz.prog 211 #[.pointer (some ⟨L.g,t*28,none⟩)] w fun e w'=>e = .returned (.tuple #[])∧aF R L S w {E with th:=aI E.th t ((iC P L.n E t).pass (3*(E.th t).aJ.length) 9)} w'
def list.jT:Prop:=∀ {σ:Type} {R:SR σ} {L:Lt} {S:Nat→Prop} {E:aK σ} {w:World} {t:Nat} {P:M.Plain σ} {fA:Nat} {rv:Value} (_hA:bO R P L fA rv) (_h:RE R L S E w) (_ht:t<L.n) (_hN:(E.th t).stamp≤1000000000) (_hr:(E.th t).aR<129) {v f:cY σ} (_hv:(E.th t).now=some v) (_hf:(E.th t).cD=some f) (_SC:R.sz v.st≤1000000000000) (_hp:(E.th t).past<3*(E.th t).aJ.length) (_hl:(E.th t).aJ.length≤64) (_hk:(E.th t).aJ.getD ((E.th t).past / 3) 0<L.n),Calls Tryz.prog 270 #[.pointer (some ⟨L.g,t*28,none⟩)] w fun e w'=>e = .returned (.tuple #[])∧aF R L S w {E with th:=aI E.th t ((iC P L.n E t).pass (3*(E.th t).aJ.length) 9)} w'
def tree.jT:Prop:=∀ {σ:Type} {R:SR σ} {L:Lt} {S:Nat→Prop} {E:aK σ} {w:World} {t:Nat} {P:M.Plain σ} {fA:Nat} {rv:Value} (_hA:bO R P L fA rv) (_h:RE R L S E w) (_ht:t<L.n) (_hN:(E.th t).stamp≤1000000000) (_hr:(E.th t).aR<129) {v f:cY σ} (_hv:(E.th t).now=some v) (_hf:(E.th t).cD=some f) (_SC:R.sz v.st≤1000000000000) (_hp:(E.th t).past<3*(E.th t).aJ.length) (_hl:(E.th t).aJ.length≤64) (_hk:(E.th t).aJ.getD ((E.th t).past / 3) 0<L.n),Calls Tryz.prog 344 #[.pointer (some ⟨L.g,t*28,none⟩)] w fun e w'=>e = .returned (.tuple #[])∧aF R L S w {E with th:=aI E.th t ((iC P L.n E t).pass (3*(E.th t).aJ.length) 9)} w'
def row.jT:Prop:=∀ {σ:Type} {R:SR σ} {L:Lt} {S:Nat→Prop} {E:aK σ} {w:World} {t:Nat} {P:M.Plain σ} {fA:Nat} {rv:Value} (_hA:bO R P L fA rv) (_h:RE R L S E w) (_ht:t<L.n) (_hN:(E.th t).stamp≤1000000000) (_hr:(E.th t).aR<129) {v f:cY σ} (_hv:(E.th t).now=some v) (_hf:(E.th t).cD=some f) (_SC:R.sz v.st≤1000000000000) (_hp:(E.th t).past<3*(E.th t).aJ.length) (_hl:(E.th t).aJ.length≤64) (_hk:(E.th t).aJ.getD ((E.th t).past / 3) 0<L.n),Calls Tryz.prog 307 #[.pointer (some ⟨L.g,t*30,none⟩)] w fun e w'=>e = .returned (.tuple #[])∧aF R L S w {E with th:=aI E.th t ((iC P L.n E t).pass (3*(E.th t).aJ.length) 9)} w'
open row in
theorem xQ:int.jT∧list.jT∧tree.jT∧row.jT:=by
 refine ⟨@mkK _ 0 ?_,@mkK _ 1 ?_,@mkK _ 2 ?_,@mkK _ 3 ?_⟩<;>intro kk σ R L S E w t P fA rv hA h ht hN hr v f hv hf hsz hp hl hk
 all_goals
  obtain ⟨cv,cf,pv,hc,hcv,eD,TI,-⟩:=h.cells ht rfl
  first|(have _:Kn 0:=kk;obtain ⟨x0,x1,rfl⟩:=int.aE hcv.1)|(have _:Kn 1:=kk;obtain ⟨x0,x1,rfl⟩:=int.aE hcv.1)|(have _:Kn 2:=kk;obtain ⟨x0,x1,rfl⟩:=int.aE hcv.1)|(have _:Kn 3:=kk;obtain ⟨x0,x1,x2,rfl⟩:=row.aE hcv.1)
  first|(have _:Kn 0:=kk;obtain ⟨y0,y1,rfl⟩:=int.aE eD.1)|(have _:Kn 1:=kk;obtain ⟨y0,y1,rfl⟩:=int.aE eD.1)|(have _:Kn 2:=kk;obtain ⟨y0,y1,rfl⟩:=int.aE eD.1)|(have _:Kn 3:=kk;obtain ⟨y0,y1,y2,rfl⟩:=row.aE eD.1)
  have hn:=h.ok.n64
  first|(have _:Kn 0:=kk;have c0:w.cell? ⟨L.g,t*28,none⟩=some (.pointer (some ⟨L.bS,0,none⟩)):=hc 0 _ (by decide) rfl)|(have _:Kn 1:=kk;have c0:w.cell? ⟨L.g,t*28,none⟩=some (.pointer (some ⟨L.bS,0,none⟩)):=hc 0 _ (by decide) rfl)|(have _:Kn 2:=kk;have c0:w.cell? ⟨L.g,t*28,none⟩=some (.pointer (some ⟨L.bS,0,none⟩)):=hc 0 _ (by decide) rfl)|(have _:Kn 3:=kk;have c0:w.cell? ⟨L.g,t*30,none⟩=some (.pointer (some ⟨L.bS,0,none⟩)):=hc 0 _ (by decide) rfl)
  have c4:=hc 4 _ (by decide) rfl
  first|(have _:Kn 0:=kk;have TQ:=hc 20 _ (by decide) rfl)|(have _:Kn 1:=kk;have TQ:=hc 20 _ (by decide) rfl)|(have _:Kn 2:=kk;have TQ:=hc 20 _ (by decide) rfl)|(have _:Kn 3:=kk;have TQ:=hc 22 _ (by decide) rfl)
  have s3:w.cell? ⟨L.bS,3,none⟩=some (.slice (some ⟨L.aX,0,none⟩) L.n L.n):=h.sh.cell_of rfl
  have tG:(E.th t).aJ≠[]:=by intro q;rw [q] at hp;simp at hp
  obtain ⟨i,hi⟩:∃ i,i=(E.th t).past / 3:=⟨_,rfl⟩
  obtain ⟨j,hj⟩:∃ j,j=(E.th t).past % 3:=⟨_,rfl⟩
  obtain ⟨k,hkk⟩:∃ k,k=(E.th t).aJ.getD ((E.th t).past / 3) 0:=⟨_,rfl⟩
  rw [←hkk] at hk
  have hil:i<(E.th t).aJ.length:=by omega
  have hj3:j<3:=by omega
  obtain ⟨gp,pc,rfl,cpk⟩:∃ gp pc,pv = .slice (some ⟨gp,0,none⟩) (E.th t).aJ.length pc∧w.cell? ⟨gp,i,none⟩=some (.int .i64 (k:Int)):=by
   rcases TI with ⟨-,q⟩|⟨gp,pl,pc,-,q2,q3⟩
   ·exact absurd q tG
   ·obtain ⟨a,cap,e1,-,-,e4⟩:=q3
    rw [q2] at e1
    injection e1 with e5 e6 e7
    have el:pl=(E.th t).aJ.length:=by rw [e6];simp [ints]
    refine ⟨gp,pc,by rw [q2,el],?_⟩
    rcases e4 with e4|⟨g',off,e8,e9⟩
    ·have:(ints ((E.th t).aJ.map Int.ofNat)).length=0:=by rw [e4];rfl
     simp [ints] at this
     exact absurd this tG
    ·rw [e8] at e5
     injection e5 with e5
     injection e5 with VK YF
     subst VK
     subst YF
     have:=e9 i (.int .i64 (k:Int)) (by
      rw [qX,List.getElem?_map,List.getElem?_eq_getElem hil,hkk,←hi,List.getD_eq_getElem?_getD,List.getElem?_eq_getElem hil]
      rfl)
     rwa [Nat.zero_add] at this
  have hdiv:((E.th t).past:Int) / 3=(i:Int):=by omega
  have hmod:((E.th t).past:Int) % 3=(j:Int):=by omega
  have aHl:(i:Int)<((E.th t).aJ.length:Int):=by omega
  have aLz:(k:Int)<(L.n:Int):=by omega
  have aLA:(j:Int)<3:=by omega
  have a0:w.cell? ⟨L.aX,k*3+j,none⟩=some (.int .i64 (E.eH k j)):=h.an.cell hk hj3
  first|(have _:Kn 0:=kk;have th:w.there L.g (t*28+21+j) 1:=by obtain ⟨T,q,-⟩:=h.th;have:=q.there (Nat.lt_of_lt_of_le ht h.ok.gn) (show 21+j<28 by omega);rwa [←Nat.add_assoc] at this)|(have _:Kn 1:=kk;have th:w.there L.g (t*28+21+j) 1:=by obtain ⟨T,q,-⟩:=h.th;have:=q.there (Nat.lt_of_lt_of_le ht h.ok.gn) (show 21+j<28 by omega);rwa [←Nat.add_assoc] at this)|(have _:Kn 2:=kk;have th:w.there L.g (t*28+21+j) 1:=by obtain ⟨T,q,-⟩:=h.th;have:=q.there (Nat.lt_of_lt_of_le ht h.ok.gn) (show 21+j<28 by omega);rwa [←Nat.add_assoc] at this)|(have _:Kn 3:=kk;have th:w.there L.g (t*30+23+j) 1:=by obtain ⟨T,q,-⟩:=h.th;have:=q.there (Nat.lt_of_lt_of_le ht h.ok.gn) (show 23+j<30 by omega);rwa [←Nat.add_assoc] at this)
  obtain ⟨nSg,-,nAg,-⟩:=h.CM
  have HE:=aA (show rJ E t = {E.th t with heard:=aI (E.th t).heard j (E.eH k j)} by unfold rJ;rw [←hi,←hj] at *;rw [hkk,←hi])
  have HH:=aA h
  have HC:=aA (And.intro hv (And.intro hf tG))
  have HI:=aA (And.intro hi (And.intro hj hkk))
  clear h hc hcv eD TI hv hf tG hi hj hkk
  first|(have _:Kn 0:=kk;go_enter Tryz.func211,Tryz.ntmps211)|(have _:Kn 1:=kk;go_enter Tryz.func270,Tryz.ntmps270)|(have _:Kn 2:=kk;go_enter Tryz.func344,Tryz.ntmps344)|(have _:Kn 3:=kk;go_enter Tryz.func307,Tryz.ntmps307)
  go_upto_region 0 with fail
  go_quiet (fail)
  rw [hmod]
  generalize vT:World.drewN w nq=W0
  first
   |have _:Kn 0:=kk
    obtain ⟨d0,d3,da,dth,r0,k0,d4,dpv⟩:W0.cell? ⟨L.g,t*28,none⟩=some (.pointer (some ⟨L.bS,0,none⟩))∧W0.cell? ⟨L.bS,3,none⟩=some (.slice (some ⟨L.aX,0,none⟩) L.n L.n)∧W0.cell? ⟨L.aX,k*3+j,none⟩=some (.int .i64 (E.eH k j))∧W0.there L.g (t*28+21+j) 1∧int.RE R L S E W0∧Fr L.own w W0∧W0.cell? ⟨L.g,t*28+4,none⟩=some (.int .i64 ((E.th t).past:Int))∧W0.cell? ⟨L.g,t*28+20,none⟩=some (.slice (some ⟨gp,0,none⟩) (E.th t).aJ.length pc):=by
     rw [←vT]
     exact ⟨c0,s3,a0,th,HH.out.drewN nq,(Fr.refl _ w).drewN nq,c4,TQ⟩
   |have _:Kn 1:=kk
    obtain ⟨d0,d3,da,dth,r0,k0,d4,dpv⟩:W0.cell? ⟨L.g,t*28,none⟩=some (.pointer (some ⟨L.bS,0,none⟩))∧W0.cell? ⟨L.bS,3,none⟩=some (.slice (some ⟨L.aX,0,none⟩) L.n L.n)∧W0.cell? ⟨L.aX,k*3+j,none⟩=some (.int .i64 (E.eH k j))∧W0.there L.g (t*28+21+j) 1∧list.RE R L S E W0∧Fr L.own w W0∧W0.cell? ⟨L.g,t*28+4,none⟩=some (.int .i64 ((E.th t).past:Int))∧W0.cell? ⟨L.g,t*28+20,none⟩=some (.slice (some ⟨gp,0,none⟩) (E.th t).aJ.length pc):=by
     rw [←vT]
     exact ⟨c0,s3,a0,th,HH.out.drewN nq,(Fr.refl _ w).drewN nq,c4,TQ⟩
   |have _:Kn 2:=kk
    obtain ⟨d0,d3,da,dth,r0,k0,d4,dpv⟩:W0.cell? ⟨L.g,t*28,none⟩=some (.pointer (some ⟨L.bS,0,none⟩))∧W0.cell? ⟨L.bS,3,none⟩=some (.slice (some ⟨L.aX,0,none⟩) L.n L.n)∧W0.cell? ⟨L.aX,k*3+j,none⟩=some (.int .i64 (E.eH k j))∧W0.there L.g (t*28+21+j) 1∧tree.RE R L S E W0∧Fr L.own w W0∧W0.cell? ⟨L.g,t*28+4,none⟩=some (.int .i64 ((E.th t).past:Int))∧W0.cell? ⟨L.g,t*28+20,none⟩=some (.slice (some ⟨gp,0,none⟩) (E.th t).aJ.length pc):=by
     rw [←vT]
     exact ⟨c0,s3,a0,th,HH.out.drewN nq,(Fr.refl _ w).drewN nq,c4,TQ⟩
   |have _:Kn 3:=kk
    obtain ⟨d0,d3,da,dth,r0,k0,d4,dpv⟩:W0.cell? ⟨L.g,t*30,none⟩=some (.pointer (some ⟨L.bS,0,none⟩))∧W0.cell? ⟨L.bS,3,none⟩=some (.slice (some ⟨L.aX,0,none⟩) L.n L.n)∧W0.cell? ⟨L.aX,k*3+j,none⟩=some (.int .i64 (E.eH k j))∧W0.there L.g (t*30+23+j) 1∧row.RE R L S E W0∧Fr L.own w W0∧W0.cell? ⟨L.g,t*30+4,none⟩=some (.int .i64 ((E.th t).past:Int))∧W0.cell? ⟨L.g,t*30+22,none⟩=some (.slice (some ⟨gp,0,none⟩) (E.th t).aJ.length pc):=by
     rw [←vT]
     exact ⟨c0,s3,a0,th,HH.out.drewN nq,(Fr.refl _ w).drewN nq,c4,TQ⟩
  have H1:=aA (r0.drew.uY ht hj3 (E.eH k j))
  have K0:=aA k0
  clear vT r0 k0 c0 s3 a0 th c4 TQ cpk hdiv hmod hil aHl
  go_upto_region 1 with fail
  first|(have _:Kn 0:=kk;refine fR (S:=(fun w'=>w'.cell? ⟨L.g,t*28,none⟩=some (.pointer (some ⟨L.bS,0,none⟩))∧w'.cell? ⟨L.g,t*28+4,none⟩=some (.int .i64 ((E.th t).past:Int))∧w'.cell? ⟨L.g,t*28+20,none⟩=some (.slice (some ⟨gp,0,none⟩) (E.th t).aJ.length pc)∧w'.cell? ⟨L.bS,3,none⟩=some (.slice (some ⟨L.aX,0,none⟩) L.n L.n)∧w'.cell? ⟨L.aX,k*3+j,none⟩=some (.int .i64 (E.eH k j))∧w'.there (L.g) (t*28+21+j) 1)) 18 rfl (by kernel_rfl) ?_ (fun hHeld=>?_))|(have _:Kn 1:=kk;refine fR (S:=(fun w'=>w'.cell? ⟨L.g,t*28,none⟩=some (.pointer (some ⟨L.bS,0,none⟩))∧w'.cell? ⟨L.g,t*28+4,none⟩=some (.int .i64 ((E.th t).past:Int))∧w'.cell? ⟨L.g,t*28+20,none⟩=some (.slice (some ⟨gp,0,none⟩) (E.th t).aJ.length pc)∧w'.cell? ⟨L.bS,3,none⟩=some (.slice (some ⟨L.aX,0,none⟩) L.n L.n)∧w'.cell? ⟨L.aX,k*3+j,none⟩=some (.int .i64 (E.eH k j))∧w'.there (L.g) (t*28+21+j) 1)) 18 rfl (by kernel_rfl) ?_ (fun hHeld=>?_))|(have _:Kn 2:=kk;refine fR (S:=(fun w'=>w'.cell? ⟨L.g,t*28,none⟩=some (.pointer (some ⟨L.bS,0,none⟩))∧w'.cell? ⟨L.g,t*28+4,none⟩=some (.int .i64 ((E.th t).past:Int))∧w'.cell? ⟨L.g,t*28+20,none⟩=some (.slice (some ⟨gp,0,none⟩) (E.th t).aJ.length pc)∧w'.cell? ⟨L.bS,3,none⟩=some (.slice (some ⟨L.aX,0,none⟩) L.n L.n)∧w'.cell? ⟨L.aX,k*3+j,none⟩=some (.int .i64 (E.eH k j))∧w'.there (L.g) (t*28+21+j) 1)) 18 rfl (by kernel_rfl) ?_ (fun hHeld=>?_))|(have _:Kn 3:=kk;refine fR (S:=(fun w'=>w'.cell? ⟨L.g,t*30,none⟩=some (.pointer (some ⟨L.bS,0,none⟩))∧w'.cell? ⟨L.g,t*30+4,none⟩=some (.int .i64 ((E.th t).past:Int))∧w'.cell? ⟨L.g,t*30+22,none⟩=some (.slice (some ⟨gp,0,none⟩) (E.th t).aJ.length pc)∧w'.cell? ⟨L.bS,3,none⟩=some (.slice (some ⟨L.aX,0,none⟩) L.n L.n)∧w'.cell? ⟨L.aX,k*3+j,none⟩=some (.int .i64 (E.eH k j))∧w'.there (L.g) (t*30+23+j) 1)) 18 rfl (by kernel_rfl) ?_ (fun hHeld=>?_))
  ·exact ⟨d0,d4,dpv,d3,da,dth⟩
  iterate 13 (refine tk 17 (by rfl) (by kernel_rfl) (by exact fun _ _ _ h=>h) (.inl ⟨by rfl,fun w hS=>by (try dsimp only at hS);go_simp;(try with_reducible rfl)⟩) (by assumption) ?_;try go_frame)
  iterate 2 (refine tk 18 (by rfl) (by kernel_rfl) (by exact fun _ _ _ h=>h) (.inl ⟨by rfl,fun w hS=>by (try dsimp only at hS);go_simp;(try with_reducible rfl)⟩) (by assumption) ?_;try go_frame)
  refine bQ 13 (by rfl) (by kernel_rfl) (fun K hK=>?_)
  go_simp
  refine (rT L.aX (k*3+j) _ _ hHeld.2.2.2.2.1).mono ?_
  rintro e w3 ⟨rfl,rfl⟩
  go_wp2_with fail
  refine hK.out _ _ ?_ (fun hHeld=>?_)
  ·exact hHeld
  clear hK K
  (try go_frame)
  iterate 1 (refine tk 17 (by rfl) (by kernel_rfl) (by exact fun _ _ _ h=>h) (.inl ⟨by rfl,fun w hS=>by (try dsimp only at hS);go_simp;(try with_reducible rfl)⟩) (by assumption) ?_;try go_frame)
  refine bQ 17 (by rfl) (by kernel_rfl) (fun K hK=>?_)
  rw [if_pos (by rfl)]
  first|(have _:Kn 0:=kk;refine aU _ _ _ rfl L.g (t*28+21+j) (.int .i64 (E.eH k j)) rfl rfl rfl rfl hHeld.2.2.2.2.2 (by kernel_rfl) ?_)|(have _:Kn 1:=kk;refine aU _ _ _ rfl L.g (t*28+21+j) (.int .i64 (E.eH k j)) rfl rfl rfl rfl hHeld.2.2.2.2.2 (by kernel_rfl) ?_)|(have _:Kn 2:=kk;refine aU _ _ _ rfl L.g (t*28+21+j) (.int .i64 (E.eH k j)) rfl rfl rfl rfl hHeld.2.2.2.2.2 (by kernel_rfl) ?_)|(have _:Kn 3:=kk;refine aU _ _ _ rfl L.g (t*30+23+j) (.int .i64 (E.eH k j)) rfl rfl rfl rfl hHeld.2.2.2.2.2 (by kernel_rfl) ?_)
  refine hK.out _ _ ?_ (fun hHeld=>?_)
  ·exact ⟨aH hHeld.1 (by first|exact .inr (by dsimp only;omega)|exact .inl (by assumption)|exact .inl (Ne.symm (by assumption))),aH hHeld.2.1 (by first|exact .inr (by dsimp only;omega)|exact .inl (by assumption)|exact .inl (Ne.symm (by assumption))),aH hHeld.2.2.1 (by first|exact .inr (by dsimp only;omega)|exact .inl (by assumption)|exact .inl (Ne.symm (by assumption))),aH hHeld.2.2.2.1 (by first|exact .inr (by dsimp only;omega)|exact .inl (by assumption)|exact .inl (Ne.symm (by assumption))),aH hHeld.2.2.2.2.1 (by first|exact .inr (by dsimp only;omega)|exact .inl (by assumption)|exact .inl (Ne.symm (by assumption))),cR hHeld.2.2.2.2.2 _ rfl _⟩
  clear hK K
  (try go_frame)
  refine wpAnyH_done (by kernel_rfl) ?_ _
  have f4:=hHeld.2.1
  have ZU:=hHeld.2.2.1
  clear hHeld
  generalize kE:World.setCell _ _ _=W2
  have yL:aF R L S w {E with th:=aI E.th t (rJ E t)} W2:=by
   rw [←kE,HE.out]
   exact aF.of H1.out (K0.out.drew.trans (Fr.set _ kH _)) rfl
  first|(have _:Kn 0:=kk;have g4:W2.cell? ⟨L.g,t*28+4,none⟩=some (.int .i64 ((E.th t).past:Int)):=by rw [←kE];exact f4)|(have _:Kn 1:=kk;have g4:W2.cell? ⟨L.g,t*28+4,none⟩=some (.int .i64 ((E.th t).past:Int)):=by rw [←kE];exact f4)|(have _:Kn 2:=kk;have g4:W2.cell? ⟨L.g,t*28+4,none⟩=some (.int .i64 ((E.th t).past:Int)):=by rw [←kE];exact f4)|(have _:Kn 3:=kk;have g4:W2.cell? ⟨L.g,t*30+4,none⟩=some (.int .i64 ((E.th t).past:Int)):=by rw [←kE];exact f4)
  first|(have _:Kn 0:=kk;have gpv:W2.cell? ⟨L.g,t*28+20,none⟩=some (.slice (some ⟨gp,0,none⟩) (E.th t).aJ.length pc):=by rw [←kE];exact ZU)|(have _:Kn 1:=kk;have gpv:W2.cell? ⟨L.g,t*28+20,none⟩=some (.slice (some ⟨gp,0,none⟩) (E.th t).aJ.length pc):=by rw [←kE];exact ZU)|(have _:Kn 2:=kk;have gpv:W2.cell? ⟨L.g,t*28+20,none⟩=some (.slice (some ⟨gp,0,none⟩) (E.th t).aJ.length pc):=by rw [←kE];exact ZU)|(have _:Kn 3:=kk;have gpv:W2.cell? ⟨L.g,t*30+22,none⟩=some (.slice (some ⟨gp,0,none⟩) (E.th t).aJ.length pc):=by rw [←kE];exact ZU)
  have FN:=aA yL
  clear kE yL f4 ZU d0 d3 da dth d4 dpv
  by_cases hj2:j=2
  ·have q1:(2:Int)≤(j:Int):=by omega
   have q2:(j:Int)≤2:=by omega
   have HJ:=aA (show gN P L.n E t=aS.apply P L.n (rJ E t) k by unfold gN;rw [if_pos (by rw [←HI.out.2.1];exact hj2),←HI.out.2.2])
   clear hj2
   go_wp2_with fail
   refine (AM hA FN.out.re ht hk (v:=v) (f:=f) (by simp only [aC];exact HC.out.1) (by simp only [aC];exact HC.out.2.1) hsz).mono ?_
   rintro e w3 ⟨rfl,L3⟩
   have WQ:=aA (show aF R L S w {E with th:=aI E.th t (gN P L.n E t)} w3 from (FN.out.next L3).cast (by rw [HJ.out];simp only [bM,aC]))
   clear L3
   obtain ⟨y1,y2,y3,y4,y5,y6⟩:=qI P L.n E t
   obtain ⟨cv7,cf7,pv7,hc7,-,-,-,-⟩:=WQ.out.re.cells ht (aC _ _ _)
   have z4:=hc7 4 _ (by decide) rfl
   rw [y1] at z4
   obtain ⟨gp7,pc7,zpv⟩:=WQ.out.re.LG ht (aC _ _ _) (by rw [y2];exact HC.out.2.2)
   rw [y2] at zpv
   have HY:=aA (And.intro y1 (And.intro y2 (And.intro y3 (And.intro y4 (And.intro y5 y6)))))
   clear hc7 y1 y2 y3 y4 y5 y6 g4 gpv
   by_cases tR:(E.th t).past+1=3*(E.th t).aJ.length
   ·have l1:((E.th t).past:Int)≤3*((E.th t).aJ.length:Int)-1:=by omega
    have l2:3*((E.th t).aJ.length:Int)-1≤((E.th t).past:Int):=by omega
    have YG:=aA (show iC P L.n E t=(gN P L.n E t).close L.n by unfold iC;rw [if_pos tR])
    clear tR
    obtain ⟨v7,hv7⟩:=Option.isSome_iff_exists.1 (HY.out.2.2.2.2.2 (by rw [HC.out.1];rfl))
    have HV7:=aA hv7
    clear hv7
    go_wp2_with fail
    refine (xP WQ.out.re ht (by simp only [aC];rw [HY.out.2.2.1];exact hN) (by simp only [aC];rw [HY.out.2.2.2.1];exact hr) (v:=v7) (f:=f) (by simp only [aC];exact HV7.out) (by simp only [aC];rw [HY.out.2.2.2.2.1];exact HC.out.2.1) (by simp only [aC];rw [HY.out.2.1];exact HC.out.2.2)).mono ?_
    rintro e w5 ⟨rfl,L5⟩
    have LB:=aA (show aF R L S w {E with th:=aI E.th t (iC P L.n E t)} w5 from (WQ.out.next L5).cast (by rw [YG.out];simp only [bM,aC]))
    have hps:=kD LB.out.re ht (3*(E.th t).aJ.length) 9 (by omega) (by simp only [aC];rw [qJ];omega)
    rw [show ((3*(E.th t).aJ.length:Nat):Int)=3*((E.th t).aJ.length:Int) by omega] at hps
    have YN:=aA hps
    clear hps L5
    go_wp2_with fail
    refine YN.out.mono ?_
    rintro e w6 ⟨rfl,r6,k6⟩
    have HR:=aA (And.intro r6 k6)
    clear r6 k6
    go_wp2
    refine bodyPost_end (v:=.tuple #[]) (by simp [results,Tryz.results211,Tryz.results270,Tryz.results344,Tryz.results307,go_sem]) rfl ⟨rfl,LB.out.next (aF.of (HR.out.1.cast ?_) HR.out.2 rfl)⟩
    simp only [bM,aC]
   ·have l1:¬((E.th t).past:Int)=3*((E.th t).aJ.length:Int)-1:=by omega
    have YG:=aA (show iC P L.n E t=gN P L.n E t by unfold iC;rw [if_neg tR])
    clear tR
    have LB:=aA (show aF R L S w {E with th:=aI E.th t (iC P L.n E t)} w3 from WQ.out.cast (by rw [YG.out]))
    have hps:=kD LB.out.re ht (3*(E.th t).aJ.length) 9 (by omega) (by simp only [aC];rw [qJ];omega)
    rw [show ((3*(E.th t).aJ.length:Nat):Int)=3*((E.th t).aJ.length:Int) by omega] at hps
    have YN:=aA hps
    clear hps
    go_wp2_with fail
    refine YN.out.mono ?_
    rintro e w6 ⟨rfl,r6,k6⟩
    have HR:=aA (And.intro r6 k6)
    clear r6 k6
    go_wp2
    refine bodyPost_end (v:=.tuple #[]) (by simp [results,Tryz.results211,Tryz.results270,Tryz.results344,Tryz.results307,go_sem]) rfl ⟨rfl,LB.out.next (aF.of (HR.out.1.cast ?_) HR.out.2 rfl)⟩
    simp only [bM,aC]
  ·have q1:¬(j:Int)=2:=by omega
   have HJ:=aA (show gN P L.n E t=rJ E t by unfold gN;rw [if_neg (by rw [←HI.out.2.1];exact hj2)])
   clear hj2
   have WQ:=aA (show aF R L S w {E with th:=aI E.th t (gN P L.n E t)} W2 from FN.out.cast (by rw [HJ.out]))
   obtain ⟨y1,y2,y3,y4,y5,y6⟩:=qI P L.n E t
   obtain ⟨cv7,cf7,pv7,hc7,-,-,-,-⟩:=WQ.out.re.cells ht (aC _ _ _)
   have z4:=hc7 4 _ (by decide) rfl
   rw [y1] at z4
   obtain ⟨gp7,pc7,zpv⟩:=WQ.out.re.LG ht (aC _ _ _) (by rw [y2];exact HC.out.2.2)
   rw [y2] at zpv
   have HY:=aA (And.intro y1 (And.intro y2 (And.intro y3 (And.intro y4 (And.intro y5 y6)))))
   clear hc7 y1 y2 y3 y4 y5 y6 g4 gpv
   by_cases tR:(E.th t).past+1=3*(E.th t).aJ.length
   ·have l1:((E.th t).past:Int)≤3*((E.th t).aJ.length:Int)-1:=by omega
    have l2:3*((E.th t).aJ.length:Int)-1≤((E.th t).past:Int):=by omega
    have YG:=aA (show iC P L.n E t=(gN P L.n E t).close L.n by unfold iC;rw [if_pos tR])
    clear tR
    obtain ⟨v7,hv7⟩:=Option.isSome_iff_exists.1 (HY.out.2.2.2.2.2 (by rw [HC.out.1];rfl))
    have HV7:=aA hv7
    clear hv7
    go_wp2_with fail
    refine (xP WQ.out.re ht (by simp only [aC];rw [HY.out.2.2.1];exact hN) (by simp only [aC];rw [HY.out.2.2.2.1];exact hr) (v:=v7) (f:=f) (by simp only [aC];exact HV7.out) (by simp only [aC];rw [HY.out.2.2.2.2.1];exact HC.out.2.1) (by simp only [aC];rw [HY.out.2.1];exact HC.out.2.2)).mono ?_
    rintro e w5 ⟨rfl,L5⟩
    have LB:=aA (show aF R L S w {E with th:=aI E.th t (iC P L.n E t)} w5 from (WQ.out.next L5).cast (by rw [YG.out];simp only [bM,aC]))
    have hps:=kD LB.out.re ht (3*(E.th t).aJ.length) 9 (by omega) (by simp only [aC];rw [qJ];omega)
    rw [show ((3*(E.th t).aJ.length:Nat):Int)=3*((E.th t).aJ.length:Int) by omega] at hps
    have YN:=aA hps
    clear hps L5
    go_wp2_with fail
    refine YN.out.mono ?_
    rintro e w6 ⟨rfl,r6,k6⟩
    have HR:=aA (And.intro r6 k6)
    clear r6 k6
    go_wp2
    refine bodyPost_end (v:=.tuple #[]) (by simp [results,Tryz.results211,Tryz.results270,Tryz.results344,Tryz.results307,go_sem]) rfl ⟨rfl,LB.out.next (aF.of (HR.out.1.cast ?_) HR.out.2 rfl)⟩
    simp only [bM,aC]
   ·have l1:¬((E.th t).past:Int)=3*((E.th t).aJ.length:Int)-1:=by omega
    have YG:=aA (show iC P L.n E t=gN P L.n E t by unfold iC;rw [if_neg tR])
    clear tR
    have LB:=aA (show aF R L S w {E with th:=aI E.th t (iC P L.n E t)} W2 from WQ.out.cast (by rw [YG.out]))
    have hps:=kD LB.out.re ht (3*(E.th t).aJ.length) 9 (by omega) (by simp only [aC];rw [qJ];omega)
    rw [show ((3*(E.th t).aJ.length:Nat):Int)=3*((E.th t).aJ.length:Int) by omega] at hps
    have YN:=aA hps
    clear hps
    go_wp2_with fail
    refine YN.out.mono ?_
    rintro e w6 ⟨rfl,r6,k6⟩
    have HR:=aA (And.intro r6 k6)
    clear r6 k6
    go_wp2
    refine bodyPost_end (v:=.tuple #[]) (by simp [results,Tryz.results211,Tryz.results270,Tryz.results344,Tryz.results307,go_sem]) rfl ⟨rfl,LB.out.next (aF.of (HR.out.1.cast ?_) HR.out.2 rfl)⟩
    simp only [bM,aC]
theorem int.CX:jT:=xQ.1
theorem list.CX:jT:=xQ.2.1
theorem tree.CX:jT:=xQ.2.2.1
theorem row.CX:jT:=xQ.2.2.2
end Go.Proofs.YtefjhnhdagolhaaGreat
