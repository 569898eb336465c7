import Derived.Test.YtefjhnhdagolhaaGreatA34
import Derived.Test.YtefjhnhdagolhaaGreatA36
set_option maxHeartbeats 16000000
set_option maxRecDepth 20000
namespace Go.Proofs.YtefjhnhdagolhaaGreat
open Tryz
open int list tree
open Go.RowKit
open M (aM aC aD Op eX bU bD bC aL aQ)
attribute [local go_sem ↓] Go.wp_at_zero Go.wp_at_succ
def uR (SR:Type→Type) (RE:lA SR):Prop:=∀ {σ:Type} {R:SR σ} {L:Lt} {S:Nat→Prop} {E:bD σ} {w:World} {t:Nat} (_h:RE R L S E w) (_ht:t<L.n) {j:Nat} (_hj:j<3) (x:Int),RE R L S {E with th:=aM E.th t {E.th t with heard:=aM (E.th t).heard j x}} (w.setCell ⟨L.g,t*28+21+j,none⟩ (.int .i64 x))
theorem jO:uR int.SR @int.RE∧uR list.SR @list.RE∧uR tree.SR @tree.RE:=by
 refine ⟨?_,?_,?_⟩<;>intro σ R L S E w t h ht j hj x
 all_goals
  rcases (by omega:j=0∨j=1∨j=2) with q|q|q<;>subst q
  ·exact (h.iY ht 21 (by decide) (.int .i64 x) {E.th t with heard:=aM (E.th t).heard 0 x} rfl rfl rfl rfl rfl (by intros;rfl)).1
  ·exact (h.iY ht 22 (by decide) (.int .i64 x) {E.th t with heard:=aM (E.th t).heard 1 x} rfl rfl rfl rfl rfl (by intros;rfl)).1
  ·exact (h.iY ht 23 (by decide) (.int .i64 x) {E.th t with heard:=aM (E.th t).heard 2 x} rfl rfl rfl rfl rfl (by intros;rfl)).1
theorem int.RE.CV:uR int.SR @int.RE:=jO.1
theorem list.RE.CV:uR list.SR @list.RE:=jO.2.1
theorem tree.RE.CV:uR tree.SR @tree.RE:=jO.2.2
theorem row.RE.CV {σ:Type} {R:SR σ} {L:Lt} {S:Nat→Prop} {E:bD σ} {w:World} {t:Nat} (h:RE R L S E w) (ht:t<L.n) {j:Nat} (hj:j<3) (x:Int):RE R L S {E with th:=aM E.th t {E.th t with heard:=aM (E.th t).heard j x}} (w.setCell ⟨L.g,t*30+23+j,none⟩ (.int .i64 x)):=by
 rcases (by omega:j=0∨j=1∨j=2) with q|q|q<;>subst q
 ·exact (h.iY ht 23 (by decide) (.int .i64 x) {E.th t with heard:=aM (E.th t).heard 0 x} rfl rfl rfl rfl rfl (by intros;rfl)).1
 ·exact (h.iY ht 24 (by decide) (.int .i64 x) {E.th t with heard:=aM (E.th t).heard 1 x} rfl rfl rfl rfl rfl (by intros;rfl)).1
 ·exact (h.iY ht 25 (by decide) (.int .i64 x) {E.th t with heard:=aM (E.th t).heard 2 x} rfl rfl rfl rfl rfl (by intros;rfl)).1
def int.zL {σ:Type} (E:bD σ) (t:Nat):bU σ:={E.th t with heard:=aM (E.th t).heard ((E.th t).past % 3) (E.gY ((E.th t).aK.getD ((E.th t).past / 3) 0) ((E.th t).past % 3))}
def int.jQ {σ:Type} (P:M.Plain σ) (n:Nat) (E:bD σ) (t:Nat):bU σ:=if (E.th t).past % 3=2 then (zL E t).apply P n ((E.th t).aK.getD ((E.th t).past / 3) 0) else zL E t
def int.mZ {σ:Type} (P:M.Plain σ) (n:Nat) (E:bD σ) (t:Nat):bU σ:=if (E.th t).past+1=3*(E.th t).aK.length then (jQ P n E t).close n else jQ P n E t
theorem int.dm {σ:Type} (P:M.Plain σ) (n k:Nat) (e:bU σ):(bU.apply P n e k).past=e.past∧(bU.apply P n e k).aK=e.aK∧(bU.apply P n e k).stamp=e.stamp∧(bU.apply P n e k).cG=e.cG∧(bU.apply P n e k).fD=e.fD∧(e.now.isSome→(bU.apply P n e k).now.isSome):=by
 unfold bU.apply
 cases hq:e.now with
 |none=>exact ⟨rfl,rfl,rfl,rfl,rfl,fun q=>by cases q⟩
 |some v=>exact ⟨rfl,rfl,rfl,rfl,rfl,fun _=>rfl⟩
theorem int.wN {σ:Type} (P:M.Plain σ) (n:Nat) (E:bD σ) (t:Nat):(jQ P n E t).past=(E.th t).past∧(jQ P n E t).aK=(E.th t).aK∧(jQ P n E t).stamp=(E.th t).stamp∧(jQ P n E t).cG=(E.th t).cG∧(jQ P n E t).fD=(E.th t).fD∧((E.th t).now.isSome→(jQ P n E t).now.isSome):=by
 unfold jQ
 split
 ·exact dm P n _ (zL E t)
 ·exact ⟨rfl,rfl,rfl,rfl,rfl,fun q=>q⟩
theorem int.wO {σ:Type} (P:M.Plain σ) (n:Nat) (E:bD σ) (t:Nat):(mZ P n E t).past=(E.th t).past:=by
 unfold mZ
 split
 ·exact (wN P n E t).1
 ·exact (wN P n E t).1
def EJ (SR:Type→Type) (RE:lA SR):Prop:=∀ {σ:Type} {R:SR σ} {L:Lt} {S:Nat→Prop} {E:bD σ} {w:World} {t:Nat} (_h:RE R L S E w) (_ht:t<L.n) {e:bU σ} (_he:E.th t=e) (_hne:e.aK≠[]),∃ gp pc,w.cell? ⟨L.g,t*28+20,none⟩=some (.slice (some ⟨gp,0,none⟩) e.aK.length pc)
theorem qB:EJ int.SR @int.RE∧EJ list.SR @list.RE∧EJ tree.SR @tree.RE:=by
 refine ⟨?_,?_,?_⟩<;>intro σ R L S E w t h ht e he hne
 all_goals
  obtain ⟨cv,cf,pv,hc,hcv,eP,yu,-⟩:=h.cells ht he;obtain ⟨x0,x1,rfl⟩:=aF hcv.1;obtain ⟨y0,y1,rfl⟩:=aF eP.1;have:=hc 20 _ (by decide) rfl
  rcases yu with ⟨-,q⟩|⟨gp,pl,pc,-,q2,q3⟩
  ·exact absurd q hne
  ·obtain ⟨a,cap,e1,-,-,-⟩:=q3
   rw [q2] at e1;injection e1 with e5 e6 e7
   have el:pl=e.aK.length:=by rw [e6];simp [ints]
   exact ⟨gp,pc,by rw [this,q2,el]⟩
theorem int.RE.ZC:EJ int.SR @int.RE:=qB.1
theorem list.RE.ZC:EJ list.SR @list.RE:=qB.2.1
theorem tree.RE.ZC:EJ tree.SR @tree.RE:=qB.2.2
theorem row.RE.ZC {σ:Type} {R:SR σ} {L:Lt} {S:Nat→Prop} {E:bD σ} {w:World} {t:Nat} (h:RE R L S E w) (ht:t<L.n) {e:bU σ} (he:E.th t=e) (hne:e.aK≠[]):∃ gp pc,w.cell? ⟨L.g,t*30+22,none⟩=some (.slice (some ⟨gp,0,none⟩) e.aK.length pc):=by
 obtain ⟨cv,cf,pv,hc,hcv,eP,yu,-⟩:=h.cells ht he;obtain ⟨x0,x1,x2,rfl⟩:=aF hcv.1;obtain ⟨y0,y1,y2,rfl⟩:=aF eP.1;have:=hc 22 _ (by decide) rfl
 rcases yu with ⟨-,q⟩|⟨gp,pl,pc,-,q2,q3⟩
 ·exact absurd q hne
 ·obtain ⟨a,cap,e1,-,-,-⟩:=q3
  rw [q2] at e1;injection e1 with e5 e6 e7
  have el:pl=e.aK.length:=by rw [e6];simp [ints]
  exact ⟨gp,pc,by rw [this,q2,el]⟩
def FY (SR:Type→Type) (RE:lA SR) (aE:BX SR) (bG:RF SR) (qs:{σ:Type}→SR σ→σ→Nat) (n0 n1:Nat):Prop:=∀ {σ:Type} {R:SR σ} {L:Lt} {S:Nat→Prop} {E:bD σ} {w:World} {t:Nat} {P:M.Plain σ} {fA:Nat} {rv:Value} (_hA:bG R P L fA rv) (_h:RE R L S E w) (_ht:t<L.n) (_hN:(E.th t).stamp≤1000000000) (_hr:(E.th t).cG<129) {v f:eX σ} (_hv:(E.th t).now=some v) (_hf:(E.th t).fD=some f) (_hsz:(qs R) v.st≤1000000000000) (_hp:(E.th t).past<3*(E.th t).aK.length) (_hl:(E.th t).aK.length≤64) (_hk:(E.th t).aK.getD ((E.th t).past / 3) 0<L.n),Calls prog n0 #[.pointer (some ⟨L.g,t*n1,none⟩)] w fun e w'=>e = .returned (.tuple #[])∧aE R L S w {E with th:=aM E.th t ((mZ P L.n E t).pass (3*(E.th t).aK.length) 9)} w'
open row in
theorem rI:FY int.SR @int.RE @int.aE @int.bG @int.SR.sz 211 28∧FY list.SR @list.RE @list.aE @list.bG @list.SR.sz 270 28∧FY tree.SR @tree.RE @tree.aE @tree.bG @tree.SR.sz 344 28∧FY row.SR @row.RE @row.aE @row.bG @row.SR.sz 307 30:=by
 refine ⟨@mkK _ 0 ?_,@mkK _ 1 ?_,@mkK _ 2 ?_,@mkK _ 3 ?_⟩<;>intro kk σ R L S E w t P fA rv hA h ht hN hr v f hv hf hsz hp hl hk
 all_goals
  obtain ⟨cv,cf,pv,hc,hcv,eP,yu,-⟩:=h.cells ht rfl
  first|(have:=kA kk;obtain ⟨x0,x1,rfl⟩:=int.aF hcv.1)|(have:=kB kk;obtain ⟨x0,x1,rfl⟩:=int.aF hcv.1)|(have:=kC kk;obtain ⟨x0,x1,rfl⟩:=int.aF hcv.1)|(have:=kD kk;obtain ⟨x0,x1,x2,rfl⟩:=row.aF hcv.1)
  first|(have:=kA kk;obtain ⟨y0,y1,rfl⟩:=int.aF eP.1)|(have:=kB kk;obtain ⟨y0,y1,rfl⟩:=int.aF eP.1)|(have:=kC kk;obtain ⟨y0,y1,rfl⟩:=int.aF eP.1)|(have:=kD kk;obtain ⟨y0,y1,y2,rfl⟩:=row.aF eP.1)
  have hn:=h.ok.n64
  first|(have:=kA kk;have c0:w.cell? ⟨L.g,t*28,none⟩=some (.pointer (some ⟨L.bS,0,none⟩)):=hc 0 _ (by decide) rfl)|(have:=kB kk;have c0:w.cell? ⟨L.g,t*28,none⟩=some (.pointer (some ⟨L.bS,0,none⟩)):=hc 0 _ (by decide) rfl)|(have:=kC kk;have c0:w.cell? ⟨L.g,t*28,none⟩=some (.pointer (some ⟨L.bS,0,none⟩)):=hc 0 _ (by decide) rfl)|(have:=kD kk;have c0:w.cell? ⟨L.g,t*30,none⟩=some (.pointer (some ⟨L.bS,0,none⟩)):=hc 0 _ (by decide) rfl)
  have c4:=hc 4 _ (by decide) rfl
  first|(have:=kA kk;have yl:=hc 20 _ (by decide) rfl)|(have:=kB kk;have yl:=hc 20 _ (by decide) rfl)|(have:=kC kk;have yl:=hc 20 _ (by decide) rfl)|(have:=kD kk;have yl:=hc 22 _ (by decide) rfl)
  have s3:w.cell? ⟨L.bS,3,none⟩=some (.slice (some ⟨L.cQ,0,none⟩) L.n L.n):=h.sh.cell_of rfl;have hp0:(E.th t).aK≠[]:=by intro q;rw [q] at hp;simp at hp
  obtain ⟨i,hi⟩:∃ i,i=(E.th t).past / 3:=⟨_,rfl⟩;obtain ⟨j,hj⟩:∃ j,j=(E.th t).past % 3:=⟨_,rfl⟩;obtain ⟨k,hkk⟩:∃ k,k=(E.th t).aK.getD ((E.th t).past / 3) 0:=⟨_,rfl⟩;rw [←hkk] at hk;have hil:i<(E.th t).aK.length:=by omega
  have hj3:j<3:=by omega
  obtain ⟨gp,pc,rfl,cpk⟩:∃ gp pc,pv = .slice (some ⟨gp,0,none⟩) (E.th t).aK.length pc∧w.cell? ⟨gp,i,none⟩=some (.int .i64 (k:Int)):=by
   rcases yu with ⟨-,q⟩|⟨gp,pl,pc,-,q2,q3⟩
   ·exact absurd q hp0
   ·obtain ⟨a,cap,e1,-,-,e4⟩:=q3
    rw [q2] at e1;injection e1 with e5 e6 e7
    have el:pl=(E.th t).aK.length:=by rw [e6];simp [ints]
    refine ⟨gp,pc,by rw [q2,el],?_⟩
    rcases e4 with e4|⟨g',off,e8,e9⟩
    ·have:(ints ((E.th t).aK.map Int.ofNat)).length=0:=by rw [e4];rfl
     simp [ints] at this;exact absurd this hp0
    ·rw [e8] at e5
     injection e5 with e5
     injection e5 with e10 e11
     subst e10;subst e11;have:=e9 i (.int .i64 (k:Int)) (by
      rw [lC,sA,eT hil,hkk,←hi,List.getD_eq_getElem?_getD,eT hil];rfl)
     rwa [nJ] at this
  have hdiv:((E.th t).past:Int) / 3=(i:Int):=by omega
  have hmod:((E.th t).past:Int) % 3=(j:Int):=by omega
  have aLI:(i:Int)<((E.th t).aK.length:Int):=by omega
  have aLK:(k:Int)<(L.n:Int):=by omega
  have aQ4:(j:Int)<3:=by omega
  have a0:w.cell? ⟨L.cQ,k*3+j,none⟩=some (.int .i64 (E.gY k j)):=h.an.cell hk hj3
  first|(have:=kA kk;have th:w.there L.g (t*28+21+j) 1:=by obtain ⟨T,q,-⟩:=h.th;have:=q.there (cH ht h.ok.gn) (show 21+j<28 by omega);rwa [←Nat.add_assoc] at this)|(have:=kB kk;have th:w.there L.g (t*28+21+j) 1:=by obtain ⟨T,q,-⟩:=h.th;have:=q.there (cH ht h.ok.gn) (show 21+j<28 by omega);rwa [←Nat.add_assoc] at this)|(have:=kC kk;have th:w.there L.g (t*28+21+j) 1:=by obtain ⟨T,q,-⟩:=h.th;have:=q.there (cH ht h.ok.gn) (show 21+j<28 by omega);rwa [←Nat.add_assoc] at this)|(have:=kD kk;have th:w.there L.g (t*30+23+j) 1:=by obtain ⟨T,q,-⟩:=h.th;have:=q.there (cH ht h.ok.gn) (show 23+j<30 by omega);rwa [←Nat.add_assoc] at this)
  obtain ⟨nSg,-,nAg,-⟩:=h.PK;have HE:=aA (show zL E t = {E.th t with heard:=aM (E.th t).heard j (E.gY k j)} by unfold zL;rw [←hi,←hj] at *;rw [hkk,←hi]);have HH:=aA h;have HC:=aA (aP hv (aP hf hp0));have HI:=aA (aP hi (aP hj hkk));clear h hc hcv eP yu hv hf hp0 hi hj hkk
  first|(have:=kA kk;go_enter func211,ntmps211)|(have:=kB kk;go_enter func270,ntmps270)|(have:=kC kk;go_enter func344,ntmps344)|(have:=kD kk;go_enter func307,ntmps307)
  go_upto_region 0 with fail;go_quiet (fail);rw [hmod];generalize pT:World.drewN w nq=W0
  first
   |have:=kA kk
    obtain ⟨d0,d3,da,QJ,r0,k0,d4,dpv⟩:W0.cell? ⟨L.g,t*28,none⟩=some (.pointer (some ⟨L.bS,0,none⟩))∧W0.cell? ⟨L.bS,3,none⟩=some (.slice (some ⟨L.cQ,0,none⟩) L.n L.n)∧W0.cell? ⟨L.cQ,k*3+j,none⟩=some (.int .i64 (E.gY k j))∧W0.there L.g (t*28+21+j) 1∧int.RE R L S E W0∧Fr L.own w W0∧W0.cell? ⟨L.g,t*28+4,none⟩=some (.int .i64 ((E.th t).past:Int))∧W0.cell? ⟨L.g,t*28+20,none⟩=some (.slice (some ⟨gp,0,none⟩) (E.th t).aK.length pc):=by
     rw [←pT];exact ⟨c0,s3,a0,th,HH.out.drewN nq,(Fr.refl _ w).drewN nq,c4,yl⟩
   |have:=kB kk
    obtain ⟨d0,d3,da,QJ,r0,k0,d4,dpv⟩:W0.cell? ⟨L.g,t*28,none⟩=some (.pointer (some ⟨L.bS,0,none⟩))∧W0.cell? ⟨L.bS,3,none⟩=some (.slice (some ⟨L.cQ,0,none⟩) L.n L.n)∧W0.cell? ⟨L.cQ,k*3+j,none⟩=some (.int .i64 (E.gY k j))∧W0.there L.g (t*28+21+j) 1∧list.RE R L S E W0∧Fr L.own w W0∧W0.cell? ⟨L.g,t*28+4,none⟩=some (.int .i64 ((E.th t).past:Int))∧W0.cell? ⟨L.g,t*28+20,none⟩=some (.slice (some ⟨gp,0,none⟩) (E.th t).aK.length pc):=by
     rw [←pT];exact ⟨c0,s3,a0,th,HH.out.drewN nq,(Fr.refl _ w).drewN nq,c4,yl⟩
   |have:=kC kk
    obtain ⟨d0,d3,da,QJ,r0,k0,d4,dpv⟩:W0.cell? ⟨L.g,t*28,none⟩=some (.pointer (some ⟨L.bS,0,none⟩))∧W0.cell? ⟨L.bS,3,none⟩=some (.slice (some ⟨L.cQ,0,none⟩) L.n L.n)∧W0.cell? ⟨L.cQ,k*3+j,none⟩=some (.int .i64 (E.gY k j))∧W0.there L.g (t*28+21+j) 1∧tree.RE R L S E W0∧Fr L.own w W0∧W0.cell? ⟨L.g,t*28+4,none⟩=some (.int .i64 ((E.th t).past:Int))∧W0.cell? ⟨L.g,t*28+20,none⟩=some (.slice (some ⟨gp,0,none⟩) (E.th t).aK.length pc):=by
     rw [←pT];exact ⟨c0,s3,a0,th,HH.out.drewN nq,(Fr.refl _ w).drewN nq,c4,yl⟩
   |have:=kD kk
    obtain ⟨d0,d3,da,QJ,r0,k0,d4,dpv⟩:W0.cell? ⟨L.g,t*30,none⟩=some (.pointer (some ⟨L.bS,0,none⟩))∧W0.cell? ⟨L.bS,3,none⟩=some (.slice (some ⟨L.cQ,0,none⟩) L.n L.n)∧W0.cell? ⟨L.cQ,k*3+j,none⟩=some (.int .i64 (E.gY k j))∧W0.there L.g (t*30+23+j) 1∧row.RE R L S E W0∧Fr L.own w W0∧W0.cell? ⟨L.g,t*30+4,none⟩=some (.int .i64 ((E.th t).past:Int))∧W0.cell? ⟨L.g,t*30+22,none⟩=some (.slice (some ⟨gp,0,none⟩) (E.th t).aK.length pc):=by
     rw [←pT];exact ⟨c0,s3,a0,th,HH.out.drewN nq,(Fr.refl _ w).drewN nq,c4,yl⟩
  have H1:=aA (r0.drew.CV ht hj3 (E.gY k j));have K0:=aA k0;clear pT r0 k0 c0 s3 a0 th c4 yl cpk hdiv hmod hil aLI;go_upto_region 1 with fail
  first|(have:=kA kk;refine fH (S:=(fun w'=>w'.cell? ⟨L.g,t*28,none⟩=some (.pointer (some ⟨L.bS,0,none⟩))∧w'.cell? ⟨L.g,t*28+4,none⟩=some (.int .i64 ((E.th t).past:Int))∧w'.cell? ⟨L.g,t*28+20,none⟩=some (.slice (some ⟨gp,0,none⟩) (E.th t).aK.length pc)∧w'.cell? ⟨L.bS,3,none⟩=some (.slice (some ⟨L.cQ,0,none⟩) L.n L.n)∧w'.cell? ⟨L.cQ,k*3+j,none⟩=some (.int .i64 (E.gY k j))∧w'.there (L.g) (t*28+21+j) 1)) 18 rfl (by kernel_rfl) ?_ (fun hHeld=>?_))|(have:=kB kk;refine fH (S:=(fun w'=>w'.cell? ⟨L.g,t*28,none⟩=some (.pointer (some ⟨L.bS,0,none⟩))∧w'.cell? ⟨L.g,t*28+4,none⟩=some (.int .i64 ((E.th t).past:Int))∧w'.cell? ⟨L.g,t*28+20,none⟩=some (.slice (some ⟨gp,0,none⟩) (E.th t).aK.length pc)∧w'.cell? ⟨L.bS,3,none⟩=some (.slice (some ⟨L.cQ,0,none⟩) L.n L.n)∧w'.cell? ⟨L.cQ,k*3+j,none⟩=some (.int .i64 (E.gY k j))∧w'.there (L.g) (t*28+21+j) 1)) 18 rfl (by kernel_rfl) ?_ (fun hHeld=>?_))|(have:=kC kk;refine fH (S:=(fun w'=>w'.cell? ⟨L.g,t*28,none⟩=some (.pointer (some ⟨L.bS,0,none⟩))∧w'.cell? ⟨L.g,t*28+4,none⟩=some (.int .i64 ((E.th t).past:Int))∧w'.cell? ⟨L.g,t*28+20,none⟩=some (.slice (some ⟨gp,0,none⟩) (E.th t).aK.length pc)∧w'.cell? ⟨L.bS,3,none⟩=some (.slice (some ⟨L.cQ,0,none⟩) L.n L.n)∧w'.cell? ⟨L.cQ,k*3+j,none⟩=some (.int .i64 (E.gY k j))∧w'.there (L.g) (t*28+21+j) 1)) 18 rfl (by kernel_rfl) ?_ (fun hHeld=>?_))|(have:=kD kk;refine fH (S:=(fun w'=>w'.cell? ⟨L.g,t*30,none⟩=some (.pointer (some ⟨L.bS,0,none⟩))∧w'.cell? ⟨L.g,t*30+4,none⟩=some (.int .i64 ((E.th t).past:Int))∧w'.cell? ⟨L.g,t*30+22,none⟩=some (.slice (some ⟨gp,0,none⟩) (E.th t).aK.length pc)∧w'.cell? ⟨L.bS,3,none⟩=some (.slice (some ⟨L.cQ,0,none⟩) L.n L.n)∧w'.cell? ⟨L.cQ,k*3+j,none⟩=some (.int .i64 (E.gY k j))∧w'.there (L.g) (t*30+23+j) 1)) 18 rfl (by kernel_rfl) ?_ (fun hHeld=>?_))
  ·exact ⟨d0,d4,dpv,d3,da,QJ⟩
  iterate 13 (refine tk 17 (by rfl) (by kernel_rfl) (by exact fun _ _ _ h=>h) (.inl ⟨by rfl,fun w hS=>by (try dsimp only at hS);go_simp;(try with_reducible rfl)⟩) (by assumption) ?_;try go_frame)
  iterate 2 (refine tk 18 (by rfl) (by kernel_rfl) (by exact fun _ _ _ h=>h) (.inl ⟨by rfl,fun w hS=>by (try dsimp only at hS);go_simp;(try with_reducible rfl)⟩) (by assumption) ?_;try go_frame)
  refine cT 13 (by rfl) (by kernel_rfl) (fun K hK=>?_);go_simp;refine (vH L.cQ (k*3+j) _ _ hHeld.2.2.2.2.1).mono ?_;rintro e w3 ⟨rfl,rfl⟩;go_wp2_with fail;refine hK.out _ _ ?_ (fun hHeld=>?_)
  ·exact hHeld
  clear hK K
  (try go_frame)
  iterate 1 (refine tk 17 (by rfl) (by kernel_rfl) (by exact fun _ _ _ h=>h) (.inl ⟨by rfl,fun w hS=>by (try dsimp only at hS);go_simp;(try with_reducible rfl)⟩) (by assumption) ?_;try go_frame)
  refine cT 17 (by rfl) (by kernel_rfl) (fun K hK=>?_);rw [aJ (by rfl)]
  first|(have:=kA kk;refine aY _ _ _ rfl L.g (t*28+21+j) (.int .i64 (E.gY k j)) rfl rfl rfl rfl hHeld.2.2.2.2.2 (by kernel_rfl) ?_)|(have:=kB kk;refine aY _ _ _ rfl L.g (t*28+21+j) (.int .i64 (E.gY k j)) rfl rfl rfl rfl hHeld.2.2.2.2.2 (by kernel_rfl) ?_)|(have:=kC kk;refine aY _ _ _ rfl L.g (t*28+21+j) (.int .i64 (E.gY k j)) rfl rfl rfl rfl hHeld.2.2.2.2.2 (by kernel_rfl) ?_)|(have:=kD kk;refine aY _ _ _ rfl L.g (t*30+23+j) (.int .i64 (E.gY k j)) rfl rfl rfl rfl hHeld.2.2.2.2.2 (by kernel_rfl) ?_)
  refine hK.out _ _ ?_ (fun hHeld=>?_)
  ·exact ⟨aH hHeld.1 (by dsimp only;omega),aH hHeld.2.1 (by dsimp only;omega),aH hHeld.2.2.1 (by dsimp only;omega),aH hHeld.2.2.2.1 (by dsimp only;omega),aH hHeld.2.2.2.2.1 (by dsimp only;omega),bA hHeld.2.2.2.2.2 _ rfl _⟩
  clear hK K
  (try go_frame)
  refine cC (by kernel_rfl) ?_ _;have f4:=hHeld.2.1;have fpv:=hHeld.2.2.1;clear hHeld;generalize jB:World.setCell _ _ _=W2;have JS:aE R L S w {E with th:=aM E.th t (zL E t)} W2:=by
   rw [←jB,HE.out];exact aE.of H1.out (K0.out.drew.trans (Fr.set _ pI _)) rfl
  first|(have:=kA kk;have g4:W2.cell? ⟨L.g,t*28+4,none⟩=some (.int .i64 ((E.th t).past:Int)):=by rw [←jB];exact f4)|(have:=kB kk;have g4:W2.cell? ⟨L.g,t*28+4,none⟩=some (.int .i64 ((E.th t).past:Int)):=by rw [←jB];exact f4)|(have:=kC kk;have g4:W2.cell? ⟨L.g,t*28+4,none⟩=some (.int .i64 ((E.th t).past:Int)):=by rw [←jB];exact f4)|(have:=kD kk;have g4:W2.cell? ⟨L.g,t*30+4,none⟩=some (.int .i64 ((E.th t).past:Int)):=by rw [←jB];exact f4)
  first|(have:=kA kk;have gpv:W2.cell? ⟨L.g,t*28+20,none⟩=some (.slice (some ⟨gp,0,none⟩) (E.th t).aK.length pc):=by rw [←jB];exact fpv)|(have:=kB kk;have gpv:W2.cell? ⟨L.g,t*28+20,none⟩=some (.slice (some ⟨gp,0,none⟩) (E.th t).aK.length pc):=by rw [←jB];exact fpv)|(have:=kC kk;have gpv:W2.cell? ⟨L.g,t*28+20,none⟩=some (.slice (some ⟨gp,0,none⟩) (E.th t).aK.length pc):=by rw [←jB];exact fpv)|(have:=kD kk;have gpv:W2.cell? ⟨L.g,t*30+22,none⟩=some (.slice (some ⟨gp,0,none⟩) (E.th t).aK.length pc):=by rw [←jB];exact fpv)
  have NB:=aA JS;clear jB JS f4 fpv d0 d3 da QJ d4 dpv
  by_cases hj2:j=2
  ·have q1:(2:Int)≤(j:Int):=by omega
   have q2:(j:Int)≤2:=by omega
   have HJ:=aA (show jQ P L.n E t=bU.apply P L.n (zL E t) k by unfold jQ;rw [aJ (by rw [←HI.out.2.1];exact hj2),←HI.out.2.2]);clear hj2;go_wp2_with fail;refine (MF hA NB.out.re ht hk (v:=v) (f:=f) (by simp only [aC];exact HC.out.1) (by simp only [aC];exact HC.out.2.1) hsz).mono ?_;rintro e w3 ⟨rfl,L3⟩;have FE:=aA (show aE R L S w {E with th:=aM E.th t (jQ P L.n E t)} w3 from (NB.out.next L3).cast (by rw [HJ.out];simp only [cU,aC]));clear L3;obtain ⟨y1,y2,y3,y4,y5,y6⟩:=wN P L.n E t;obtain ⟨cv7,cf7,pv7,hc7,-,-,-,-⟩:=FE.out.re.cells ht (aC _ _ _);have z4:=hc7 4 _ (by decide) rfl;rw [y1] at z4;obtain ⟨gp7,pc7,zpv⟩:=FE.out.re.ZC ht (aC _ _ _) (by rw [y2];exact HC.out.2.2);rw [y2] at zpv;have HY:=aA (aP y1 (aP y2 (aP y3 (aP y4 (aP y5 y6)))));clear hc7 y1 y2 y3 y4 y5 y6 g4 gpv
   by_cases AW:(E.th t).past+1=3*(E.th t).aK.length
   ·have l1:((E.th t).past:Int)≤3*((E.th t).aK.length:Int)-1:=by omega
    have l2:3*((E.th t).aK.length:Int)-1≤((E.th t).past:Int):=by omega
    have zo:=aA (show mZ P L.n E t=(jQ P L.n E t).close L.n by unfold mZ;rw [aJ AW]);clear AW;obtain ⟨v7,hv7⟩:=pQ.1 (HY.out.2.2.2.2.2 (by rw [HC.out.1];rfl));have HV7:=aA hv7;clear hv7;go_wp2_with fail;refine (FM FE.out.re ht (by simp only [aC];rw [HY.out.2.2.1];exact hN) (by simp only [aC];rw [HY.out.2.2.2.1];exact hr) (v:=v7) (f:=f) (by simp only [aC];exact HV7.out) (by simp only [aC];rw [HY.out.2.2.2.2.1];exact HC.out.2.1) (by simp only [aC];rw [HY.out.2.1];exact HC.out.2.2)).mono ?_;rintro e w5 ⟨rfl,L5⟩;have WZ:=aA (show aE R L S w {E with th:=aM E.th t (mZ P L.n E t)} w5 from (FE.out.next L5).cast (by rw [zo.out];simp only [cU,aC]));have hps:=sR WZ.out.re ht (3*(E.th t).aK.length) 9 (by omega) (by simp only [aC];rw [wO];omega);rw [show ((3*(E.th t).aK.length:Nat):Int)=3*((E.th t).aK.length:Int) by omega] at hps;have HPS:=aA hps;clear hps L5;go_wp2_with fail;refine HPS.out.mono ?_;rintro e w6 ⟨rfl,r6,k6⟩;have HR:=aA (aP r6 k6);clear r6 k6;go_wp2;refine cW (v:=.tuple #[]) (by simp [results,results211,results270,results344,results307,go_sem]) rfl ⟨rfl,WZ.out.next (aE.of (HR.out.1.cast ?_) HR.out.2 rfl)⟩;simp only [cU,aC]
   ·have l1:¬((E.th t).past:Int)=3*((E.th t).aK.length:Int)-1:=by omega
    have zo:=aA (show mZ P L.n E t=jQ P L.n E t by unfold mZ;rw [aN AW]);clear AW;have WZ:=aA (show aE R L S w {E with th:=aM E.th t (mZ P L.n E t)} w3 from FE.out.cast (by rw [zo.out]));have hps:=sR WZ.out.re ht (3*(E.th t).aK.length) 9 (by omega) (by simp only [aC];rw [wO];omega);rw [show ((3*(E.th t).aK.length:Nat):Int)=3*((E.th t).aK.length:Int) by omega] at hps;have HPS:=aA hps;clear hps;go_wp2_with fail;refine HPS.out.mono ?_;rintro e w6 ⟨rfl,r6,k6⟩;have HR:=aA (aP r6 k6);clear r6 k6;go_wp2;refine cW (v:=.tuple #[]) (by simp [results,results211,results270,results344,results307,go_sem]) rfl ⟨rfl,WZ.out.next (aE.of (HR.out.1.cast ?_) HR.out.2 rfl)⟩;simp only [cU,aC]
  ·have q1:¬(j:Int)=2:=by omega
   have HJ:=aA (show jQ P L.n E t=zL E t by unfold jQ;rw [aN (by rw [←HI.out.2.1];exact hj2)]);clear hj2;have FE:=aA (show aE R L S w {E with th:=aM E.th t (jQ P L.n E t)} W2 from NB.out.cast (by rw [HJ.out]));obtain ⟨y1,y2,y3,y4,y5,y6⟩:=wN P L.n E t;obtain ⟨cv7,cf7,pv7,hc7,-,-,-,-⟩:=FE.out.re.cells ht (aC _ _ _);have z4:=hc7 4 _ (by decide) rfl;rw [y1] at z4;obtain ⟨gp7,pc7,zpv⟩:=FE.out.re.ZC ht (aC _ _ _) (by rw [y2];exact HC.out.2.2);rw [y2] at zpv;have HY:=aA (aP y1 (aP y2 (aP y3 (aP y4 (aP y5 y6)))));clear hc7 y1 y2 y3 y4 y5 y6 g4 gpv
   by_cases AW:(E.th t).past+1=3*(E.th t).aK.length
   ·have l1:((E.th t).past:Int)≤3*((E.th t).aK.length:Int)-1:=by omega
    have l2:3*((E.th t).aK.length:Int)-1≤((E.th t).past:Int):=by omega
    have zo:=aA (show mZ P L.n E t=(jQ P L.n E t).close L.n by unfold mZ;rw [aJ AW]);clear AW;obtain ⟨v7,hv7⟩:=pQ.1 (HY.out.2.2.2.2.2 (by rw [HC.out.1];rfl));have HV7:=aA hv7;clear hv7;go_wp2_with fail;refine (FM FE.out.re ht (by simp only [aC];rw [HY.out.2.2.1];exact hN) (by simp only [aC];rw [HY.out.2.2.2.1];exact hr) (v:=v7) (f:=f) (by simp only [aC];exact HV7.out) (by simp only [aC];rw [HY.out.2.2.2.2.1];exact HC.out.2.1) (by simp only [aC];rw [HY.out.2.1];exact HC.out.2.2)).mono ?_;rintro e w5 ⟨rfl,L5⟩;have WZ:=aA (show aE R L S w {E with th:=aM E.th t (mZ P L.n E t)} w5 from (FE.out.next L5).cast (by rw [zo.out];simp only [cU,aC]));have hps:=sR WZ.out.re ht (3*(E.th t).aK.length) 9 (by omega) (by simp only [aC];rw [wO];omega);rw [show ((3*(E.th t).aK.length:Nat):Int)=3*((E.th t).aK.length:Int) by omega] at hps;have HPS:=aA hps;clear hps L5;go_wp2_with fail;refine HPS.out.mono ?_;rintro e w6 ⟨rfl,r6,k6⟩;have HR:=aA (aP r6 k6);clear r6 k6;go_wp2;refine cW (v:=.tuple #[]) (by simp [results,results211,results270,results344,results307,go_sem]) rfl ⟨rfl,WZ.out.next (aE.of (HR.out.1.cast ?_) HR.out.2 rfl)⟩;simp only [cU,aC]
   ·have l1:¬((E.th t).past:Int)=3*((E.th t).aK.length:Int)-1:=by omega
    have zo:=aA (show mZ P L.n E t=jQ P L.n E t by unfold mZ;rw [aN AW]);clear AW;have WZ:=aA (show aE R L S w {E with th:=aM E.th t (mZ P L.n E t)} W2 from FE.out.cast (by rw [zo.out]));have hps:=sR WZ.out.re ht (3*(E.th t).aK.length) 9 (by omega) (by simp only [aC];rw [wO];omega);rw [show ((3*(E.th t).aK.length:Nat):Int)=3*((E.th t).aK.length:Int) by omega] at hps;have HPS:=aA hps;clear hps;go_wp2_with fail;refine HPS.out.mono ?_;rintro e w6 ⟨rfl,r6,k6⟩;have HR:=aA (aP r6 k6);clear r6 k6;go_wp2;refine cW (v:=.tuple #[]) (by simp [results,results211,results270,results344,results307,go_sem]) rfl ⟨rfl,WZ.out.next (aE.of (HR.out.1.cast ?_) HR.out.2 rfl)⟩;simp only [cU,aC]
theorem int.UB:FY int.SR @int.RE @int.aE @int.bG @int.SR.sz 211 28:=rI.1
theorem list.UB:FY list.SR @list.RE @list.aE @list.bG @list.SR.sz 270 28:=rI.2.1
theorem tree.UB:FY tree.SR @tree.RE @tree.aE @tree.bG @tree.SR.sz 344 28:=rI.2.2.1
theorem row.UB:FY row.SR @row.RE @row.aE @row.bG @row.SR.sz 307 30:=rI.2.2.2
end Go.Proofs.YtefjhnhdagolhaaGreat
