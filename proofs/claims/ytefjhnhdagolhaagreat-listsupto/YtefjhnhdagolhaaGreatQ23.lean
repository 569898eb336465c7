import Derived.Test.YtefjhnhdagolhaaGreatQ22
import Derived.Test.YtefjhnhdagolhaaGreatQ03
namespace Go.Proofs.YtefjhnhdagolhaaGreat.list
open Go.RowKit
open M (aI aC aD Op dA aS cA aO aG aJ)
attribute [local go_sem ↓] Go.wp_at_zero Go.wp_at_succ
section
variable {σ:Type} {R:SR σ} {L:Lt} {S:Nat→Prop} {E E':cA σ} {w:World} {t:Nat}
theorem RE.tV (h:RE R L S E w) (ht:t<L.n) {j:Nat} (hj:j<3) (x:Int):RE R L S {E with th:=aI E.th t {E.th t with heard:=aI (E.th t).heard j x}} (w.setCell ⟨L.g,t*28+21+j,none⟩ (.int .i64 x)):=by
 rcases (by omega:j=0∨j=1∨j=2) with q|q|q<;>subst q
 ·exact (h.dO ht 21 (by decide) (.int .i64 x) {E.th t with heard:=aI (E.th t).heard 0 x} rfl rfl rfl rfl rfl (by intros;rfl)).1
 ·exact (h.dO ht 22 (by decide) (.int .i64 x) {E.th t with heard:=aI (E.th t).heard 1 x} rfl rfl rfl rfl rfl (by intros;rfl)).1
 ·exact (h.dO ht 23 (by decide) (.int .i64 x) {E.th t with heard:=aI (E.th t).heard 2 x} rfl rfl rfl rfl rfl (by intros;rfl)).1
def fP (E:cA σ) (t:Nat):aS σ:={E.th t with heard:=aI (E.th t).heard ((E.th t).past % 3) (E.eS ((E.th t).aK.getD ((E.th t).past / 3) 0) ((E.th t).past % 3))}
def cK (P:M.Plain σ) (n:Nat) (E:cA σ) (t:Nat):aS σ:=if (E.th t).past % 3=2 then (fP E t).apply P n ((E.th t).aK.getD ((E.th t).past / 3) 0) else fP E t
def cY (P:M.Plain σ) (n:Nat) (E:cA σ) (t:Nat):aS σ:=if (E.th t).past+1=3*(E.th t).aK.length then (cK P n E t).close n else cK P n E t
theorem rI (P:M.Plain σ) (n k:Nat) (e:aS σ):(aS.apply P n e k).past=e.past∧(aS.apply P n e k).aK=e.aK∧(aS.apply P n e k).stamp=e.stamp∧(aS.apply P n e k).aW=e.aW∧(aS.apply P n e k).dM=e.dM∧(e.now.isSome→(aS.apply P n e k).now.isSome):=by
 unfold aS.apply
 cases hq:e.now with
 |none=>exact ⟨rfl,rfl,rfl,rfl,rfl,fun q=>by cases q⟩
 |some v=>exact ⟨rfl,rfl,rfl,rfl,rfl,fun _=>rfl⟩
theorem eZ (P:M.Plain σ) (n:Nat) (E:cA σ) (t:Nat):(cK P n E t).past=(E.th t).past∧(cK P n E t).aK=(E.th t).aK∧(cK P n E t).stamp=(E.th t).stamp∧(cK P n E t).aW=(E.th t).aW∧(cK P n E t).dM=(E.th t).dM∧((E.th t).now.isSome→(cK P n E t).now.isSome):=by
 unfold cK
 split
 ·exact rI P n _ (fP E t)
 ·exact ⟨rfl,rfl,rfl,rfl,rfl,fun q=>q⟩
theorem fC (P:M.Plain σ) (n:Nat) (E:cA σ) (t:Nat):(cY P n E t).past=(E.th t).past:=by
 unfold cY
 split
 ·exact (eZ P n E t).1
 ·exact (eZ P n E t).1
theorem RE.FU (h:RE R L S E w) (ht:t<L.n) {e:aS σ} (he:E.th t=e) (hne:e.aK≠[]):∃ gp pc,w.cell? ⟨L.g,t*28+20,none⟩=some (.slice (some ⟨gp,0,none⟩) e.aK.length pc):=by
 obtain ⟨cv,cf,pv,hc,hcv,dN,EV,-⟩:=h.cells ht he
 obtain ⟨x0,x1,rfl⟩:=aH hcv.1
 obtain ⟨y0,y1,rfl⟩:=aH dN.1
 have:=hc 20 _ (by decide) rfl
 rcases EV with ⟨-,q⟩|⟨gp,pl,pc,-,q2,q3⟩
 ·exact absurd q hne
 ·obtain ⟨a,cap,e1,-,-,-⟩:=q3
  rw [q2] at e1
  injection e1 with e5 e6 e7
  have el:pl=e.aK.length:=by rw [e6];simp [ints]
  exact ⟨gp,pc,by rw [this,q2,el]⟩
set_option maxRecDepth 20000 in
set_option maxHeartbeats 4000000 in
theorem KG {P:M.Plain σ} {fA:Nat} {rv:Value} (hA:eV R P L fA rv) (h:RE R L S E w) (ht:t<L.n) (hN:(E.th t).stamp≤1000000000) (hr:(E.th t).aW<129) {v f:dA σ} (hv:(E.th t).now=some v) (hf:(E.th t).dM=some f) (hsz:R.sz v.st≤1000000000000)
  (hp:(E.th t).past<3*(E.th t).aK.length) (hl:(E.th t).aK.length≤64) (hk:(E.th t).aK.getD ((E.th t).past / 3) 0<L.n) :
  Calls Tryz.prog 270 #[.pointer (some ⟨L.g,t*28,none⟩)] w fun e w'=>e = .returned (.tuple #[])∧Left R L S w {E with th:=aI E.th t ((cY P L.n E t).pass (3*(E.th t).aK.length) 9)} w':=by
 obtain ⟨cv,cf,pv,hc,hcv,dN,EV,-⟩:=h.cells ht rfl
 obtain ⟨x0,x1,rfl⟩:=aH hcv.1
 obtain ⟨y0,y1,rfl⟩:=aH dN.1
 have hn:=h.ok.n64
 have c0:w.cell? ⟨L.g,t*28,none⟩=some (.pointer (some ⟨L.bS,0,none⟩)):=hc 0 _ (by decide) rfl
 have c4:=hc 4 _ (by decide) rfl
 have cpv:=hc 20 _ (by decide) rfl
 have s3:w.cell? ⟨L.bS,3,none⟩=some (.slice (some ⟨L.cO,0,none⟩) L.n L.n):=h.sh.cell_of rfl
 have MZ:(E.th t).aK≠[]:=by intro q;rw [q] at hp;simp at hp
 obtain ⟨i,hi⟩:∃ i,i=(E.th t).past / 3:=⟨_,rfl⟩
 obtain ⟨j,hj⟩:∃ j,j=(E.th t).past % 3:=⟨_,rfl⟩
 obtain ⟨k,hkk⟩:∃ k,k=(E.th t).aK.getD ((E.th t).past / 3) 0:=⟨_,rfl⟩
 rw [←hkk] at hk
 have hil:i<(E.th t).aK.length:=by omega
 have hj3:j<3:=by omega
 obtain ⟨gp,pc,rfl,cpk⟩:∃ gp pc,pv = .slice (some ⟨gp,0,none⟩) (E.th t).aK.length pc∧w.cell? ⟨gp,i,none⟩=some (.int .i64 (k:Int)):=by
  rcases EV with ⟨-,q⟩|⟨gp,pl,pc,-,q2,q3⟩
  ·exact absurd q MZ
  ·obtain ⟨a,cap,e1,-,-,e4⟩:=q3
   rw [q2] at e1
   injection e1 with e5 e6 e7
   have el:pl=(E.th t).aK.length:=by rw [e6];simp [ints]
   refine ⟨gp,pc,by rw [q2,el],?_⟩
   rcases e4 with e4|⟨g',off,e8,e9⟩
   ·have:(ints ((E.th t).aK.map Int.ofNat)).length=0:=by rw [e4];rfl
    simp [ints] at this
    exact absurd this MZ
   ·rw [e8] at e5
    injection e5 with e5
    injection e5 with e10 e11
    subst e10
    subst e11
    have:=e9 i (.int .i64 (k:Int)) (by
     rw [fH,List.getElem?_map,List.getElem?_eq_getElem hil,hkk,←hi,List.getD_eq_getElem?_getD,List.getElem?_eq_getElem hil]
     rfl)
    rwa [Nat.zero_add] at this
 have hdiv:((E.th t).past:Int) / 3=(i:Int):=by omega
 have hmod:((E.th t).past:Int) % 3=(j:Int):=by omega
 have aA2:(i:Int)<((E.th t).aK.length:Int):=by omega
 have aC6:(k:Int)<(L.n:Int):=by omega
 have aFP:(j:Int)<3:=by omega
 have a0:w.cell? ⟨L.cO,k*3+j,none⟩=some (.int .i64 (E.eS k j)):=h.an.cell hk hj3
 have th:w.there L.g (t*28+21+j) 1:=by obtain ⟨T,q,-⟩:=h.th;have:=q.there (Nat.lt_of_lt_of_le ht h.ok.gn) (show 21+j<28 by omega);rwa [←Nat.add_assoc] at this
 obtain ⟨nSg,-,nAg,-⟩:=h.sR
 have HE:=aA (show fP E t = {E.th t with heard:=aI (E.th t).heard j (E.eS k j)} by unfold fP;rw [←hi,←hj] at *;rw [hkk,←hi])
 have HH:=aA h
 have HC:=aA (And.intro hv (And.intro hf MZ))
 have HI:=aA (And.intro hi (And.intro hj hkk))
 clear h hc hcv dN EV hv hf MZ hi hj hkk
 go_enter Tryz.func270,Tryz.ntmps270
 go_upto_region 0 with fail
 go_quiet (fail)
 rw [hmod]
 generalize jE:World.drewN w nq=W0
 obtain ⟨d0,d3,da,vT,r0,k0,d4,dpv⟩:W0.cell? ⟨L.g,t*28,none⟩=some (.pointer (some ⟨L.bS,0,none⟩))∧W0.cell? ⟨L.bS,3,none⟩=some (.slice (some ⟨L.cO,0,none⟩) L.n L.n)∧W0.cell? ⟨L.cO,k*3+j,none⟩=some (.int .i64 (E.eS k j))∧W0.there L.g (t*28+21+j) 1∧RE R L S E W0∧Fr L.own w W0∧W0.cell? ⟨L.g,t*28+4,none⟩=some (.int .i64 ((E.th t).past:Int))∧W0.cell? ⟨L.g,t*28+20,none⟩=some (.slice (some ⟨gp,0,none⟩) (E.th t).aK.length pc):=by
  rw [←jE]
  exact ⟨c0,s3,a0,th,HH.out.drewN nq,(Fr.refl _ w).drewN nq,c4,cpv⟩
 have H1:=aA (r0.drew.tV ht hj3 (E.eS k j))
 have K0:=aA k0
 clear jE r0 k0 c0 s3 a0 th c4 cpv cpk hdiv hmod hil aA2
 go_upto_region 1 with fail
 refine gO (S:=(fun w'=>w'.cell? ⟨L.g,t*28,none⟩=some (.pointer (some ⟨L.bS,0,none⟩))∧w'.cell? ⟨L.g,t*28+4,none⟩=some (.int .i64 ((E.th t).past:Int))∧w'.cell? ⟨L.g,t*28+20,none⟩=some (.slice (some ⟨gp,0,none⟩) (E.th t).aK.length pc)∧w'.cell? ⟨L.bS,3,none⟩=some (.slice (some ⟨L.cO,0,none⟩) L.n L.n)∧w'.cell? ⟨L.cO,k*3+j,none⟩=some (.int .i64 (E.eS k j))∧w'.there (L.g) (t*28+21+j) 1)) 18 rfl (by kernel_rfl) ?_ (fun hHeld=>?_)
 ·exact ⟨d0,d4,dpv,d3,da,vT⟩
 iterate 13 (refine tk 17 (by rfl) (by kernel_rfl) (by exact fun _ _ _ h=>h) (.inl ⟨by rfl,fun w hS=>by (try dsimp only at hS);go_simp;(try with_reducible rfl)⟩) (by assumption) ?_;try go_frame)
 iterate 2 (refine tk 18 (by rfl) (by kernel_rfl) (by exact fun _ _ _ h=>h) (.inl ⟨by rfl,fun w hS=>by (try dsimp only at hS);go_simp;(try with_reducible rfl)⟩) (by assumption) ?_;try go_frame)
 refine aU 13 (by rfl) (by kernel_rfl) (fun K hK=>?_)
 go_simp
 refine (gY L.cO (k*3+j) _ _ hHeld.2.2.2.2.1).mono ?_
 rintro e w3 ⟨rfl,rfl⟩
 go_wp2_with fail
 refine hK.out _ _ ?_ (fun hHeld=>?_)
 ·exact hHeld
 clear hK K
 (try go_frame)
 iterate 1 (refine tk 17 (by rfl) (by kernel_rfl) (by exact fun _ _ _ h=>h) (.inl ⟨by rfl,fun w hS=>by (try dsimp only at hS);go_simp;(try with_reducible rfl)⟩) (by assumption) ?_;try go_frame)
 refine aU 17 (by rfl) (by kernel_rfl) (fun K hK=>?_)
 rw [if_pos (by rfl)]
 refine aM _ _ _ rfl L.g (t*28+21+j) (.int .i64 (E.eS k j)) rfl rfl rfl rfl hHeld.2.2.2.2.2 (by kernel_rfl) ?_
 refine hK.out _ _ ?_ (fun hHeld=>?_)
 ·exact ⟨aF hHeld.1 (by first|exact .inr (by dsimp only;omega)|exact .inl (by assumption)|exact .inl (Ne.symm (by assumption))),aF hHeld.2.1 (by first|exact .inr (by dsimp only;omega)|exact .inl (by assumption)|exact .inl (Ne.symm (by assumption))),aF hHeld.2.2.1 (by first|exact .inr (by dsimp only;omega)|exact .inl (by assumption)|exact .inl (Ne.symm (by assumption))),aF hHeld.2.2.2.1 (by first|exact .inr (by dsimp only;omega)|exact .inl (by assumption)|exact .inl (Ne.symm (by assumption))),aF hHeld.2.2.2.2.1 (by first|exact .inr (by dsimp only;omega)|exact .inl (by assumption)|exact .inl (Ne.symm (by assumption))),aQ hHeld.2.2.2.2.2 _ rfl _⟩
 clear hK K
 (try go_frame)
 refine wpAnyH_done (by kernel_rfl) ?_ _
 have f4:=hHeld.2.1
 have fpv:=hHeld.2.2.1
 clear hHeld
 generalize xO:World.setCell _ _ _=W2
 have oX:Left R L S w {E with th:=aI E.th t (fP E t)} W2:=by
  rw [←xO,HE.out]
  exact Left.of H1.out (K0.out.drew.trans (Fr.set _ fY _)) rfl
 have g4:W2.cell? ⟨L.g,t*28+4,none⟩=some (.int .i64 ((E.th t).past:Int)):=by rw [←xO];exact f4
 have gpv:W2.cell? ⟨L.g,t*28+20,none⟩=some (.slice (some ⟨gp,0,none⟩) (E.th t).aK.length pc):=by rw [←xO];exact fpv
 have xM:=aA oX
 clear xO oX f4 fpv d0 d3 da vT d4 dpv
 by_cases hj2:j=2
 ·have q1:(2:Int)≤(j:Int):=by omega
  have q2:(j:Int)≤2:=by omega
  have HJ:=aA (show cK P L.n E t=aS.apply P L.n (fP E t) k by unfold cK;rw [if_pos (by rw [←HI.out.2.1];exact hj2),←HI.out.2.2])
  clear hj2
  go_wp2_with fail
  refine (DC hA xM.out.re ht hk (v:=v) (f:=f) (by simp only [aC];exact HC.out.1) (by simp only [aC];exact HC.out.2.1) hsz).mono ?_
  rintro e w3 ⟨rfl,L3⟩
  have mF:=aA (show Left R L S w {E with th:=aI E.th t (cK P L.n E t)} w3 from (xM.out.next L3).cast (by rw [HJ.out];simp only [aV,aC]))
  clear L3
  obtain ⟨y1,y2,y3,y4,y5,y6⟩:=eZ P L.n E t
  obtain ⟨cv7,cf7,pv7,TM,-,-,-,-⟩:=mF.out.re.cells ht (aC _ _ _)
  have z4:=TM 4 _ (by decide) rfl
  rw [y1] at z4
  obtain ⟨gp7,pc7,zpv⟩:=mF.out.re.FU ht (aC _ _ _) (by rw [y2];exact HC.out.2.2)
  rw [y2] at zpv
  have HY:=aA (And.intro y1 (And.intro y2 (And.intro y3 (And.intro y4 (And.intro y5 y6)))))
  clear TM y1 y2 y3 y4 y5 y6 g4 gpv
  by_cases gU:(E.th t).past+1=3*(E.th t).aK.length
  ·have l1:((E.th t).past:Int)≤3*((E.th t).aK.length:Int)-1:=by omega
   have l2:3*((E.th t).aK.length:Int)-1≤((E.th t).past:Int):=by omega
   have DE:=aA (show cY P L.n E t=(cK P L.n E t).close L.n by unfold cY;rw [if_pos gU])
   clear gU
   obtain ⟨v7,TN⟩:=Option.isSome_iff_exists.1 (HY.out.2.2.2.2.2 (by rw [HC.out.1];rfl))
   have HV7:=aA TN
   clear TN
   go_wp2_with fail
   refine (sV mF.out.re ht (by simp only [aC];rw [HY.out.2.2.1];exact hN) (by simp only [aC];rw [HY.out.2.2.2.1];exact hr) (v:=v7) (f:=f) (by simp only [aC];exact HV7.out) (by simp only [aC];rw [HY.out.2.2.2.2.1];exact HC.out.2.1) (by simp only [aC];rw [HY.out.2.1];exact HC.out.2.2)).mono ?_
   rintro e w5 ⟨rfl,L5⟩
   have sU:=aA (show Left R L S w {E with th:=aI E.th t (cY P L.n E t)} w5 from (mF.out.next L5).cast (by rw [DE.out];simp only [aV,aC]))
   have hps:=fN sU.out.re ht (3*(E.th t).aK.length) 9 (by omega) (by simp only [aC];rw [fC];omega)
   rw [show ((3*(E.th t).aK.length:Nat):Int)=3*((E.th t).aK.length:Int) by omega] at hps
   have KH:=aA hps
   clear hps L5
   go_wp2_with fail
   refine KH.out.mono ?_
   rintro e w6 ⟨rfl,r6,k6⟩
   have HR:=aA (And.intro r6 k6)
   clear r6 k6
   go_wp2
   refine bodyPost_end (v:=.tuple #[]) (by simp [results,Tryz.results270,go_sem]) rfl ⟨rfl,sU.out.next (Left.of (HR.out.1.cast ?_) HR.out.2 rfl)⟩
   simp only [aV,aC]
  ·have l1:¬((E.th t).past:Int)=3*((E.th t).aK.length:Int)-1:=by omega
   have DE:=aA (show cY P L.n E t=cK P L.n E t by unfold cY;rw [if_neg gU])
   clear gU
   have sU:=aA (show Left R L S w {E with th:=aI E.th t (cY P L.n E t)} w3 from mF.out.cast (by rw [DE.out]))
   have hps:=fN sU.out.re ht (3*(E.th t).aK.length) 9 (by omega) (by simp only [aC];rw [fC];omega)
   rw [show ((3*(E.th t).aK.length:Nat):Int)=3*((E.th t).aK.length:Int) by omega] at hps
   have KH:=aA hps
   clear hps
   go_wp2_with fail
   refine KH.out.mono ?_
   rintro e w6 ⟨rfl,r6,k6⟩
   have HR:=aA (And.intro r6 k6)
   clear r6 k6
   go_wp2
   refine bodyPost_end (v:=.tuple #[]) (by simp [results,Tryz.results270,go_sem]) rfl ⟨rfl,sU.out.next (Left.of (HR.out.1.cast ?_) HR.out.2 rfl)⟩
   simp only [aV,aC]
 ·have q1:¬(j:Int)=2:=by omega
  have HJ:=aA (show cK P L.n E t=fP E t by unfold cK;rw [if_neg (by rw [←HI.out.2.1];exact hj2)])
  clear hj2
  have mF:=aA (show Left R L S w {E with th:=aI E.th t (cK P L.n E t)} W2 from xM.out.cast (by rw [HJ.out]))
  obtain ⟨y1,y2,y3,y4,y5,y6⟩:=eZ P L.n E t
  obtain ⟨cv7,cf7,pv7,TM,-,-,-,-⟩:=mF.out.re.cells ht (aC _ _ _)
  have z4:=TM 4 _ (by decide) rfl
  rw [y1] at z4
  obtain ⟨gp7,pc7,zpv⟩:=mF.out.re.FU ht (aC _ _ _) (by rw [y2];exact HC.out.2.2)
  rw [y2] at zpv
  have HY:=aA (And.intro y1 (And.intro y2 (And.intro y3 (And.intro y4 (And.intro y5 y6)))))
  clear TM y1 y2 y3 y4 y5 y6 g4 gpv
  by_cases gU:(E.th t).past+1=3*(E.th t).aK.length
  ·have l1:((E.th t).past:Int)≤3*((E.th t).aK.length:Int)-1:=by omega
   have l2:3*((E.th t).aK.length:Int)-1≤((E.th t).past:Int):=by omega
   have DE:=aA (show cY P L.n E t=(cK P L.n E t).close L.n by unfold cY;rw [if_pos gU])
   clear gU
   obtain ⟨v7,TN⟩:=Option.isSome_iff_exists.1 (HY.out.2.2.2.2.2 (by rw [HC.out.1];rfl))
   have HV7:=aA TN
   clear TN
   go_wp2_with fail
   refine (sV mF.out.re ht (by simp only [aC];rw [HY.out.2.2.1];exact hN) (by simp only [aC];rw [HY.out.2.2.2.1];exact hr) (v:=v7) (f:=f) (by simp only [aC];exact HV7.out) (by simp only [aC];rw [HY.out.2.2.2.2.1];exact HC.out.2.1) (by simp only [aC];rw [HY.out.2.1];exact HC.out.2.2)).mono ?_
   rintro e w5 ⟨rfl,L5⟩
   have sU:=aA (show Left R L S w {E with th:=aI E.th t (cY P L.n E t)} w5 from (mF.out.next L5).cast (by rw [DE.out];simp only [aV,aC]))
   have hps:=fN sU.out.re ht (3*(E.th t).aK.length) 9 (by omega) (by simp only [aC];rw [fC];omega)
   rw [show ((3*(E.th t).aK.length:Nat):Int)=3*((E.th t).aK.length:Int) by omega] at hps
   have KH:=aA hps
   clear hps L5
   go_wp2_with fail
   refine KH.out.mono ?_
   rintro e w6 ⟨rfl,r6,k6⟩
   have HR:=aA (And.intro r6 k6)
   clear r6 k6
   go_wp2
   refine bodyPost_end (v:=.tuple #[]) (by simp [results,Tryz.results270,go_sem]) rfl ⟨rfl,sU.out.next (Left.of (HR.out.1.cast ?_) HR.out.2 rfl)⟩
   simp only [aV,aC]
  ·have l1:¬((E.th t).past:Int)=3*((E.th t).aK.length:Int)-1:=by omega
   have DE:=aA (show cY P L.n E t=cK P L.n E t by unfold cY;rw [if_neg gU])
   clear gU
   have sU:=aA (show Left R L S w {E with th:=aI E.th t (cY P L.n E t)} W2 from mF.out.cast (by rw [DE.out]))
   have hps:=fN sU.out.re ht (3*(E.th t).aK.length) 9 (by omega) (by simp only [aC];rw [fC];omega)
   rw [show ((3*(E.th t).aK.length:Nat):Int)=3*((E.th t).aK.length:Int) by omega] at hps
   have KH:=aA hps
   clear hps
   go_wp2_with fail
   refine KH.out.mono ?_
   rintro e w6 ⟨rfl,r6,k6⟩
   have HR:=aA (And.intro r6 k6)
   clear r6 k6
   go_wp2
   refine bodyPost_end (v:=.tuple #[]) (by simp [results,Tryz.results270,go_sem]) rfl ⟨rfl,sU.out.next (Left.of (HR.out.1.cast ?_) HR.out.2 rfl)⟩
   simp only [aV,aC]
end
end Go.Proofs.YtefjhnhdagolhaaGreat.list
namespace Go.Proofs.YtefjhnhdagolhaaGreat.list
open Go.RowKit
open M (aI aC aD Op dA aS cA aO aG aJ)
attribute [local go_sem ↓] Go.wp_at_zero Go.wp_at_succ
section
variable {σ:Type} {R:SR σ} {L:Lt} {S:Nat→Prop} {E E':cA σ} {w:World} {t:Nat}
structure Can (L:Lt) (E:cA σ) (t:Nat):Prop where
 N:E.dZ≤1000000000
 st:(E.th t).stamp≤1000000000
 pr:E.prec<2*L.n+1
 sr:(E.th t).aW<129
 sp:(E.th t).spare<2*L.n+1
 b:(E.th t).aE≤L.cap
 p1:(E.th t).phase=1→(E.th t).past<3
 p2:(E.th t).phase=2→0≤E.cC (t / 16)∧E.cC (t / 16)<65536
 p3:(E.th t).phase=3→(E.th t).past≤1000000
 p5:(E.th t).phase=5→(E.th t).aW<2*L.n+1∧(E.th t).past≤aO L.n∧(E.gC (E.th t).aW).isSome
 p6:(E.th t).phase=6→(E.th t).past<M.tw L.n
 p7:(E.th t).phase=7→E.dZ=(E.th t).stamp→∀ k,k<M.tw L.n→jB ((E.th t).tg k)∧jB ((E.th t).dw k)
 p8:(E.th t).phase=8→(∃ v f,(E.th t).now=some v∧(E.th t).dM=some f)∧(E.th t).past<3*(E.th t).aK.length∧(E.th t).aK.length≤64∧(E.th t).aK.getD ((E.th t).past / 3) 0<L.n
 p9:(E.th t).phase=9→(E.th t).spare<2*L.n+1∧(E.th t).past≤aO L.n∧(E.th t).now.isSome∧(E.th t).dM.isSome
 p12:(E.th t).phase=12∨(E.th t).phase=13→(E.th t).found<2*L.n+1
set_option maxRecDepth 20000 in
set_option maxHeartbeats 1000000 in
theorem KI {P:M.Plain σ} {fA:Nat} {rv:Value} (_hA:eV R P L fA rv) (h:RE R L S E w) (ht:t<L.n) (hC:Can L E t) (cD:(E.th t).phase=1) :
  Calls Tryz.prog 259 #[.pointer (some ⟨L.g,t*28,none⟩)] w fun e w'=>e = .returned (.tuple #[])∧Left R L S w (M.step P L.n L.cap E t) w':=by
 obtain ⟨cv,cf,pv,hc,-,-,-,-⟩:=h.cells ht rfl
 have c3:w.cell? ⟨L.g,t*28+3,none⟩=some (.int .i64 1):=by have:=hc 3 _ (by decide) rfl;rw [cD] at this;exact this
 have HH:=aA h
 have HC:=aA hC
 have HX:=aA (rE HH.out ht (HC.out.p1 cD))
 have HP:=aA cD
 clear h hc hC cD
 go_enter Tryz.func259,Tryz.ntmps259
 go_wp2_with fail
 refine HX.out.mono ?_
 rintro e w1 ⟨rfl,r1,k1⟩
 have HR:=aA (Left.of r1 k1 rfl)
 clear r1 k1
 go_wp2
 refine bodyPost_end (v:=.tuple #[]) (by simp [results,Tryz.results259,go_sem]) rfl ⟨rfl,HR.out.cast ?_⟩
 unfold M.step
 simp only [HP.out]
set_option maxRecDepth 20000 in
set_option maxHeartbeats 1000000 in
theorem KJ {P:M.Plain σ} {fA:Nat} {rv:Value} (_hA:eV R P L fA rv) (h:RE R L S E w) (ht:t<L.n) (hC:Can L E t) (cD:(E.th t).phase=2) :
  Calls Tryz.prog 259 #[.pointer (some ⟨L.g,t*28,none⟩)] w fun e w'=>e = .returned (.tuple #[])∧Left R L S w (M.step P L.n L.cap E t) w':=by
 obtain ⟨cv,cf,pv,hc,-,-,-,-⟩:=h.cells ht rfl
 have c3:w.cell? ⟨L.g,t*28+3,none⟩=some (.int .i64 2):=by have:=hc 3 _ (by decide) rfl;rw [cD] at this;exact this
 have HH:=aA h
 have HC:=aA hC
 have HX:=aA (JU HH.out ht (HC.out.p2 cD).1 (HC.out.p2 cD).2)
 have HP:=aA cD
 clear h hc hC cD
 go_enter Tryz.func259,Tryz.ntmps259
 go_wp2_with fail
 refine HX.out.mono ?_
 rintro e w1 ⟨rfl,r1,k1⟩
 have HR:=aA (Left.of r1 k1 rfl)
 clear r1 k1
 go_wp2
 refine bodyPost_end (v:=.tuple #[]) (by simp [results,Tryz.results259,go_sem]) rfl ⟨rfl,HR.out.cast ?_⟩
 unfold M.step
 simp only [HP.out]
set_option maxRecDepth 20000 in
set_option maxHeartbeats 1000000 in
theorem KK {P:M.Plain σ} {fA:Nat} {rv:Value} (_hA:eV R P L fA rv) (h:RE R L S E w) (ht:t<L.n) (hC:Can L E t) (cD:(E.th t).phase=3) :
  Calls Tryz.prog 259 #[.pointer (some ⟨L.g,t*28,none⟩)] w fun e w'=>e = .returned (.tuple #[])∧Left R L S w (M.step P L.n L.cap E t) w':=by
 obtain ⟨cv,cf,pv,hc,-,-,-,-⟩:=h.cells ht rfl
 have c3:w.cell? ⟨L.g,t*28+3,none⟩=some (.int .i64 3):=by have:=hc 3 _ (by decide) rfl;rw [cD] at this;exact this
 have c9:=hc 9 _ (by decide) rfl
 have HH:=aA h
 have HC:=aA hC
 have HX:=aA (fN HH.out ht (E.th t).aE 4 (by have:=HC.out.b;have:=HH.out.ok.vD;omega) (HC.out.p3 cD))
 have HP:=aA cD
 clear h hc hC cD
 go_enter Tryz.func259,Tryz.ntmps259
 go_wp2_with fail
 refine HX.out.mono ?_
 rintro e w1 ⟨rfl,r1,k1⟩
 have HR:=aA (Left.of r1 k1 rfl)
 clear r1 k1
 go_wp2
 refine bodyPost_end (v:=.tuple #[]) (by simp [results,Tryz.results259,go_sem]) rfl ⟨rfl,HR.out.cast ?_⟩
 unfold M.step
 simp only [HP.out]
set_option maxRecDepth 20000 in
set_option maxHeartbeats 1000000 in
theorem KL {P:M.Plain σ} {fA:Nat} {rv:Value} (_hA:eV R P L fA rv) (h:RE R L S E w) (ht:t<L.n) (hC:Can L E t) (cD:(E.th t).phase=4) :
  Calls Tryz.prog 259 #[.pointer (some ⟨L.g,t*28,none⟩)] w fun e w'=>e = .returned (.tuple #[])∧Left R L S w (M.step P L.n L.cap E t) w':=by
 obtain ⟨cv,cf,pv,hc,-,-,-,-⟩:=h.cells ht rfl
 have c3:w.cell? ⟨L.g,t*28+3,none⟩=some (.int .i64 4):=by have:=hc 3 _ (by decide) rfl;rw [cD] at this;exact this
 have HH:=aA h
 have HC:=aA hC
 have HX:=aA (JN HH.out ht)
 have HP:=aA cD
 clear h hc hC cD
 go_enter Tryz.func259,Tryz.ntmps259
 go_wp2_with fail
 refine HX.out.mono ?_
 rintro e w1 ⟨rfl,r1,k1⟩
 have HR:=aA (Left.of r1 k1 rfl)
 clear r1 k1
 go_wp2
 refine bodyPost_end (v:=.tuple #[]) (by simp [results,Tryz.results259,go_sem]) rfl ⟨rfl,HR.out.cast ?_⟩
 unfold M.step
 simp only [HP.out]
set_option maxRecDepth 20000 in
set_option maxHeartbeats 1000000 in
theorem KM {P:M.Plain σ} {fA:Nat} {rv:Value} (_hA:eV R P L fA rv) (h:RE R L S E w) (ht:t<L.n) (hC:Can L E t) (cD:(E.th t).phase=5) :
  Calls Tryz.prog 259 #[.pointer (some ⟨L.g,t*28,none⟩)] w fun e w'=>e = .returned (.tuple #[])∧Left R L S w (M.step P L.n L.cap E t) w':=by
 obtain ⟨cv,cf,pv,hc,-,-,-,-⟩:=h.cells ht rfl
 have c3:w.cell? ⟨L.g,t*28+3,none⟩=some (.int .i64 5):=by have:=hc 3 _ (by decide) rfl;rw [cD] at this;exact this
 have HH:=aA h
 have HC:=aA hC
 have HX:=aA (rF HH.out ht (HC.out.p5 cD).1 (HC.out.p5 cD).2.1 HC.out.st (HC.out.p5 cD).2.2)
 have HP:=aA cD
 clear h hc hC cD
 go_enter Tryz.func259,Tryz.ntmps259
 go_wp2_with fail
 refine HX.out.mono ?_
 rintro e w1 ⟨rfl,L1⟩
 have HR:=aA L1
 clear L1
 go_wp2
 refine bodyPost_end (v:=.tuple #[]) (by simp [results,Tryz.results259,go_sem]) rfl ⟨rfl,HR.out.cast ?_⟩
 unfold M.step copied
 simp only [HP.out]
 all_goals (split<;>rfl)
set_option maxRecDepth 20000 in
set_option maxHeartbeats 1000000 in
theorem KN {P:M.Plain σ} {fA:Nat} {rv:Value} (_hA:eV R P L fA rv) (h:RE R L S E w) (ht:t<L.n) (hC:Can L E t) (cD:(E.th t).phase=6) :
  Calls Tryz.prog 259 #[.pointer (some ⟨L.g,t*28,none⟩)] w fun e w'=>e = .returned (.tuple #[])∧Left R L S w (M.step P L.n L.cap E t) w':=by
 obtain ⟨cv,cf,pv,hc,-,-,-,-⟩:=h.cells ht rfl
 have c3:w.cell? ⟨L.g,t*28+3,none⟩=some (.int .i64 6):=by have:=hc 3 _ (by decide) rfl;rw [cD] at this;exact this
 have HH:=aA h
 have HC:=aA hC
 have HX:=aA (JV HH.out ht (HC.out.p6 cD))
 have HP:=aA cD
 clear h hc hC cD
 go_enter Tryz.func259,Tryz.ntmps259
 go_wp2_with fail
 refine HX.out.mono ?_
 rintro e w1 ⟨rfl,r1,k1⟩
 have HR:=aA (Left.of r1 k1 rfl)
 clear r1 k1
 go_wp2
 refine bodyPost_end (v:=.tuple #[]) (by simp [results,Tryz.results259,go_sem]) rfl ⟨rfl,HR.out.cast ?_⟩
 unfold M.step
 simp only [HP.out]
set_option maxRecDepth 20000 in
set_option maxHeartbeats 1000000 in
theorem KO {P:M.Plain σ} {fA:Nat} {rv:Value} (_hA:eV R P L fA rv) (h:RE R L S E w) (ht:t<L.n) (hC:Can L E t) (cD:(E.th t).phase=7) :
  Calls Tryz.prog 259 #[.pointer (some ⟨L.g,t*28,none⟩)] w fun e w'=>e = .returned (.tuple #[])∧Left R L S w (M.step P L.n L.cap E t) w':=by
 obtain ⟨cv,cf,pv,hc,-,-,-,-⟩:=h.cells ht rfl
 have c3:w.cell? ⟨L.g,t*28+3,none⟩=some (.int .i64 7):=by have:=hc 3 _ (by decide) rfl;rw [cD] at this;exact this
 have HH:=aA h
 have HC:=aA hC
 have HX:=aA (CY HH.out ht HC.out.N HC.out.st (by have:=HC.out.pr;have:=HH.out.ok.n64;omega) HC.out.sr HC.out.b (HC.out.p7 cD))
 have HP:=aA cD
 clear h hc hC cD
 go_enter Tryz.func259,Tryz.ntmps259
 go_wp2_with fail
 refine HX.out.mono ?_
 rintro e w1 ⟨rfl,L1⟩
 have HR:=aA L1
 clear L1
 go_wp2
 refine bodyPost_end (v:=.tuple #[]) (by simp [results,Tryz.results259,go_sem]) rfl ⟨rfl,HR.out.cast ?_⟩
 unfold M.step checked
 simp only [HP.out]
set_option maxRecDepth 20000 in
set_option maxHeartbeats 1000000 in
theorem KP {P:M.Plain σ} {fA:Nat} {rv:Value} (hA:eV R P L fA rv) (h:RE R L S E w) (ht:t<L.n) (hC:Can L E t) (cD:(E.th t).phase=8) (hZ:∀ v,(E.th t).now=some v→R.sz v.st≤1000000000000) :
  Calls Tryz.prog 259 #[.pointer (some ⟨L.g,t*28,none⟩)] w fun e w'=>e = .returned (.tuple #[])∧Left R L S w (M.step P L.n L.cap E t) w':=by
 obtain ⟨cv,cf,pv,hc,-,-,-,-⟩:=h.cells ht rfl
 have c3:w.cell? ⟨L.g,t*28+3,none⟩=some (.int .i64 8):=by have:=hc 3 _ (by decide) rfl;rw [cD] at this;exact this
 have HH:=aA h
 have HC:=aA hC
 obtain ⟨⟨v,f,hv,hf⟩,hp,hl,hk⟩:=hC.p8 cD
 have HX:=aA (KG hA HH.out ht HC.out.st HC.out.sr hv hf (hZ v hv) hp hl hk)
 have HP:=aA cD
 clear h hc hC cD hv hf hp hl hk hZ
 go_enter Tryz.func259,Tryz.ntmps259
 go_wp2_with fail
 refine HX.out.mono ?_
 rintro e w1 ⟨rfl,L1⟩
 have HR:=aA L1
 clear L1
 go_wp2
 refine bodyPost_end (v:=.tuple #[]) (by simp [results,Tryz.results259,go_sem]) rfl ⟨rfl,HR.out.cast ?_⟩
 unfold M.step cY cK fP
 simp only [HP.out]
set_option maxRecDepth 20000 in
set_option maxHeartbeats 1000000 in
theorem KQ {P:M.Plain σ} {fA:Nat} {rv:Value} (_hA:eV R P L fA rv) (h:RE R L S E w) (ht:t<L.n) (hC:Can L E t) (cD:(E.th t).phase=9) :
  Calls Tryz.prog 259 #[.pointer (some ⟨L.g,t*28,none⟩)] w fun e w'=>e = .returned (.tuple #[])∧Left R L S w (M.step P L.n L.cap E t) w':=by
 obtain ⟨cv,cf,pv,hc,-,-,-,-⟩:=h.cells ht rfl
 have c3:w.cell? ⟨L.g,t*28+3,none⟩=some (.int .i64 9):=by have:=hc 3 _ (by decide) rfl;rw [cD] at this;exact this
 have HH:=aA h
 have HC:=aA hC
 have HX:=aA (oR HH.out ht (HC.out.p9 cD).1 (HC.out.p9 cD).2.1 (HC.out.p9 cD).2.2)
 have HP:=aA cD
 clear h hc hC cD
 go_enter Tryz.func259,Tryz.ntmps259
 go_wp2_with fail
 refine HX.out.mono ?_
 rintro e w1 ⟨rfl,L1⟩
 have HR:=aA L1
 clear L1
 go_wp2
 refine bodyPost_end (v:=.tuple #[]) (by simp [results,Tryz.results259,go_sem]) rfl ⟨rfl,HR.out.cast ?_⟩
 unfold M.step wrote
 simp only [HP.out]
 all_goals (split<;>rfl)
set_option maxRecDepth 20000 in
set_option maxHeartbeats 1000000 in
theorem DF {P:M.Plain σ} {fA:Nat} {rv:Value} (_hA:eV R P L fA rv) (h:RE R L S E w) (ht:t<L.n) (hC:Can L E t) (cD:(E.th t).phase=11) :
  Calls Tryz.prog 259 #[.pointer (some ⟨L.g,t*28,none⟩)] w fun e w'=>e = .returned (.tuple #[])∧Left R L S w (M.step P L.n L.cap E t) w':=by
 obtain ⟨cv,cf,pv,hc,-,-,-,-⟩:=h.cells ht rfl
 have c3:w.cell? ⟨L.g,t*28+3,none⟩=some (.int .i64 11):=by have:=hc 3 _ (by decide) rfl;rw [cD] at this;exact this
 have HH:=aA h
 have HC:=aA hC
 have HX:=aA (JO HH.out ht HC.out.pr (by have:=HC.out.N;omega))
 have HP:=aA cD
 clear h hc hC cD
 go_enter Tryz.func259,Tryz.ntmps259
 go_wp2_with fail
 refine HX.out.mono ?_
 rintro e w1 ⟨rfl,r1,k1⟩
 have HR:=aA (Left.of r1 k1 rfl)
 clear r1 k1
 go_wp2
 refine bodyPost_end (v:=.tuple #[]) (by simp [results,Tryz.results259,go_sem]) rfl ⟨rfl,HR.out.cast ?_⟩
 unfold M.step
 simp only [HP.out]
set_option maxRecDepth 20000 in
set_option maxHeartbeats 1000000 in
theorem DG {P:M.Plain σ} {fA:Nat} {rv:Value} (_hA:eV R P L fA rv) (h:RE R L S E w) (ht:t<L.n) (hC:Can L E t) (cD:(E.th t).phase=12) :
  Calls Tryz.prog 259 #[.pointer (some ⟨L.g,t*28,none⟩)] w fun e w'=>e = .returned (.tuple #[])∧Left R L S w (M.step P L.n L.cap E t) w':=by
 obtain ⟨cv,cf,pv,hc,-,-,-,-⟩:=h.cells ht rfl
 have c3:w.cell? ⟨L.g,t*28+3,none⟩=some (.int .i64 12):=by have:=hc 3 _ (by decide) rfl;rw [cD] at this;exact this
 have HH:=aA h
 have HC:=aA hC
 have HX:=aA (nA HH.out ht (HC.out.p12 (.inl cD)))
 have HP:=aA cD
 clear h hc hC cD
 go_enter Tryz.func259,Tryz.ntmps259
 go_wp2_with fail
 refine HX.out.mono ?_
 rintro e w1 ⟨rfl,L1⟩
 have HR:=aA L1
 clear L1
 go_wp2
 refine bodyPost_end (v:=.tuple #[]) (by simp [results,Tryz.results259,go_sem]) rfl ⟨rfl,HR.out.cast ?_⟩
 unfold M.step
 simp only [HP.out]
set_option maxRecDepth 20000 in
set_option maxHeartbeats 1000000 in
theorem DH {P:M.Plain σ} {fA:Nat} {rv:Value} (_hA:eV R P L fA rv) (h:RE R L S E w) (ht:t<L.n) (hC:Can L E t) (cD:(E.th t).phase=13) :
  Calls Tryz.prog 259 #[.pointer (some ⟨L.g,t*28,none⟩)] w fun e w'=>e = .returned (.tuple #[])∧Left R L S w (M.step P L.n L.cap E t) w':=by
 obtain ⟨cv,cf,pv,hc,-,-,-,-⟩:=h.cells ht rfl
 have c3:w.cell? ⟨L.g,t*28+3,none⟩=some (.int .i64 13):=by have:=hc 3 _ (by decide) rfl;rw [cD] at this;exact this
 have HH:=aA h
 have HC:=aA hC
 have HX:=aA (oO HH.out ht (HC.out.p12 (.inr cD)))
 have HP:=aA cD
 clear h hc hC cD
 go_enter Tryz.func259,Tryz.ntmps259
 go_wp2_with fail
 refine HX.out.mono ?_
 rintro e w1 ⟨rfl,L1⟩
 have HR:=aA L1
 clear L1
 go_wp2
 refine bodyPost_end (v:=.tuple #[]) (by simp [results,Tryz.results259,go_sem]) rfl ⟨rfl,HR.out.cast ?_⟩
 unfold M.step
 simp only [HP.out]
set_option maxRecDepth 20000 in
set_option maxHeartbeats 1000000 in
theorem DI {P:M.Plain σ} (h:RE R L S E w) (ht:t<L.n) (hC:Can L E t) (cD:(E.th t).phase=10) :
  Calls Tryz.prog 259 #[.pointer (some ⟨L.g,t*28,none⟩)] w fun e w'=>e = .returned (.tuple #[])∧Left R L S w (M.step P L.n L.cap E t) w':=by
 obtain ⟨cv,cf,pv,hc,-,-,-,-⟩:=h.cells ht rfl
 have c3:w.cell? ⟨L.g,t*28+3,none⟩=some (.int .i64 10):=by have:=hc 3 _ (by decide) rfl;rw [cD] at this;exact this
 have hn:=h.ok.n64
 have xQ:=h.ok.vD
 have HX:Calls Tryz.prog 272 #[.pointer (some ⟨L.g,t*28,none⟩)] w fun e w'=>e = .returned (.tuple #[])∧Left R L S w (M.step P L.n L.cap E t) w':=by
  by_cases q:E.dZ=(E.th t).stamp∧E.prec=(E.th t).aW
  ·refine (oP h ht hC.N q.1 q.2 hC.sr (by have:=hC.sp;omega) (by have:=hC.b;omega)).mono ?_
   rintro e w1 ⟨rfl,r1,k1⟩
   refine ⟨rfl,(Left.of r1 k1 rfl).cast ?_⟩
   unfold M.step
   simp only [cD]
   rw [if_pos q]
  ·refine (nB h ht hC.st (by have:=hC.pr;omega) q hC.sr (by have:=hC.sp;omega) hC.b).mono ?_
   rintro e w1 ⟨rfl,r1,k1⟩
   refine ⟨rfl,(Left.of r1 k1 rfl).cast ?_⟩
   unfold M.step
   simp only [cD]
   rw [if_neg q]
 have HX:=aA HX
 clear h hc hC cD
 go_enter Tryz.func259,Tryz.ntmps259
 go_wp2_with fail
 refine HX.out.mono ?_
 rintro e w1 ⟨rfl,L1⟩
 have HR:=aA L1
 clear L1
 go_wp2
 exact bodyPost_end (v:=.tuple #[]) (by simp [results,Tryz.results259,go_sem]) rfl ⟨rfl,HR.out⟩
theorem xR {P:M.Plain σ} {fA:Nat} {rv:Value} (hA:eV R P L fA rv) (h:RE R L S E w) (ht:t<L.n) (hC:Can L E t) (hZ:(E.th t).phase=8→∀ v,(E.th t).now=some v→R.sz v.st≤1000000000000) (h1:1≤(E.th t).phase) (JB:(E.th t).phase≤13) :
  Calls Tryz.prog 259 #[.pointer (some ⟨L.g,t*28,none⟩)] w fun e w'=>e = .returned (.tuple #[])∧Left R L S w (M.step P L.n L.cap E t) w':=by
 rcases (by omega:(E.th t).phase=1∨(E.th t).phase=2∨(E.th t).phase=3∨(E.th t).phase=4∨(E.th t).phase=5∨(E.th t).phase=6∨(E.th t).phase=7∨(E.th t).phase=8∨(E.th t).phase=9∨(E.th t).phase=10∨(E.th t).phase=11∨(E.th t).phase=12∨(E.th t).phase=13) with q|q|q|q|q|q|q|q|q|q|q|q|q
 ·exact KI hA h ht hC q
 ·exact KJ hA h ht hC q
 ·exact KK hA h ht hC q
 ·exact KL hA h ht hC q
 ·exact KM hA h ht hC q
 ·exact KN hA h ht hC q
 ·exact KO hA h ht hC q
 ·exact KP hA h ht hC q (hZ q)
 ·exact KQ hA h ht hC q
 ·exact DI h ht hC q
 ·exact DF hA h ht hC q
 ·exact DG hA h ht hC q
 ·exact DH hA h ht hC q
end
end Go.Proofs.YtefjhnhdagolhaaGreat.list
namespace Go.Proofs.YtefjhnhdagolhaaGreat.list
open Go.RowKit
open M (aI aC aD Op dA aS cA aR aT aO aG aJ)
section
variable {σ:Type} {R:SR σ} {L:Lt} {S:Nat→Prop} {E:cA σ} {Y:aR} {w:World} {t:Nat} {P:M.Plain σ}
theorem Can.of (hn:L.n≤64) (hc:L.cap≤64) (h:M.Inv P L.n L.cap E Y) (hB:M.IL L.n E) (hN:E.dZ≤1000000000) (ht:t<L.n):Can L E t:=by
 obtain ⟨pb,nf,hp,G,T⟩:=h
 have X:=T t ht
 obtain ⟨b1,b2,b3⟩:=hB.th t ht
 have part:∀ p,1≤p→p≤10→(E.th t).phase=p→(Y.th t).part=p:=by
  intro p h1 FF hq
  by_cases q:(Y.th t).part=11
  ·have:=X.p4 q;omega
  ·have:=X.p2 (by have:=X.p1;omega);omega
 have len:∀ p,1≤p→p≤10→(E.th t).phase=p→(E.th t).past<(Y.th t).len L.n p:=by
  intro p h1 FF hq
  have a:=part p h1 FF hq
  have:=X.p3 (by omega) (by omega)
  rw [a] at this
  omega
 have hsp:(E.th t).spare<2*L.n+1:=by rcases X.sp with q|q<;>omega
 refine {N:=hN,st:=Nat.le_trans b3 hN,pr:=hB.pr,sr:=by omega,sp:=hsp,b:=by rw [X.bk];exact X.bc,p1:=?_,p2:=?_,p3:=?_,p5:=?_,p6:=?_,p7:=?_,p8:=?_,p9:=?_,p12:=fun _=>b2}
 ·intro q;have:=len 1 (by omega) (by omega) q;simpa [aT.len] using this
 ·intro q
  have e:E.cC (t / 16)=M.bits L.n (fun k=>(Y.th k).aL) (t / 16):=G.cC (t / 16) (by unfold M.tw;omega)
  rw [e]
  exact ⟨M.iI _ _ _,M.pS _ _ _⟩
 ·intro q
  have:=len 3 (by omega) (by omega) q
  have e:(Y.th t).len L.n 3=(Y.th t).aE:=by simp [aT.len]
  have:=X.bc
  omega
 ·intro q
  have:=len 5 (by omega) (by omega) q
  have e:(Y.th t).len L.n 5=aO L.n+1:=by simp [aT.len]
  have a:=part 5 (by omega) (by omega) q
  exact ⟨b1,by omega,(X.s1 (by omega) (by omega)).2.2.2.2.2.2.2⟩
 ·intro q
  have:=len 6 (by omega) (by omega) q
  have e:(Y.th t).len L.n 6=M.tw L.n:=by simp [aT.len]
  omega
 ·intro q hs k hk
  have a:=part 7 (by omega) (by omega) q
  have hs':(E.th t).stamp=(M.view E Y pb nf).N:=by rw [←hs,hp];rfl
  have t7:=(X.t7 (by omega) (by omega)).1 k hk
  have d7:=(X.d7 (.inr a) hs').1 k (by unfold aO;omega)
  have c7:=G.IY k hk
  rw [t7,d7,c7]
  exact ⟨⟨M.iI _ _ _,M.pS _ _ _⟩,M.iI _ _ _,M.pS _ _ _⟩
 ·intro q
  have a:=part 8 (by omega) (by omega) q
  have l:=len 8 (by omega) (by omega) q
  have e:(Y.th t).len L.n 8=3*(Y.th t).aK.length:=by simp [aT.len]
  obtain ⟨-,d1,d2⟩:=X.d6 (by omega) (by omega)
  obtain ⟨h1,h2,-⟩:=X.h8 (by omega) (by omega)
  have hl:(E.th t).past<3*(E.th t).aK.length:=by rw [h1];omega
  have hm:∀ k∈(E.th t).aK,k<L.n:=by
   intro k hk
   rw [h2] at hk
   exact List.mem_range.mp (List.mem_filter.mp hk).1
  refine ⟨?_,hl,?_,?_⟩
  ·obtain ⟨v,hv⟩:=Option.isSome_iff_exists.mp d1
   obtain ⟨f,hf⟩:=Option.isSome_iff_exists.mp d2
   exact ⟨v,f,hv,hf⟩
  ·rw [h2]
   refine Nat.le_trans (List.length_filter_le _ _) ?_
   rw [List.length_range]
   exact hn
  ·have hi:(E.th t).past / 3<(E.th t).aK.length:=by omega
   rw [List.getD_eq_getElem?_getD,List.getElem?_eq_getElem hi]
   exact hm _ (List.getElem_mem hi)
 ·intro q
  have:=len 9 (by omega) (by omega) q
  have e:(Y.th t).len L.n 9=aO L.n+1:=by simp [aT.len]
  have a:=part 9 (by omega) (by omega) q
  obtain ⟨-,d1,d2⟩:=X.d6 (by omega) (by omega)
  exact ⟨hsp,by omega,d1,d2⟩
end
end Go.Proofs.YtefjhnhdagolhaaGreat.list
namespace Go.Proofs.YtefjhnhdagolhaaGreat.list
open Go.RowKit
open M (aI aC aD Op dA aS cA aR aT aO aG aJ)
attribute [local go_sem ↓] Go.wp_at_zero Go.wp_at_succ
section
variable {σ:Type} {R:SR σ} {L:Lt} {S:Nat→Prop} {E:cA σ} {w:World} {t:Nat}
set_option maxHeartbeats 1000000 in
theorem fQ (h:RE R L S E w) (ht:t<L.n) :
  Calls Tryz.prog 257 #[.pointer (some ⟨L.g,t*28,none⟩)] w fun e w'=>e = .returned (.bool (decide ((E.th t).phase≠0)))∧w'=w:=by
 obtain ⟨cv,cf,pv,hc,-,-,-,hf⟩:=h.cells ht rfl
 have c3:=hc 3 _ (by decide) rfl
 clear h hc hf
 go_enter Tryz.func257,Tryz.ntmps257
 go_wp2
 go_ret
 refine ⟨dR ?_,rfl⟩
 rw [Bool.eq_iff_iff]
 simp
set_option maxHeartbeats 1000000 in
theorem gZ (h:RE R L S E w) (x:Int) :
  Calls Tryz.prog 256 #[.pointer (some ⟨L.bE,0,none⟩),.int .i64 x] w fun e w'=>e = .returned (.bool (decide (0≤x∧x<L.n)))∧w'=w:=by
 have c1:w.cell? ⟨L.bE,1,none⟩=some (.slice (some ⟨L.g,0,none⟩) L.n L.gc):=h.fL.cell_of rfl
 clear h
 by_cases q:0≤x
 ·have hg:decide (x≥0)=true:=by simp [q]
  go_enter Tryz.func256,Tryz.ntmps256
  go_wp2
  go_ret
  refine ⟨dR ?_,rfl⟩
  simp [q]
 ·go_enter Tryz.func256,Tryz.ntmps256
  go_wp2
  go_ret
  refine ⟨dR ?_,rfl⟩
  simp
  omega
set_option maxRecDepth 20000 in
set_option maxHeartbeats 1000000 in
theorem DJ (h:RE R L S E w) (ht:t<L.n) (o:M.Op) :
  Calls Tryz.prog 258 #[.pointer (some ⟨L.g,t*28,none⟩),.agg #[.int .i64 o.c,.int .i64 o.a,.int .i64 o.b]] w fun e w'=>e = .returned (.tuple #[])∧Left R L S w (M.begin E t o) w':=by
 have HH:=aA h
 clear h
 go_enter Tryz.func258,Tryz.ntmps258
 go_upto_region 1 with fail
 generalize gJ:World.alloc w _=W1
 have dU:Below w.heap.size w W1:=by rw [←gJ];exact aB w _
 have hro:Row W1 w.heap.size 36 [.int .i64 o.c,.int .i64 o.a,.int .i64 o.b]:=by rw [←gJ];exact Row.new w [_,_,_] _
 have o0:W1.cell? ⟨w.heap.size,0,none⟩=some (.int .i64 o.c):=hro.cell_of rfl
 have o1:W1.cell? ⟨w.heap.size,1,none⟩=some (.int .i64 o.a):=hro.cell_of rfl
 have o2:W1.cell? ⟨w.heap.size,2,none⟩=some (.int .i64 o.b):=hro.cell_of rfl
 have HL:=aA (Left.below HH.out dU)
 obtain ⟨cv,cf,pv,hc,-,-,-,hf⟩:=HL.out.re.cells ht rfl
 have c5:=hc 5 _ (by decide) rfl
 have c6:W1.cell? ⟨L.g,t*28+5+1,none⟩=some (.int .i64 (E.th t).op.a):=hc 6 _ (by decide) rfl
 have c7:W1.cell? ⟨L.g,t*28+5+2,none⟩=some (.int .i64 (E.th t).op.b):=hc 7 _ (by decide) rfl
 have c10:=hc 10 _ (by decide) rfl
 have f5:=hf (t*28+5)
 have f6:=hf (t*28+5+1)
 have f7:=hf (t*28+5+2)
 have f10:=hf (t*28+10)
 obtain ⟨h1,k1⟩:=HL.out.re.dO ht 5 (by decide) (.int .i64 o.c) {E.th t with op:=⟨o.c,(E.th t).op.a,(E.th t).op.b⟩} rfl rfl rfl rfl rfl (by intros;rfl)
 obtain ⟨h2,k2⟩:=h1.dO ht 6 (by decide) (.int .i64 o.a) {E.th t with op:=⟨o.c,o.a,(E.th t).op.b⟩} (by simp [aC]) (by simp [aC]) (by simp [aC]) (by simp [aC]) (by simp [aC]) (by intros;simp only [aC];rfl)
 obtain ⟨h3,k3⟩:=h2.dO ht 7 (by decide) (.int .i64 o.b) {E.th t with op:=⟨o.c,o.a,o.b⟩} (by simp [aC]) (by simp [aC]) (by simp [aC]) (by simp [aC]) (by simp [aC]) (by intros;simp only [aC];rfl)
 obtain ⟨h4,k4⟩:=h3.dO ht 10 (by decide) (.bool false) {E.th t with op:=⟨o.c,o.a,o.b⟩,again:=false} (by simp [aC]) (by simp [aC]) (by simp [aC]) (by simp [aC]) (by simp [aC]) (by intros;simp only [aC];rfl)
 have H4:=aA h4
 have K4:=aA (((k1.trans k2).trans k3).trans k4)
 clear gJ dU hro hc hf h1 h2 h3 h4 k1 k2 k3 k4
 go_wp2_with fail
 refine (dI H4.out ht 1).mono ?_
 rintro e w5 ⟨rfl,r5,k5⟩
 have HR:=aA (HL.out.next (Left.of r5 (K4.out.trans k5) rfl))
 clear r5 k5
 go_wp2
 refine bodyPost_end (v:=.tuple #[]) (by simp [results,Tryz.results258,go_sem]) rfl ⟨rfl,HR.out.cast ?_⟩
 unfold M.begin
 simp only [aV,aC]
end
end Go.Proofs.YtefjhnhdagolhaaGreat.list
