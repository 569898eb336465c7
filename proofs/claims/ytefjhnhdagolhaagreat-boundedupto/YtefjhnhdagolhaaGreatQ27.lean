import Derived.Test.YtefjhnhdagolhaaGreatQ26
import Derived.Test.YtefjhnhdagolhaaGreatQ17
import Derived.Test.YtefjhnhdagolhaaGreatQ13
set_option maxHeartbeats 16000000
set_option maxRecDepth 20000
namespace Go.Proofs.YtefjhnhdagolhaaGreat
open int list tree
open Go.RowKit
open M (aI aC aD Op cY aS aK aQ aL aN)
attribute [local go_sem ↓] Go.wp_at_zero Go.wp_at_succ
theorem int.SA (p:List Nat) (t:Nat):((t:Int)∈p.map Int.ofNat)↔t∈p:=by
 constructor
 ·intro h
  obtain ⟨k,hk,e⟩:=List.mem_map.1 h
  have:k=t:=by have e':(k:Int)=(t:Int):=e;omega
  rw [←this];exact hk
 ·intro h
  exact List.mem_map.2 ⟨t,h,rfl⟩
def int.checked {σ:Type} (E:aK σ) (t n cap:Nat):aS σ:=if E.cZ=(E.th t).stamp then aS.enter {E.th t with aJ:=(E.th t).waiting n} (if t∈(E.th t).waiting n then 8 else 11) else (E.th t).fail cap
def list.checked {σ:Type} (E:aK σ) (t n cap:Nat):aS σ:=if E.cZ=(E.th t).stamp then aS.enter {E.th t with aJ:=(E.th t).waiting n} (if t∈(E.th t).waiting n then 8 else 11) else (E.th t).fail cap
def tree.checked {σ:Type} (E:aK σ) (t n cap:Nat):aS σ:=if E.cZ=(E.th t).stamp then aS.enter {E.th t with aJ:=(E.th t).waiting n} (if t∈(E.th t).waiting n then 8 else 11) else (E.th t).fail cap
def row.checked {σ:Type} (E:aK σ) (t n cap:Nat):aS σ:=if E.cZ=(E.th t).stamp then aS.enter {E.th t with aJ:=(E.th t).waiting n} (if t∈(E.th t).waiting n then 8 else 11) else (E.th t).fail cap
def int.gX:Prop:=∀ {σ:Type} {R:SR σ} {L:Lt} {S:Nat→Prop} {E:aK σ} {w:World} {t:Nat} (_h:RE R L S E w) (_ht:t<L.n) (_hN:E.cZ≤1000000000) (_hs:(E.th t).stamp≤1000000000) (_hp:E.prec<129) (_hr:(E.th t).aR<129) (_hb:(E.th t).aG≤L.cap) (_hw:E.cZ=(E.th t).stamp→∀ k,k<M.tw L.n→fB ((E.th t).tg k)∧fB ((E.th t).dw k)),Calls Tryz.prog 210 #[.pointer (some ⟨L.g,t*28,none⟩)] w fun e w'=>e = .returned (.tuple #[])∧aF R L S w {E with th:=aI E.th t (checked E t L.n L.cap)} w'
def list.gX:Prop:=∀ {σ:Type} {R:SR σ} {L:Lt} {S:Nat→Prop} {E:aK σ} {w:World} {t:Nat} (_h:RE R L S E w) (_ht:t<L.n) (_hN:E.cZ≤1000000000) (_hs:(E.th t).stamp≤1000000000) (_hp:E.prec<129) (_hr:(E.th t).aR<129) (_hb:(E.th t).aG≤L.cap) (_hw:E.cZ=(E.th t).stamp→∀ k,k<M.tw L.n→fB ((E.th t).tg k)∧fB ((E.th t).dw k)),Calls Tryz.prog 269 #[.pointer (some ⟨L.g,t*28,none⟩)] w fun e w'=>e = .returned (.tuple #[])∧aF R L S w {E with th:=aI E.th t (checked E t L.n L.cap)} w'
def tree.gX:Prop:=∀ {σ:Type} {R:SR σ} {L:Lt} {S:Nat→Prop} {E:aK σ} {w:World} {t:Nat} (_h:RE R L S E w) (_ht:t<L.n) (_hN:E.cZ≤1000000000) (_hs:(E.th t).stamp≤1000000000) (_hp:E.prec<129) (_hr:(E.th t).aR<129) (_hb:(E.th t).aG≤L.cap) (_hw:E.cZ=(E.th t).stamp→∀ k,k<M.tw L.n→fB ((E.th t).tg k)∧fB ((E.th t).dw k)),Calls Tryz.prog 343 #[.pointer (some ⟨L.g,t*28,none⟩)] w fun e w'=>e = .returned (.tuple #[])∧aF R L S w {E with th:=aI E.th t (checked E t L.n L.cap)} w'
def row.gX:Prop:=∀ {σ:Type} {R:SR σ} {L:Lt} {S:Nat→Prop} {E:aK σ} {w:World} {t:Nat} (_h:RE R L S E w) (_ht:t<L.n) (_hN:E.cZ≤1000000000) (_hs:(E.th t).stamp≤1000000000) (_hp:E.prec<129) (_hr:(E.th t).aR<129) (_hb:(E.th t).aG≤L.cap) (_hw:E.cZ=(E.th t).stamp→∀ k,k<M.tw L.n→fB ((E.th t).tg k)∧fB ((E.th t).dw k)),Calls Tryz.prog 306 #[.pointer (some ⟨L.g,t*30,none⟩)] w fun e w'=>e = .returned (.tuple #[])∧aF R L S w {E with th:=aI E.th t (checked E t L.n L.cap)} w'
open row in
theorem uV:int.gX∧list.gX∧tree.gX∧row.gX:=by
 refine ⟨@mkK _ 0 ?_,@mkK _ 1 ?_,@mkK _ 2 ?_,@mkK _ 3 ?_⟩<;>intro kk σ R L S E w t h ht hN hs hp hr hb hw
 all_goals
  obtain ⟨cv,cf,pv,hc,hcv,eD,-,-⟩:=h.cells ht rfl
  first|(have _:Kn 0:=kk;obtain ⟨x0,x1,rfl⟩:=int.aE hcv.1)|(have _:Kn 1:=kk;obtain ⟨x0,x1,rfl⟩:=int.aE hcv.1)|(have _:Kn 2:=kk;obtain ⟨x0,x1,rfl⟩:=int.aE hcv.1)|(have _:Kn 3:=kk;obtain ⟨x0,x1,x2,rfl⟩:=row.aE hcv.1)
  first|(have _:Kn 0:=kk;obtain ⟨y0,y1,rfl⟩:=int.aE eD.1)|(have _:Kn 1:=kk;obtain ⟨y0,y1,rfl⟩:=int.aE eD.1)|(have _:Kn 2:=kk;obtain ⟨y0,y1,rfl⟩:=int.aE eD.1)|(have _:Kn 3:=kk;obtain ⟨y0,y1,y2,rfl⟩:=row.aE eD.1)
  have hn:=h.ok.n64
  first|(have _:Kn 0:=kk;have c0:w.cell? ⟨L.g,t*28,none⟩=some (.pointer (some ⟨L.bS,0,none⟩)):=hc 0 _ (by decide) rfl)|(have _:Kn 1:=kk;have c0:w.cell? ⟨L.g,t*28,none⟩=some (.pointer (some ⟨L.bS,0,none⟩)):=hc 0 _ (by decide) rfl)|(have _:Kn 2:=kk;have c0:w.cell? ⟨L.g,t*28,none⟩=some (.pointer (some ⟨L.bS,0,none⟩)):=hc 0 _ (by decide) rfl)|(have _:Kn 3:=kk;have c0:w.cell? ⟨L.g,t*30,none⟩=some (.pointer (some ⟨L.bS,0,none⟩)):=hc 0 _ (by decide) rfl)
  have VU:=hc 13 _ (by decide) rfl
  have s5:w.cell? ⟨L.bS,5,none⟩=some (.int .i64 ((E.cZ:Int)*129+(E.prec:Int))):=h.sh.cell_of rfl
  have hq1:((E.cZ:Int)*129+(E.prec:Int)) / 129=(E.cZ:Int):=by omega
  have hq2:(((E.th t).stamp:Int)*129+((E.th t).aR:Int)) / 129=((E.th t).stamp:Int):=by omega
  have A0:=aA (fun n=>Calls.quiet_of_same (n:=n) (uL L.bS 5 _ (w.drewN n) s5))
  have A1:=aA (fun n=>Calls.quiet_of_same (n:=n) (rO ((E.cZ:Int)*129+(E.prec:Int)) (w.drewN n) (by omega) (by omega)))
  have A2:=aA (fun n=>Calls.quiet_of_same (n:=n) (rO (((E.th t).stamp:Int)*129+((E.th t).aR:Int)) (w.drewN n) (by omega) (by omega)))
  rw [hq1] at A1
  rw [hq2] at A2
  have HH:=aA h
  have HW:=aA hw
  clear h hc hcv eD hq1 hq2 hw
  by_cases hst:E.cZ=(E.th t).stamp
  ·have aLb:(E.cZ:Int)≤((E.th t).stamp:Int):=by omega
   have aLc:((E.th t).stamp:Int)≤(E.cZ:Int):=by omega
   have HW2:=aA (HW.out hst)
   have JY:=aA hst
   clear hst
   first|(have _:Kn 0:=kk;go_enter Tryz.func210,Tryz.ntmps210)|(have _:Kn 1:=kk;go_enter Tryz.func269,Tryz.ntmps269)|(have _:Kn 2:=kk;go_enter Tryz.func343,Tryz.ntmps343)|(have _:Kn 3:=kk;go_enter Tryz.func306,Tryz.ntmps306)
   go_wp2
   go_quiet ((first|(go_at_call 218;with_reducible exact A0.out _)|(go_at_call 226;first|(with_reducible exact A1.out _)|(with_reducible exact A2.out _))))
   generalize tX:World.drewN w nq=W1
   have QG:RE R L S E W1:=by rw [←tX];exact HH.out.drewN nq
   have UM:Fr L.own w W1:=by rw [←tX];exact (Fr.refl _ w).drewN nq
   have CG:=aA QG
   have HK1:=aA UM
   clear tX QG UM c0 VU s5
   go_wp2_with fail
   refine (uU CG.out ht HW2.out).mono ?_
   rintro e w2 ⟨v,rfl,hO,aZ⟩
   have lY:(((E.th t).waiting L.n).map Int.ofNat).length≤1048576:=by
    have:((E.th t).waiting L.n).length≤L.n:=FM (E.th t) L.n
    simp;omega
   generalize EM:(E.th t).waiting L.n=p at *
   have HPE:=aA EM
   clear EM
   have yL:=aF.below CG.out aZ
   have EL:=aBm hO
   have hlen:(ints (p.map Int.ofNat)).length=p.length:=by simp [ints]
   first|(have _:Kn 0:=kk;refine (have hpr:kG (fun k=>grown S W1 w2 k∧¬L.own k) w2 p v∧(∃ a n c,v = .slice a n c)∧∀ u:Value,Sl (w2.setCell ⟨L.g,t*28+20,none⟩ u) v (ints (p.map Int.ofNat)):=?_;?_))|(have _:Kn 1:=kk;refine (have hpr:kG (fun k=>grown S W1 w2 k∧¬L.own k) w2 p v∧(∃ a n c,v = .slice a n c)∧∀ u:Value,Sl (w2.setCell ⟨L.g,t*28+20,none⟩ u) v (ints (p.map Int.ofNat)):=?_;?_))|(have _:Kn 2:=kk;refine (have hpr:kG (fun k=>grown S W1 w2 k∧¬L.own k) w2 p v∧(∃ a n c,v = .slice a n c)∧∀ u:Value,Sl (w2.setCell ⟨L.g,t*28+20,none⟩ u) v (ints (p.map Int.ofNat)):=?_;?_))|(have _:Kn 3:=kk;refine (have hpr:kG (fun k=>grown S W1 w2 k∧¬L.own k) w2 p v∧(∃ a n c,v = .slice a n c)∧∀ u:Value,Sl (w2.setCell ⟨L.g,t*30+22,none⟩ u) v (ints (p.map Int.ofNat)):=?_;?_))
   ·rcases hO.2 with ⟨rfl,hn0⟩|⟨gp,cap,cur,rfl,hge,aLe,XX,-⟩
    ·obtain rfl:p=[]:=List.eq_nil_of_length_eq_zero hn0
     exact ⟨.inl ⟨rfl,rfl⟩,⟨_,_,_,rfl⟩,fun u=>Sl.nil _⟩
    ·have MG:L.g<W1.heap.size:=CG.out.lt _ (CG.out.ow _ kH)
     have hlt:gp<w2.heap.size:=(hO.lt gp rfl).2
     refine ⟨.inr ⟨gp,_,_,⟨.inr ⟨hge,hlt⟩,fun q=>by have:=CG.out.lt _ (CG.out.ow _ q);omega⟩,rfl,EL⟩,⟨_,_,_,rfl⟩,fun u=>Sl.block rfl EL (Below.heap_setCell w2 _ u gp (by show gp≠L.g;omega))⟩
   obtain ⟨aBD,⟨va,vn,vc,rfl⟩,WD⟩:=hpr
   have hr3:=yL.re.xF t ht (.slice va vn vc) p aBD {E.th t with aJ:=p} rfl rfl rfl
   obtain ⟨cv,cf,pv,hc,hcv,eD,-,hfz⟩:=yL.re.cells ht rfl
   first|(have _:Kn 0:=kk;obtain ⟨c0,c1,rfl⟩:=int.aE hcv.1)|(have _:Kn 1:=kk;obtain ⟨c0,c1,rfl⟩:=int.aE hcv.1)|(have _:Kn 2:=kk;obtain ⟨c0,c1,rfl⟩:=int.aE hcv.1)|(have _:Kn 3:=kk;obtain ⟨c0,c1,c2,rfl⟩:=row.aE hcv.1)
   first|(have _:Kn 0:=kk;obtain ⟨d0,d1,rfl⟩:=int.aE eD.1)|(have _:Kn 1:=kk;obtain ⟨d0,d1,rfl⟩:=int.aE eD.1)|(have _:Kn 2:=kk;obtain ⟨d0,d1,rfl⟩:=int.aE eD.1)|(have _:Kn 3:=kk;obtain ⟨d0,d1,d2,rfl⟩:=row.aE eD.1)
   first|(have _:Kn 0:=kk;have TQ:=hc 20 _ (by decide) rfl)|(have _:Kn 1:=kk;have TQ:=hc 20 _ (by decide) rfl)|(have _:Kn 2:=kk;have TQ:=hc 20 _ (by decide) rfl)|(have _:Kn 3:=kk;have TQ:=hc 22 _ (by decide) rfl)
   first|(have _:Kn 0:=kk;have ZU:=hfz (t*28+20))|(have _:Kn 1:=kk;have ZU:=hfz (t*28+20))|(have _:Kn 2:=kk;have ZU:=hfz (t*28+20))|(have _:Kn 3:=kk;have ZU:=hfz (t*30+22))
   have b1:=hc 1 _ (by decide) rfl
   first|(have _:Kn 0:=kk;have A3:=aA (fun n=>Calls.quiet_of_same (n:=n) (sK (p.map Int.ofNat) (.slice va vn vc) (t:Int) ((w2.setCell ⟨L.g,t*28+20,none⟩ (.slice va vn vc)).drewN n) ((WD _).drewN) lY)))|(have _:Kn 1:=kk;have A3:=aA (fun n=>Calls.quiet_of_same (n:=n) (sK (p.map Int.ofNat) (.slice va vn vc) (t:Int) ((w2.setCell ⟨L.g,t*28+20,none⟩ (.slice va vn vc)).drewN n) ((WD _).drewN) lY)))|(have _:Kn 2:=kk;have A3:=aA (fun n=>Calls.quiet_of_same (n:=n) (sK (p.map Int.ofNat) (.slice va vn vc) (t:Int) ((w2.setCell ⟨L.g,t*28+20,none⟩ (.slice va vn vc)).drewN n) ((WD _).drewN) lY)))|(have _:Kn 3:=kk;have A3:=aA (fun n=>Calls.quiet_of_same (n:=n) (sK (p.map Int.ofNat) (.slice va vn vc) (t:Int) ((w2.setCell ⟨L.g,t*30+22,none⟩ (.slice va vn vc)).drewN n) ((WD _).drewN) lY)))
   rw [show decide ((t:Int)∈p.map Int.ofNat)=decide (t∈p) by rw [decide_eq_decide];exact SA p t] at A3
   have H3:=aA hr3
   have FN:=aA yL
   have HP:=aA aBD
   clear hO aZ yL EL aBD WD hr3 hc hcv eD hfz hlen
   go_wp2
   go_quiet ((go_at_call 229;with_reducible exact A3.out _))
   have HR4:=aA (H3.out.drewN nq)
   first
    |have _:Kn 0:=kk
     have HK4:=aA (show int.aF R L S w {E with th:=aI E.th t {E.th t with aJ:=p}} ((w2.setCell ⟨L.g,t*28+20,none⟩ (.slice va vn vc)).drewN nq) from (int.aF.of CG.out HK1.out rfl).next (by
      have q:=FN.out.next (int.aF.of H3.out (Fr.set w2 kH _) rfl)
      exact ⟨(q.re.drewN nq).mono (fun k hk=>by rcases hk with hk|hk;exact .inl (.inl hk);exact .inr hk) (fun k hk=>by rcases hk with hk|hk;rcases hk with hk|hk;exact q.re.lt k (.inl hk);exact Nat.lt_of_lt_of_le hk.2 q.fr.size;exact hk.2),q.fr.drewN nq⟩))
    |have _:Kn 1:=kk
     have HK4:=aA (show list.aF R L S w {E with th:=aI E.th t {E.th t with aJ:=p}} ((w2.setCell ⟨L.g,t*28+20,none⟩ (.slice va vn vc)).drewN nq) from (list.aF.of CG.out HK1.out rfl).next (by
      have q:=FN.out.next (list.aF.of H3.out (Fr.set w2 kH _) rfl)
      exact ⟨(q.re.drewN nq).mono (fun k hk=>by rcases hk with hk|hk;exact .inl (.inl hk);exact .inr hk) (fun k hk=>by rcases hk with hk|hk;rcases hk with hk|hk;exact q.re.lt k (.inl hk);exact Nat.lt_of_lt_of_le hk.2 q.fr.size;exact hk.2),q.fr.drewN nq⟩))
    |have _:Kn 2:=kk
     have HK4:=aA (show tree.aF R L S w {E with th:=aI E.th t {E.th t with aJ:=p}} ((w2.setCell ⟨L.g,t*28+20,none⟩ (.slice va vn vc)).drewN nq) from (tree.aF.of CG.out HK1.out rfl).next (by
      have q:=FN.out.next (tree.aF.of H3.out (Fr.set w2 kH _) rfl)
      exact ⟨(q.re.drewN nq).mono (fun k hk=>by rcases hk with hk|hk;exact .inl (.inl hk);exact .inr hk) (fun k hk=>by rcases hk with hk|hk;rcases hk with hk|hk;exact q.re.lt k (.inl hk);exact Nat.lt_of_lt_of_le hk.2 q.fr.size;exact hk.2),q.fr.drewN nq⟩))
    |have _:Kn 3:=kk
     have HK4:=aA (show row.aF R L S w {E with th:=aI E.th t {E.th t with aJ:=p}} ((w2.setCell ⟨L.g,t*30+22,none⟩ (.slice va vn vc)).drewN nq) from (row.aF.of CG.out HK1.out rfl).next (by
      have q:=FN.out.next (row.aF.of H3.out (Fr.set w2 kH _) rfl)
      exact ⟨(q.re.drewN nq).mono (fun k hk=>by rcases hk with hk|hk;exact .inl (.inl hk);exact .inr hk) (fun k hk=>by rcases hk with hk|hk;rcases hk with hk|hk;exact q.re.lt k (.inl hk);exact Nat.lt_of_lt_of_le hk.2 q.fr.size;exact hk.2),q.fr.drewN nq⟩))
   clear HR4
   by_cases hm:t∈p
   ·rw [decide_eq_true hm]
    have HM:=aA hm
    clear hm
    go_wp2_with fail
    refine (gH HK4.out.re ht 8).mono ?_
    rintro e w4 ⟨rfl,r4,k4⟩
    have HR:=aA (And.intro r4 k4)
    clear r4 k4
    go_wp2
    refine bodyPost_end (v:=.tuple #[]) (by simp [results,Tryz.results210,Tryz.results269,Tryz.results343,Tryz.results306,go_sem]) rfl ⟨rfl,HK4.out.next (aF.of (HR.out.1.cast ?_) HR.out.2 rfl)⟩
    first|(have _:Kn 0:=kk;unfold int.checked)|(have _:Kn 1:=kk;unfold list.checked)|(have _:Kn 2:=kk;unfold tree.checked)|(have _:Kn 3:=kk;unfold row.checked)
    rw [if_pos JY.out,HPE.out,if_pos HM.out]
    simp only [bM,aC]
   ·rw [decide_eq_false hm]
    have HM:=aA hm
    clear hm
    go_wp2_with fail
    refine (gH HK4.out.re ht 11).mono ?_
    rintro e w4 ⟨rfl,r4,k4⟩
    have HR:=aA (And.intro r4 k4)
    clear r4 k4
    go_wp2
    refine bodyPost_end (v:=.tuple #[]) (by simp [results,Tryz.results210,Tryz.results269,Tryz.results343,Tryz.results306,go_sem]) rfl ⟨rfl,HK4.out.next (aF.of (HR.out.1.cast ?_) HR.out.2 rfl)⟩
    first|(have _:Kn 0:=kk;unfold int.checked)|(have _:Kn 1:=kk;unfold list.checked)|(have _:Kn 2:=kk;unfold tree.checked)|(have _:Kn 3:=kk;unfold row.checked)
    rw [if_pos JY.out,HPE.out,if_neg HM.out]
    simp only [bM,aC]
  ·have aLf:¬(E.cZ:Int)=((E.th t).stamp:Int):=by omega
   have JY:=aA hst
   clear hst
   first|(have _:Kn 0:=kk;go_enter Tryz.func210,Tryz.ntmps210)|(have _:Kn 1:=kk;go_enter Tryz.func269,Tryz.ntmps269)|(have _:Kn 2:=kk;go_enter Tryz.func343,Tryz.ntmps343)|(have _:Kn 3:=kk;go_enter Tryz.func306,Tryz.ntmps306)
   go_wp2
   go_quiet ((first|(go_at_call 218;with_reducible exact A0.out _)|(go_at_call 226;first|(with_reducible exact A1.out _)|(with_reducible exact A2.out _))))
   go_wp2_with fail
   refine (CH (HH.out.drewN nq) ht hb).mono ?_
   rintro e w4 ⟨rfl,r4,k4⟩
   have HR:=aA (And.intro r4 k4)
   clear r4 k4
   go_wp2
   refine bodyPost_ret (v:=.tuple #[]) (by simp [results,Tryz.results210,Tryz.results269,Tryz.results343,Tryz.results306,go_sem]) rfl ⟨rfl,aF.of (HR.out.1.cast ?_) (((Fr.refl L.own w).drewN nq).trans HR.out.2) rfl⟩
   first|(have _:Kn 0:=kk;unfold int.checked)|(have _:Kn 1:=kk;unfold list.checked)|(have _:Kn 2:=kk;unfold tree.checked)|(have _:Kn 3:=kk;unfold row.checked)
   rw [if_neg JY.out]
theorem int.xN:gX:=uV.1
theorem list.xN:gX:=uV.2.1
theorem tree.xN:gX:=uV.2.2.1
theorem row.xN:gX:=uV.2.2.2
end Go.Proofs.YtefjhnhdagolhaaGreat
