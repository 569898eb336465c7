import Derived.Test.YtefjhnhdagolhabGreatQ23
import Derived.Test.YtefjhnhdagolhabGreatQ10
import Derived.Test.YtefjhnhdagolhabGreatQ13
set_option maxHeartbeats 16000000
set_option maxRecDepth 20000
namespace Go.Proofs.YtefjhnhdagolhabGreat
open int list tree
open Go.RowKit
open M (aH aC aE Op cY aS aK aR aL aM)
attribute [local go_sem ↓] Go.wp_at_zero Go.wp_at_succ
theorem int.QY (p:List Nat) (t:Nat):((t:Int)∈p.map Int.ofNat)↔t∈p:=by
 constructor
 ·intro h
  obtain ⟨k,hk,e⟩:=List.mem_map.1 h
  have:k=t:=by have e':(k:Int)=(t:Int):=e;omega
  rw [←this];exact hk
 ·intro h
  exact List.mem_map.2 ⟨t,h,rfl⟩
def int.checked {σ:Type} (E:aK σ) (t n cap:Nat):aS σ:=if E.cZ=(E.th t).stamp then aS.enter {E.th t with aI:=(E.th t).waiting n} (if t∈(E.th t).waiting n then 8 else 11) else (E.th t).fail cap
def list.checked {σ:Type} (E:aK σ) (t n cap:Nat):aS σ:=if E.cZ=(E.th t).stamp then aS.enter {E.th t with aI:=(E.th t).waiting n} (if t∈(E.th t).waiting n then 8 else 11) else (E.th t).fail cap
def tree.checked {σ:Type} (E:aK σ) (t n cap:Nat):aS σ:=if E.cZ=(E.th t).stamp then aS.enter {E.th t with aI:=(E.th t).waiting n} (if t∈(E.th t).waiting n then 8 else 11) else (E.th t).fail cap
def row.checked {σ:Type} (E:aK σ) (t n cap:Nat):aS σ:=if E.cZ=(E.th t).stamp then aS.enter {E.th t with aI:=(E.th t).waiting n} (if t∈(E.th t).waiting n then 8 else 11) else (E.th t).fail cap
def int.gT:Prop:=∀ {σ:Type} {R:SR σ} {L:Lt} {S:Nat→Prop} {E:aK σ} {w:World} {t:Nat} (_h:RE R L S E w) (_ht:t<L.n) (_hN:E.cZ≤1000000000) (_hs:(E.th t).stamp≤1000000000) (_hp:E.prec<129) (_hr:(E.th t).aQ<129) (_hb:(E.th t).aG≤L.cap) (_hw:E.cZ=(E.th t).stamp→∀ k,k<M.tw L.n→eY ((E.th t).tg k)∧eY ((E.th t).dw k)),Calls Tryz.prog 120 #[.pointer (some ⟨L.g,t*28,none⟩)] w fun e w'=>e = .returned (.tuple #[])∧aF R L S w {E with th:=aH E.th t (checked E t L.n L.cap)} w'
def list.gT:Prop:=∀ {σ:Type} {R:SR σ} {L:Lt} {S:Nat→Prop} {E:aK σ} {w:World} {t:Nat} (_h:RE R L S E w) (_ht:t<L.n) (_hN:E.cZ≤1000000000) (_hs:(E.th t).stamp≤1000000000) (_hp:E.prec<129) (_hr:(E.th t).aQ<129) (_hb:(E.th t).aG≤L.cap) (_hw:E.cZ=(E.th t).stamp→∀ k,k<M.tw L.n→eY ((E.th t).tg k)∧eY ((E.th t).dw k)),Calls Tryz.prog 180 #[.pointer (some ⟨L.g,t*28,none⟩)] w fun e w'=>e = .returned (.tuple #[])∧aF R L S w {E with th:=aH E.th t (checked E t L.n L.cap)} w'
def tree.gT:Prop:=∀ {σ:Type} {R:SR σ} {L:Lt} {S:Nat→Prop} {E:aK σ} {w:World} {t:Nat} (_h:RE R L S E w) (_ht:t<L.n) (_hN:E.cZ≤1000000000) (_hs:(E.th t).stamp≤1000000000) (_hp:E.prec<129) (_hr:(E.th t).aQ<129) (_hb:(E.th t).aG≤L.cap) (_hw:E.cZ=(E.th t).stamp→∀ k,k<M.tw L.n→eY ((E.th t).tg k)∧eY ((E.th t).dw k)),Calls Tryz.prog 254 #[.pointer (some ⟨L.g,t*28,none⟩)] w fun e w'=>e = .returned (.tuple #[])∧aF R L S w {E with th:=aH E.th t (checked E t L.n L.cap)} w'
def row.gT:Prop:=∀ {σ:Type} {R:SR σ} {L:Lt} {S:Nat→Prop} {E:aK σ} {w:World} {t:Nat} (_h:RE R L S E w) (_ht:t<L.n) (_hN:E.cZ≤1000000000) (_hs:(E.th t).stamp≤1000000000) (_hp:E.prec<129) (_hr:(E.th t).aQ<129) (_hb:(E.th t).aG≤L.cap) (_hw:E.cZ=(E.th t).stamp→∀ k,k<M.tw L.n→eY ((E.th t).tg k)∧eY ((E.th t).dw k)),Calls Tryz.prog 217 #[.pointer (some ⟨L.g,t*30,none⟩)] w fun e w'=>e = .returned (.tuple #[])∧aF R L S w {E with th:=aH E.th t (checked E t L.n L.cap)} w'
open row in
theorem uE:int.gT∧list.gT∧tree.gT∧row.gT:=by
 refine ⟨@mkK _ 0 ?_,@mkK _ 1 ?_,@mkK _ 2 ?_,@mkK _ 3 ?_⟩<;>intro kk σ R L S E w t h ht hN hs hp hr hb hw
 all_goals
  obtain ⟨cv,cf,pv,hc,hcv,eE,-,-⟩:=h.cells ht rfl
  first|(have _:Kn 0:=kk;obtain ⟨x0,x1,rfl⟩:=int.aD hcv.1)|(have _:Kn 1:=kk;obtain ⟨x0,x1,rfl⟩:=int.aD hcv.1)|(have _:Kn 2:=kk;obtain ⟨x0,x1,rfl⟩:=int.aD hcv.1)|(have _:Kn 3:=kk;obtain ⟨x0,x1,x2,rfl⟩:=row.aD hcv.1)
  first|(have _:Kn 0:=kk;obtain ⟨y0,y1,rfl⟩:=int.aD eE.1)|(have _:Kn 1:=kk;obtain ⟨y0,y1,rfl⟩:=int.aD eE.1)|(have _:Kn 2:=kk;obtain ⟨y0,y1,rfl⟩:=int.aD eE.1)|(have _:Kn 3:=kk;obtain ⟨y0,y1,y2,rfl⟩:=row.aD eE.1)
  have hn:=h.ok.n64
  first|(have _:Kn 0:=kk;have c0:w.cell? ⟨L.g,t*28,none⟩=some (.pointer (some ⟨L.bS,0,none⟩)):=hc 0 _ (by decide) rfl)|(have _:Kn 1:=kk;have c0:w.cell? ⟨L.g,t*28,none⟩=some (.pointer (some ⟨L.bS,0,none⟩)):=hc 0 _ (by decide) rfl)|(have _:Kn 2:=kk;have c0:w.cell? ⟨L.g,t*28,none⟩=some (.pointer (some ⟨L.bS,0,none⟩)):=hc 0 _ (by decide) rfl)|(have _:Kn 3:=kk;have c0:w.cell? ⟨L.g,t*30,none⟩=some (.pointer (some ⟨L.bS,0,none⟩)):=hc 0 _ (by decide) rfl)
  have UM:=hc 13 _ (by decide) rfl
  have s5:w.cell? ⟨L.bS,5,none⟩=some (.int .i64 ((E.cZ:Int)*129+(E.prec:Int))):=h.sh.cell_of rfl
  have hq1:((E.cZ:Int)*129+(E.prec:Int)) / 129=(E.cZ:Int):=by omega
  have XZ:(((E.th t).stamp:Int)*129+((E.th t).aQ:Int)) / 129=((E.th t).stamp:Int):=by omega
  have A0:=aA (fun n=>Calls.quiet_of_same (n:=n) (tU L.bS 5 _ (w.drewN n) s5))
  have A1:=aA (fun n=>Calls.quiet_of_same (n:=n) (rC ((E.cZ:Int)*129+(E.prec:Int)) (w.drewN n) (by omega) (by omega)))
  have A2:=aA (fun n=>Calls.quiet_of_same (n:=n) (rC (((E.th t).stamp:Int)*129+((E.th t).aQ:Int)) (w.drewN n) (by omega) (by omega)))
  rw [hq1] at A1
  rw [XZ] at A2
  have HH:=aA h
  have HW:=aA hw
  clear h hc hcv eE hq1 XZ hw
  by_cases hst:E.cZ=(E.th t).stamp
  ·have aJp:(E.cZ:Int)≤((E.th t).stamp:Int):=by omega
   have aJq:((E.th t).stamp:Int)≤(E.cZ:Int):=by omega
   have HW2:=aA (HW.out hst)
   have HST:=aA hst
   clear hst
   first|(have _:Kn 0:=kk;go_enter Tryz.func120,Tryz.ntmps120)|(have _:Kn 1:=kk;go_enter Tryz.func180,Tryz.ntmps180)|(have _:Kn 2:=kk;go_enter Tryz.func254,Tryz.ntmps254)|(have _:Kn 3:=kk;go_enter Tryz.func217,Tryz.ntmps217)
   go_wp2
   go_quiet ((first|(go_at_call 129;with_reducible exact A0.out _)|(go_at_call 138;first|(with_reducible exact A1.out _)|(with_reducible exact A2.out _))))
   generalize tG:World.drewN w nq=W1
   have WV:RE R L S E W1:=by rw [←tG];exact HH.out.drewN nq
   have LS:Fr L.own w W1:=by rw [←tG];exact (Fr.refl _ w).drewN nq
   have uX:=aA WV
   have YG:=aA LS
   clear tG WV LS c0 UM s5
   go_wp2_with fail
   refine (uD uX.out ht HW2.out).mono ?_
   rintro e w2 ⟨v,rfl,hO,bA⟩
   have oF:(((E.th t).waiting L.n).map Int.ofNat).length≤1048576:=by
    have:((E.th t).waiting L.n).length≤L.n:=EX (E.th t) L.n
    simp;omega
   generalize ZI:(E.th t).waiting L.n=p at *
   have HPE:=aA ZI
   clear ZI
   have xS:=aF.below uX.out bA
   have JL:=aAz hO
   have hlen:(ints (p.map Int.ofNat)).length=p.length:=by simp [ints]
   first|(have _:Kn 0:=kk;refine (have hpr:kD (fun k=>grown S W1 w2 k∧¬L.own k) w2 p v∧(∃ a n c,v = .slice a n c)∧∀ u:Value,Sl (w2.setCell ⟨L.g,t*28+20,none⟩ u) v (ints (p.map Int.ofNat)):=?_;?_))|(have _:Kn 1:=kk;refine (have hpr:kD (fun k=>grown S W1 w2 k∧¬L.own k) w2 p v∧(∃ a n c,v = .slice a n c)∧∀ u:Value,Sl (w2.setCell ⟨L.g,t*28+20,none⟩ u) v (ints (p.map Int.ofNat)):=?_;?_))|(have _:Kn 2:=kk;refine (have hpr:kD (fun k=>grown S W1 w2 k∧¬L.own k) w2 p v∧(∃ a n c,v = .slice a n c)∧∀ u:Value,Sl (w2.setCell ⟨L.g,t*28+20,none⟩ u) v (ints (p.map Int.ofNat)):=?_;?_))|(have _:Kn 3:=kk;refine (have hpr:kD (fun k=>grown S W1 w2 k∧¬L.own k) w2 p v∧(∃ a n c,v = .slice a n c)∧∀ u:Value,Sl (w2.setCell ⟨L.g,t*30+22,none⟩ u) v (ints (p.map Int.ofNat)):=?_;?_))
   ·rcases hO.2 with ⟨rfl,hn0⟩|⟨gp,cap,cur,rfl,hge,aJs,WR,-⟩
    ·obtain rfl:p=[]:=List.eq_nil_of_length_eq_zero hn0
     exact ⟨.inl ⟨rfl,rfl⟩,⟨_,_,_,rfl⟩,fun u=>Sl.nil _⟩
    ·have GI:L.g<W1.heap.size:=uX.out.lt _ (uX.out.ow _ kE)
     have hlt:gp<w2.heap.size:=(hO.lt gp rfl).2
     refine ⟨.inr ⟨gp,_,_,⟨.inr ⟨hge,hlt⟩,fun q=>by have:=uX.out.lt _ (uX.out.ow _ q);omega⟩,rfl,JL⟩,⟨_,_,_,rfl⟩,fun u=>Sl.block rfl JL (Below.heap_setCell w2 _ u gp (by show gp≠L.g;omega))⟩
   obtain ⟨aAN,⟨va,vn,vc,rfl⟩,UY⟩:=hpr
   have hr3:=xS.re.wJ t ht (.slice va vn vc) p aAN {E.th t with aI:=p} rfl rfl rfl
   obtain ⟨cv,cf,pv,hc,hcv,eE,-,hfz⟩:=xS.re.cells ht rfl
   first|(have _:Kn 0:=kk;obtain ⟨c0,c1,rfl⟩:=int.aD hcv.1)|(have _:Kn 1:=kk;obtain ⟨c0,c1,rfl⟩:=int.aD hcv.1)|(have _:Kn 2:=kk;obtain ⟨c0,c1,rfl⟩:=int.aD hcv.1)|(have _:Kn 3:=kk;obtain ⟨c0,c1,c2,rfl⟩:=row.aD hcv.1)
   first|(have _:Kn 0:=kk;obtain ⟨d0,d1,rfl⟩:=int.aD eE.1)|(have _:Kn 1:=kk;obtain ⟨d0,d1,rfl⟩:=int.aD eE.1)|(have _:Kn 2:=kk;obtain ⟨d0,d1,rfl⟩:=int.aD eE.1)|(have _:Kn 3:=kk;obtain ⟨d0,d1,d2,rfl⟩:=row.aD eE.1)
   first|(have _:Kn 0:=kk;have SK:=hc 20 _ (by decide) rfl)|(have _:Kn 1:=kk;have SK:=hc 20 _ (by decide) rfl)|(have _:Kn 2:=kk;have SK:=hc 20 _ (by decide) rfl)|(have _:Kn 3:=kk;have SK:=hc 22 _ (by decide) rfl)
   first|(have _:Kn 0:=kk;have YL:=hfz (t*28+20))|(have _:Kn 1:=kk;have YL:=hfz (t*28+20))|(have _:Kn 2:=kk;have YL:=hfz (t*28+20))|(have _:Kn 3:=kk;have YL:=hfz (t*30+22))
   have b1:=hc 1 _ (by decide) rfl
   first|(have _:Kn 0:=kk;have A3:=aA (fun n=>Calls.quiet_of_same (n:=n) (rY (p.map Int.ofNat) (.slice va vn vc) (t:Int) ((w2.setCell ⟨L.g,t*28+20,none⟩ (.slice va vn vc)).drewN n) ((UY _).drewN) oF)))|(have _:Kn 1:=kk;have A3:=aA (fun n=>Calls.quiet_of_same (n:=n) (rY (p.map Int.ofNat) (.slice va vn vc) (t:Int) ((w2.setCell ⟨L.g,t*28+20,none⟩ (.slice va vn vc)).drewN n) ((UY _).drewN) oF)))|(have _:Kn 2:=kk;have A3:=aA (fun n=>Calls.quiet_of_same (n:=n) (rY (p.map Int.ofNat) (.slice va vn vc) (t:Int) ((w2.setCell ⟨L.g,t*28+20,none⟩ (.slice va vn vc)).drewN n) ((UY _).drewN) oF)))|(have _:Kn 3:=kk;have A3:=aA (fun n=>Calls.quiet_of_same (n:=n) (rY (p.map Int.ofNat) (.slice va vn vc) (t:Int) ((w2.setCell ⟨L.g,t*30+22,none⟩ (.slice va vn vc)).drewN n) ((UY _).drewN) oF)))
   rw [show decide ((t:Int)∈p.map Int.ofNat)=decide (t∈p) by rw [decide_eq_decide];exact QY p t] at A3
   have H3:=aA hr3
   have EY:=aA xS
   have HP:=aA aAN
   clear hO bA xS JL aAN UY hr3 hc hcv eE hfz hlen
   go_wp2
   go_quiet ((go_at_call 141;with_reducible exact A3.out _))
   have HR4:=aA (H3.out.drewN nq)
   first
    |have _:Kn 0:=kk
     have HK4:=aA (show int.aF R L S w {E with th:=aH E.th t {E.th t with aI:=p}} ((w2.setCell ⟨L.g,t*28+20,none⟩ (.slice va vn vc)).drewN nq) from (int.aF.of uX.out YG.out rfl).next (by
      have q:=EY.out.next (int.aF.of H3.out (Fr.set w2 kE _) rfl)
      exact ⟨(q.re.drewN nq).mono (fun k hk=>by rcases hk with hk|hk;exact .inl (.inl hk);exact .inr hk) (fun k hk=>by rcases hk with hk|hk;rcases hk with hk|hk;exact q.re.lt k (.inl hk);exact Nat.lt_of_lt_of_le hk.2 q.fr.size;exact hk.2),q.fr.drewN nq⟩))
    |have _:Kn 1:=kk
     have HK4:=aA (show list.aF R L S w {E with th:=aH E.th t {E.th t with aI:=p}} ((w2.setCell ⟨L.g,t*28+20,none⟩ (.slice va vn vc)).drewN nq) from (list.aF.of uX.out YG.out rfl).next (by
      have q:=EY.out.next (list.aF.of H3.out (Fr.set w2 kE _) rfl)
      exact ⟨(q.re.drewN nq).mono (fun k hk=>by rcases hk with hk|hk;exact .inl (.inl hk);exact .inr hk) (fun k hk=>by rcases hk with hk|hk;rcases hk with hk|hk;exact q.re.lt k (.inl hk);exact Nat.lt_of_lt_of_le hk.2 q.fr.size;exact hk.2),q.fr.drewN nq⟩))
    |have _:Kn 2:=kk
     have HK4:=aA (show tree.aF R L S w {E with th:=aH E.th t {E.th t with aI:=p}} ((w2.setCell ⟨L.g,t*28+20,none⟩ (.slice va vn vc)).drewN nq) from (tree.aF.of uX.out YG.out rfl).next (by
      have q:=EY.out.next (tree.aF.of H3.out (Fr.set w2 kE _) rfl)
      exact ⟨(q.re.drewN nq).mono (fun k hk=>by rcases hk with hk|hk;exact .inl (.inl hk);exact .inr hk) (fun k hk=>by rcases hk with hk|hk;rcases hk with hk|hk;exact q.re.lt k (.inl hk);exact Nat.lt_of_lt_of_le hk.2 q.fr.size;exact hk.2),q.fr.drewN nq⟩))
    |have _:Kn 3:=kk
     have HK4:=aA (show row.aF R L S w {E with th:=aH E.th t {E.th t with aI:=p}} ((w2.setCell ⟨L.g,t*30+22,none⟩ (.slice va vn vc)).drewN nq) from (row.aF.of uX.out YG.out rfl).next (by
      have q:=EY.out.next (row.aF.of H3.out (Fr.set w2 kE _) rfl)
      exact ⟨(q.re.drewN nq).mono (fun k hk=>by rcases hk with hk|hk;exact .inl (.inl hk);exact .inr hk) (fun k hk=>by rcases hk with hk|hk;rcases hk with hk|hk;exact q.re.lt k (.inl hk);exact Nat.lt_of_lt_of_le hk.2 q.fr.size;exact hk.2),q.fr.drewN nq⟩))
   clear HR4
   by_cases hm:t∈p
   ·rw [decide_eq_true hm]
    have HM:=aA hm
    clear hm
    go_wp2_with fail
    refine (fZ HK4.out.re ht 8).mono ?_
    rintro e w4 ⟨rfl,r4,k4⟩
    have HR:=aA (And.intro r4 k4)
    clear r4 k4
    go_wp2
    refine bodyPost_end (v:=.tuple #[]) (by simp [results,Tryz.results120,Tryz.results180,Tryz.results254,Tryz.results217,go_sem]) rfl ⟨rfl,HK4.out.next (aF.of (HR.out.1.cast ?_) HR.out.2 rfl)⟩
    first|(have _:Kn 0:=kk;unfold int.checked)|(have _:Kn 1:=kk;unfold list.checked)|(have _:Kn 2:=kk;unfold tree.checked)|(have _:Kn 3:=kk;unfold row.checked)
    rw [if_pos HST.out,HPE.out,if_pos HM.out]
    simp only [bR,aC]
   ·rw [decide_eq_false hm]
    have HM:=aA hm
    clear hm
    go_wp2_with fail
    refine (fZ HK4.out.re ht 11).mono ?_
    rintro e w4 ⟨rfl,r4,k4⟩
    have HR:=aA (And.intro r4 k4)
    clear r4 k4
    go_wp2
    refine bodyPost_end (v:=.tuple #[]) (by simp [results,Tryz.results120,Tryz.results180,Tryz.results254,Tryz.results217,go_sem]) rfl ⟨rfl,HK4.out.next (aF.of (HR.out.1.cast ?_) HR.out.2 rfl)⟩
    first|(have _:Kn 0:=kk;unfold int.checked)|(have _:Kn 1:=kk;unfold list.checked)|(have _:Kn 2:=kk;unfold tree.checked)|(have _:Kn 3:=kk;unfold row.checked)
    rw [if_pos HST.out,HPE.out,if_neg HM.out]
    simp only [bR,aC]
  ·have aJt:¬(E.cZ:Int)=((E.th t).stamp:Int):=by omega
   have HST:=aA hst
   clear hst
   first|(have _:Kn 0:=kk;go_enter Tryz.func120,Tryz.ntmps120)|(have _:Kn 1:=kk;go_enter Tryz.func180,Tryz.ntmps180)|(have _:Kn 2:=kk;go_enter Tryz.func254,Tryz.ntmps254)|(have _:Kn 3:=kk;go_enter Tryz.func217,Tryz.ntmps217)
   go_wp2
   go_quiet ((first|(go_at_call 129;with_reducible exact A0.out _)|(go_at_call 138;first|(with_reducible exact A1.out _)|(with_reducible exact A2.out _))))
   go_wp2_with fail
   refine (BV (HH.out.drewN nq) ht hb).mono ?_
   rintro e w4 ⟨rfl,r4,k4⟩
   have HR:=aA (And.intro r4 k4)
   clear r4 k4
   go_wp2
   refine bodyPost_ret (v:=.tuple #[]) (by simp [results,Tryz.results120,Tryz.results180,Tryz.results254,Tryz.results217,go_sem]) rfl ⟨rfl,aF.of (HR.out.1.cast ?_) (((Fr.refl L.own w).drewN nq).trans HR.out.2) rfl⟩
   first|(have _:Kn 0:=kk;unfold int.checked)|(have _:Kn 1:=kk;unfold list.checked)|(have _:Kn 2:=kk;unfold tree.checked)|(have _:Kn 3:=kk;unfold row.checked)
   rw [if_neg HST.out]
theorem int.wR:gT:=uE.1
theorem list.wR:gT:=uE.2.1
theorem tree.wR:gT:=uE.2.2.1
theorem row.wR:gT:=uE.2.2.2
end Go.Proofs.YtefjhnhdagolhabGreat
