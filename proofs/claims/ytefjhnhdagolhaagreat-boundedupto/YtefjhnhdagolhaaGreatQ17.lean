import Derived.Test.YtefjhnhdagolhaaGreatQ09
import Derived.Test.YtefjhnhdagolhaaGreatQ00
import Derived.Test.YtefjhnhdagolhaaGreatProg
set_option maxHeartbeats 1000000
set_option maxRecDepth 20000
namespace Go.Proofs.YtefjhnhdagolhaaGreat.M
section
variable {σ:Type} {P:Plain σ} {sz:σ→Nat} {n cap:Nat} {E:aK σ} {Y:aP} {t:Nat}
def qA (sz:σ→Nat) (P:Plain σ):Prop:=sz P.first≤2∧∀ s op,sz (P.apply s op).1≤sz s+2
theorem VN (h:qA sz P) (ops:Nat→Nat→Op):∀ (l:List Nat) (r:Rp σ),sz (r.run P ops l).st≤sz r.st+2*l.length
 |[],_=>Nat.le_refl _
 |k::l,r=>by
  have h1:=VN h ops l (r.next P ops k)
  have h2:=h.2 r.st (ops k (r.c k))
  show sz ((r.next P ops k).run P ops l).st≤_
  have e:(r.next P ops k).st=(P.apply r.st (ops k (r.c k))).1:=rfl
  rw [e] at h1
  simp only [List.length_cons]
  omega
theorem FK (h:qA sz P) (ops:Nat→Nat→Op) (bs:List (List Nat)):sz (replay P ops bs).st≤2+2*bs.flatten.length:=by
 have h1:=VN h ops bs.flatten (Rp.new P)
 have h2:=h.1
 have e:sz (Rp.new P).st=sz P.first:=rfl
 unfold replay
 omega
def KS (sz:σ→Nat) (n:Nat) (E:aK σ) (Y:aP):Prop :=
 ∀ t,t<n→(E.th t).phase=8→∀ v,(E.th t).now=some v→sz v.st≤2+2*Y.bs.flatten.length+2*((E.th t).past / 3)
theorem ZN (n cap:Nat) (Y:aP) (t:Nat) (x:bA):Y.bs.flatten.length≤(over n cap Y t x).1.bs.flatten.length:=by
 unfold over
 split<;>(try split)<;>simp [aP.set]
theorem VO (n cap:Nat) (Y:aP) (t:Nat):Y.bs.flatten.length≤(bD n cap Y t).1.bs.flatten.length:=by
 unfold bD
 dsimp only
 split
 ·exact Nat.le_refl _
 ·exact ZN _ _ _ _ _
theorem VP (P:Plain σ) (n cap:Nat) (E:aK σ) {t u:Nat} (h:u≠t):(step P n cap E t).th u=E.th u:=by
 unfold step
 dsimp only
 split<;>(try split)<;>first|exact aD _ _ h|rfl
theorem sJ {e:aS σ} {s p:Nat} (h:(e.pass s p).phase=8) (hp:p≠8):e.phase=8∧(e.pass s p).past=e.past+1∧(e.pass s p).now=e.now:=by
 unfold aS.pass at h ⊢
 split at h
 ·exact absurd h hp
 ·rename_i q
  rw [if_neg q]
  exact ⟨h,rfl,rfl⟩
theorem zE (e:aS σ):e.bK.phase≠8:=by
 unfold aS.bK
 split
 ·exact (by decide:(3:Nat)≠8)
 ·exact (by decide:(4:Nat)≠8)
theorem QC (e:aS σ) (cap:Nat):(e.fail cap).phase≠8:=by
 unfold aS.fail
 split
 ·exact (by decide:(11:Nat)≠8)
 ·exact zE _
theorem KS.step (hg:qA sz P) (hi:Inv P n cap E Y) (h:KS sz n E Y) (ht:t<n):KS sz n (M.step P n cap E t) (bD n cap Y t).1:=by
 have hm:=VO n cap Y t
 intro u hu
 by_cases q:u=t
 ·subst q
  intro hp v hv
  have ho:=h u hu
  by_cases p8:(E.th u).phase=8
  ·have ho:=ho p8
   unfold M.step at hp hv ⊢
   simp only [p8,aC] at hp hv ⊢
   obtain ⟨-,e1,e2⟩:=sJ hp (by decide)
   rw [e2] at hv
   rw [e1]
   have hc:∀ e:aS σ,((if (E.th u).past+1=3*(E.th u).aJ.length then e.close n else e).past=e.past)∧∀ v,(if (E.th u).past+1=3*(E.th u).aJ.length then e.close n else e).now=some v→∃ v',e.now=some v'∧v'.st=v.st:=by
    intro e
    split
    ·refine ⟨rfl,fun v hv=>?_⟩
     cases hn:e.now with
     |none=>simp [aS.close,hn] at hv
     |some v' =>
      simp only [aS.close,hn,Option.map_some,Option.some.injEq] at hv
      exact ⟨v',rfl,by rw [←hv]⟩
    ·exact ⟨rfl,fun v hv=>⟨v,hv,rfl⟩⟩
   rw [(hc _).1]
   obtain ⟨v',RM,es⟩:=(hc _).2 v hv
   rw [←es]
   split at RM
   ·rename_i q2
    rw [if_pos q2]
    unfold aS.apply at RM ⊢
    cases hn:(E.th u).now with
    |none=>simp [hn] at RM
    |some v0 =>
     simp only [hn,Option.some.injEq] at RM ⊢
     rw [←RM]
     have:=ho v0 hn
     have:=hg.2 v0.st (fS (aI (E.th u).heard ((E.th u).past % 3) (E.eH ((E.th u).aJ.getD ((E.th u).past / 3) 0) ((E.th u).past % 3))))
     dsimp only
     omega
   ·rename_i q2
    rw [if_neg q2]
    have:=ho v' RM
    dsimp only
    omega
  ·by_cases p7:(E.th u).phase=7
   ·obtain ⟨pb,nf,hN,-,T⟩:=hi
    have X:=T u hu
    have hpt:(Y.th u).part=7:=by
     by_cases c:(Y.th u).part=11
     ·have:=X.p4 c;omega
     ·have:=X.p2 (by have:=X.p1;omega);omega
    unfold M.step at hp hv ⊢
    simp only [p7,aC] at hp hv ⊢
    split at hp
    ·rename_i q2
     rw [if_pos q2] at hv ⊢
     have hd:=(X.d7 (.inr hpt) (by show _=Y.bs.length;omega)).2.1
     have RM:(E.th u).now=some v:=hv
     rw [hd] at RM
     have aGy:=Option.some.inj RM
     rw [←aGy]
     have:=FK hg (view E Y pb nf).op Y.bs
     show sz (replay P (view E Y pb nf).op Y.bs).st≤_
     omega
    ·exact absurd hp (QC _ _)
   ·exfalso
    unfold M.step at hp
    dsimp only at hp
    split at hp
    ·simp only [aC] at hp;have:=(sJ hp (by decide)).1;omega
    ·simp only [aC] at hp;exact zE _ hp
    ·simp only [aC] at hp;have:=(sJ hp (by decide)).1;omega
    ·simp only [aC] at hp;exact absurd hp (by decide:(5:Nat)≠8)
    ·simp only [aC] at hp
     have:=(sJ hp (by decide)).1
     split at this<;>exact absurd this p8
    ·simp only [aC] at hp;have:=(sJ hp (by decide)).1;exact absurd this p8
    ·omega
    ·omega
    ·split at hp
     ·simp only [aC] at hp;have:=(sJ hp (by decide)).1;omega
     ·simp only [aC] at hp;have:=(sJ hp (by decide)).1;omega
    ·split at hp
     ·simp only [aC] at hp;exact absurd hp (by decide:(11:Nat)≠8)
     ·simp only [aC] at hp;exact QC _ _ hp
    ·simp only [aC] at hp;exact absurd hp (by decide:(12:Nat)≠8)
    ·simp only [aC] at hp;exact absurd hp (by decide:(13:Nat)≠8)
    ·simp only [aC] at hp;exact absurd hp (by decide:(0:Nat)≠8)
    ·exact p8 hp
 ·rw [VP P n cap E q]
  intro hp v hv
  have:=h u hu hp v hv
  omega
theorem KS.begin (h:KS sz n E Y) (o:Op):KS sz n (M.begin E t o) (bG Y t o):=by
 intro u hu
 by_cases q:u=t
 ·subst q
  intro hp
  simp only [M.begin,aC] at hp
  exact absurd hp (by decide:(1:Nat)≠8)
 ·have e:(M.begin E t o).th u=E.th u:=aD _ _ q
  rw [e]
  exact h u hu
theorem AB (sz:σ→Nat) (P:Plain σ) (n:Nat) (f:cY σ):KS sz n (E0 P f) Y0:=fun _ _ hp=>absurd hp (by show (0:Nat)≠8;decide)
theorem KS.bound (h:KS sz n E Y) (ht:t<n) (hF:Y.bs.flatten.length≤100000000000) (hp:(E.th t).past / 3≤64) (p8:(E.th t).phase=8) (v:cY σ) (hv:(E.th t).now=some v):sz v.st≤1000000000000:=by
 have:=h t ht p8 v hv
 omega
end
end Go.Proofs.YtefjhnhdagolhaaGreat.M
namespace Go.Proofs.YtefjhnhdagolhaaGreat
open Go.RowKit
attribute [local go_sem ↓] Go.wp_at_zero Go.wp_at_succ
theorem ZO (xs:List Int) (v:Value) (x:Int) (w:World) (hs:Sl w v (ints xs)) (hl:xs.length≤1048576) :
  Calls Tryz.prog 243 #[v,.int .i64 x] w fun e w'=>∃ r:Int,e = .returned (.int .i64 r)∧(0≤r↔x∈xs)∧w'=w:=by
 obtain ⟨a,c,rfl,hca,hcm,hop⟩:=hs.open_ints
 have HS:=aA hop
 clear hs hop
 go_enter Tryz.func243,Tryz.ntmps243
 go_wp2
 go_loopw [8] (fun i w'=>∃ k:Nat,k≤xs.length∧i = .int .i64 (k:Int)∧(∀ j,j<k→xs[j]?≠some x)∧w=w') (fun i _=>xs.length-(intOf i).toNat)
 case atStart=>exact ⟨0,Nat.zero_le _,rfl,fun j hj=>absurd hj (Nat.not_lt_zero _),rfl⟩
 case round =>
  obtain ⟨k,hk,rfl,hno,rfl⟩:=hrel
  have HNO:=aA hno
  clear hno
  by_cases hlt:k<xs.length
  ·have hlt':(k:Int)<(xs.length:Int):=by omega
   obtain ⟨g,off,rfl,hcell⟩:=HS.out k hlt
   have hg:xs[k]?=some xs[k]:=List.getElem?_eq_getElem hlt
   generalize xs[k]=y at hcell hg
   have HG:=aA hg
   clear hg
   by_cases hxy:x=y
   ·subst hxy
    go_wp2
    go_ret
    exact ⟨(k:Int),rfl,⟨fun _=>List.mem_of_getElem? HG.out,fun _=>by omega⟩,rfl⟩
   ·have hne:(x == y)=false:=by simpa using hxy
    have HX:=aA hxy
    clear hxy
    go_wp2
    go_roundw
    case rel =>
     refine ⟨k+1,by omega,by go_num,fun j hj=>?_,by trivial⟩
     by_cases q:j=k
     ·rw [q,HG.out]
      intro e
      injection e with e
      exact HX.out e.symm
     ·exact HNO.out j (by omega)
    case measure=>simp [intOf];omega
  ·have hlt':¬(k:Int)<(xs.length:Int):=by omega
   go_wp2
   go_ret
   refine ⟨-1,rfl,⟨fun q=>absurd q (by decide),fun hm=>?_⟩,rfl⟩
   obtain ⟨j,hj,e⟩:=List.getElem_of_mem hm
   exact absurd (by rw [List.getElem?_eq_getElem hj,e]) (HNO.out j (by omega))
theorem sK (xs:List Int) (v:Value) (x:Int) (w:World) (hs:Sl w v (ints xs)) (hl:xs.length≤1048576) :
  Calls Tryz.prog 229 #[v,.int .i64 x] w fun e w'=>e = .returned (.bool (decide (x∈xs)))∧w'=w:=by
 have HS:=aA hs
 clear hs
 go_enter Tryz.func229,Tryz.ntmps229
 go_wp2_with fail
 refine (ZO xs v x w HS.out hl).mono ?_
 rintro e w1 ⟨r,rfl,hr,rfl⟩
 have HR:=aA hr
 clear hr
 go_wp2_with fail
 go_ret
 refine ⟨kZ ?_,rfl⟩
 by_cases q:0≤r
 ·simp [q,HR.out.1 q]
 ·have:¬x∈xs:=fun m=>q (HR.out.2 m)
  simp [q,this]
end Go.Proofs.YtefjhnhdagolhaaGreat
