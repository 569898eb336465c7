import Derived.Test.YtefjhnhdagolhaaGreatQ03
import Derived.Test.YtefjhnhdagolhaaGreatQ00
import Derived.Test.YtefjhnhdagolhaaGreatQ01
import Derived.Test.YtefjhnhdagolhaaGreatProg
import Derived.Deep.DeepCutAuto
namespace Go.Proofs.YtefjhnhdagolhaaGreat.M
section
variable {σ:Type} {P:Plain σ} {sz:σ→Nat} {n cap:Nat} {E:cA σ} {Y:aR} {t:Nat}
def qH (sz:σ→Nat) (P:Plain σ):Prop:=sz P.first≤2∧∀ s op,sz (P.apply s op).1≤sz s+2
theorem RH (h:qH sz P) (ops:Nat→Nat→Op):∀ (l:List Nat) (r:Rp σ),sz (r.run P ops l).st≤sz r.st+2*l.length
 |[],_=>Nat.le_refl _
 |k::l,r=>by
  have h1:=RH h ops l (r.next P ops k)
  have h2:=h.2 r.st (ops k (r.c k))
  show sz ((r.next P ops k).run P ops l).st≤_
  have e:(r.next P ops k).st=(P.apply r.st (ops k (r.c k))).1:=rfl
  rw [e] at h1
  simp only [List.length_cons]
  omega
theorem pU (h:qH sz P) (ops:Nat→Nat→Op) (bs:List (List Nat)):sz (replay P ops bs).st≤2+2*bs.flatten.length:=by
 have h1:=RH h ops bs.flatten (Rp.new P)
 have h2:=h.1
 have e:sz (Rp.new P).st=sz P.first:=rfl
 unfold replay
 omega
def NZ (sz:σ→Nat) (n:Nat) (E:cA σ) (Y:aR):Prop :=
 ∀ t,t<n→(E.th t).phase=8→∀ v,(E.th t).now=some v→sz v.st≤2+2*Y.bs.flatten.length+2*((E.th t).past / 3)
theorem WG (n cap:Nat) (Y:aR) (t:Nat) (x:aT):Y.bs.flatten.length≤(over n cap Y t x).1.bs.flatten.length:=by
 unfold over
 split<;>(try split)<;>simp [aR.set]
theorem RI (n cap:Nat) (Y:aR) (t:Nat):Y.bs.flatten.length≤(cP n cap Y t).1.bs.flatten.length:=by
 unfold cP
 dsimp only
 split
 ·exact Nat.le_refl _
 ·exact WG _ _ _ _ _
theorem RJ (P:Plain σ) (n cap:Nat) (E:cA σ) {t u:Nat} (h:u≠t):(step P n cap E t).th u=E.th u:=by
 unfold step
 dsimp only
 split<;>(try split)<;>first|exact aD _ _ h|rfl
theorem mQ {e:aS σ} {s p:Nat} (h:(e.pass s p).phase=8) (hp:p≠8):e.phase=8∧(e.pass s p).past=e.past+1∧(e.pass s p).now=e.now:=by
 unfold aS.pass at h ⊢
 split at h
 ·exact absurd h hp
 ·rename_i q
  rw [if_neg q]
  exact ⟨h,rfl,rfl⟩
theorem uP (e:aS σ):e.bK.phase≠8:=by
 unfold aS.bK
 split
 ·exact (by decide:(3:Nat)≠8)
 ·exact (by decide:(4:Nat)≠8)
theorem ML (e:aS σ) (cap:Nat):(e.fail cap).phase≠8:=by
 unfold aS.fail
 split
 ·exact (by decide:(11:Nat)≠8)
 ·exact uP _
theorem NZ.step (hg:qH sz P) (hi:Inv P n cap E Y) (h:NZ sz n E Y) (ht:t<n):NZ sz n (M.step P n cap E t) (cP n cap Y t).1:=by
 have hm:=RI n cap Y t
 intro u hu
 by_cases q:u=t
 ·subst q
  intro hp v hv
  have ho:=h u hu
  by_cases p8:(E.th u).phase=8
  ·have ho:=ho p8
   unfold M.step at hp hv ⊢
   simp only [p8,aC] at hp hv ⊢
   obtain ⟨-,e1,e2⟩:=mQ hp (by decide)
   rw [e2] at hv
   rw [e1]
   have hc:∀ e:aS σ,((if (E.th u).past+1=3*(E.th u).aK.length then e.close n else e).past=e.past)∧∀ v,(if (E.th u).past+1=3*(E.th u).aK.length then e.close n else e).now=some v→∃ v',e.now=some v'∧v'.st=v.st:=by
    intro e
    split
    ·refine ⟨rfl,fun v hv=>?_⟩
     cases hn:e.now with
     |none=>simp [aS.close,hn] at hv
     |some v' =>
      simp only [aS.close,hn,Option.map_some,Option.some.injEq] at hv
      exact ⟨v',rfl,by rw [←hv]⟩
    ·exact ⟨rfl,fun v hv=>⟨v,hv,rfl⟩⟩
   rw [(hc _).1]
   obtain ⟨v',NV,es⟩:=(hc _).2 v hv
   rw [←es]
   split at NV
   ·rename_i q2
    rw [if_pos q2]
    unfold aS.apply at NV ⊢
    cases hn:(E.th u).now with
    |none=>simp [hn] at NV
    |some v0 =>
     simp only [hn,Option.some.injEq] at NV ⊢
     rw [←NV]
     have:=ho v0 hn
     have:=hg.2 v0.st (eO (aI (E.th u).heard ((E.th u).past % 3) (E.eS ((E.th u).aK.getD ((E.th u).past / 3) 0) ((E.th u).past % 3))))
     dsimp only
     omega
   ·rename_i q2
    rw [if_neg q2]
    have:=ho v' NV
    dsimp only
    omega
  ·by_cases p7:(E.th u).phase=7
   ·obtain ⟨pb,nf,hN,-,T⟩:=hi
    have X:=T u hu
    have hpt:(Y.th u).part=7:=by
     by_cases c:(Y.th u).part=11
     ·have:=X.p4 c;omega
     ·have:=X.p2 (by have:=X.p1;omega);omega
    unfold M.step at hp hv ⊢
    simp only [p7,aC] at hp hv ⊢
    split at hp
    ·rename_i q2
     rw [if_pos q2] at hv ⊢
     have hd:=(X.d7 (.inr hpt) (by show _=Y.bs.length;omega)).2.1
     have NV:(E.th u).now=some v:=hv
     rw [hd] at NV
     have aEN:=Option.some.inj NV
     rw [←aEN]
     have:=pU hg (view E Y pb nf).op Y.bs
     show sz (replay P (view E Y pb nf).op Y.bs).st≤_
     omega
    ·exact absurd hp (ML _ _)
   ·exfalso
    unfold M.step at hp
    dsimp only at hp
    split at hp
    ·simp only [aC] at hp;have:=(mQ hp (by decide)).1;omega
    ·simp only [aC] at hp;exact uP _ hp
    ·simp only [aC] at hp;have:=(mQ hp (by decide)).1;omega
    ·simp only [aC] at hp;exact absurd hp (by decide:(5:Nat)≠8)
    ·simp only [aC] at hp
     have:=(mQ hp (by decide)).1
     split at this<;>exact absurd this p8
    ·simp only [aC] at hp;have:=(mQ hp (by decide)).1;exact absurd this p8
    ·omega
    ·omega
    ·split at hp
     ·simp only [aC] at hp;have:=(mQ hp (by decide)).1;omega
     ·simp only [aC] at hp;have:=(mQ hp (by decide)).1;omega
    ·split at hp
     ·simp only [aC] at hp;exact absurd hp (by decide:(11:Nat)≠8)
     ·simp only [aC] at hp;exact ML _ _ hp
    ·simp only [aC] at hp;exact absurd hp (by decide:(12:Nat)≠8)
    ·simp only [aC] at hp;exact absurd hp (by decide:(13:Nat)≠8)
    ·simp only [aC] at hp;exact absurd hp (by decide:(0:Nat)≠8)
    ·exact p8 hp
 ·rw [RJ P n cap E q]
  intro hp v hv
  have:=h u hu hp v hv
  omega
theorem NZ.begin (h:NZ sz n E Y) (o:Op):NZ sz n (M.begin E t o) (cQ Y t o):=by
 intro u hu
 by_cases q:u=t
 ·subst q
  intro hp
  simp only [M.begin,aC] at hp
  exact absurd hp (by decide:(1:Nat)≠8)
 ·have e:(M.begin E t o).th u=E.th u:=aD _ _ q
  rw [e]
  exact h u hu
theorem MM (sz:σ→Nat) (P:Plain σ) (n:Nat) (f:dA σ):NZ sz n (E0 P f) Y0:=fun _ _ hp=>absurd hp (by show (0:Nat)≠8;decide)
theorem NZ.bound (h:NZ sz n E Y) (ht:t<n) (hF:Y.bs.flatten.length≤100000000000) (hp:(E.th t).past / 3≤64) (p8:(E.th t).phase=8) (v:dA σ) (hv:(E.th t).now=some v):sz v.st≤1000000000000:=by
 have:=h t ht p8 v hv
 omega
end
end Go.Proofs.YtefjhnhdagolhaaGreat.M
namespace Go.Proofs.YtefjhnhdagolhaaGreat
open Go.RowKit
open M (aI aC aD)
def Fn (w:World) (b:Nat) (t:TypeId) (m:Nat) (f:Nat→Value):Prop:=Row w b t ((List.range m).map f)
section
variable {w w':World} {b:Nat} {t:TypeId} {m:Nat} {f:Nat→Value}
theorem Fn.cell (h:Fn w b t m f) {k:Nat} (hk:k<m):w.cell? ⟨b,k,none⟩=some (f k):=Row.cell_of h (by simp [List.getElem?_range hk])
theorem Fn.frozen (h:Fn w b t m f) (k:Nat):w.frozen? ⟨b,k,none⟩=false:=Row.frozen h k
theorem Fn.lt (h:Fn w b t m f):b<w.heap.size:=Row.lt h
theorem Fn.of_block (h:Fn w b t m f) (e:w'.heap[b]?=w.heap[b]?):Fn w' b t m f:=Row.of_block h e
theorem zM (m:Nat) (f:Nat→Value) (k:Nat) (v:Value):((List.range m).map f).set k v=(List.range m).map (aI f k v):=by
 apply List.ext_getElem?
 intro i
 by_cases hi:i<m
 ·by_cases e:k=i
  ·subst e
   rw [List.getElem?_set_self (by simpa using hi)]
   simp [List.getElem?_range hi,aC]
  ·rw [List.getElem?_set_ne e]
   simp [List.getElem?_range hi,aD _ _ (Ne.symm e)]
 ·rw [List.getElem?_eq_none (by simpa using hi),List.getElem?_eq_none (by simpa using hi)]
theorem Fn.set (h:Fn w b t m f) (k:Nat) (v:Value):Fn (w.setCell ⟨b,k,none⟩ v) b t m (aI f k v):=by
 have:=Row.set h k v
 rw [zM] at this
 exact this
theorem Fn.congr (h:Fn w b t m f) {g:Nat→Value} (e:∀ k,k<m→f k=g k):Fn w b t m g:=by
 have:(List.range m).map f=(List.range m).map g:=List.map_congr_left fun k hk=>e k (List.mem_range.1 hk)
 unfold Fn at *
 rw [←this]
 exact h
end
def uQ (w:World) (b:Nat) (t:TypeId) (m c:Nat) (T:Nat→Nat→Value):Prop:=Fn w b t (m*c) (fun k=>T (k / c) (k % c))
section
variable {w w':World} {b:Nat} {t:TypeId} {m c:Nat} {T:Nat→Nat→Value}
theorem RK {i j:Nat} (hi:i<m) (hj:j<c):i*c+j<m*c:=by
 have h:(i+1)*c≤m*c:=Nat.mul_le_mul_right c hi
 rw [Nat.add_mul,Nat.one_mul] at h
 omega
theorem MO {i j:Nat} (hj:j<c):(i*c+j) / c=i:=by
 have hc:0<c:=by omega
 rw [Nat.mul_comm,Nat.mul_add_div hc,Nat.div_eq_of_lt hj,Nat.add_zero]
theorem MP {i j:Nat} (hj:j<c):(i*c+j) % c=j:=by
 rw [Nat.mul_comm,Nat.mul_add_mod,Nat.mod_eq_of_lt hj]
theorem uQ.cell (h:uQ w b t m c T) {i j:Nat} (hi:i<m) (hj:j<c):w.cell? ⟨b,i*c+j,none⟩=some (T i j):=by
 have:=Fn.cell h (RK hi hj)
 simp only [MO hj,MP hj] at this
 exact this
theorem uQ.frozen (h:uQ w b t m c T) (k:Nat):w.frozen? ⟨b,k,none⟩=false:=Fn.frozen h k
theorem uQ.of_block (h:uQ w b t m c T) (e:w'.heap[b]?=w.heap[b]?):uQ w' b t m c T:=Fn.of_block h e
theorem uQ.set (h:uQ w b t m c T) {i j:Nat} (hj:j<c) (v:Value):uQ (w.setCell ⟨b,i*c+j,none⟩ v) b t m c (aI T i (aI (T i) j v)):=by
 refine Fn.congr (Fn.set h (i*c+j) v) fun k _=>?_
 by_cases e:k=i*c+j
 ·subst e
  rw [aC,MO hj,MP hj,aC,aC]
 ·rw [aD _ _ e]
  by_cases ei:k / c=i
  ·have ej:k % c≠j:=by
    intro q
    apply e
    rw [←ei,←q,Nat.mul_comm]
    exact (Nat.div_add_mod k c).symm
   rw [ei,aC,aD _ _ ej]
  ·rw [aD _ _ ei]
end
theorem Fn.there {w:World} {b:Nat} {t:TypeId} {m:Nat} {f:Nat→Value} (h:Fn w b t m f) {k:Nat} (hk:k<m):w.there b k 1:=Row.there h (by simp;omega)
theorem uQ.there {w:World} {b:Nat} {t:TypeId} {m c:Nat} {T:Nat→Nat→Value} (h:uQ w b t m c T) {i j:Nat} (hi:i<m) (hj:j<c):w.there b (i*c+j) 1:=Fn.there h (RK hi hj)
def RL (f:Nat→Value) (l:List Value):Prop:=∀ j v,l[j]?=some v→f j=v
theorem RL.set {f:Nat→Value} {l:List Value} (h:RL f l) (j:Nat) (v:Value):RL (aI f j v) (l.set j v):=by
 intro k u hk
 by_cases e:k=j
 ·subst e
  rw [aC]
  rw [List.getElem?_set] at hk
  simp only [if_true] at hk
  split at hk
  ·injection hk
  ·cases hk
 ·rw [aD _ _ e]
  rw [List.getElem?_set_ne (Ne.symm e)] at hk
  exact h k u hk
structure Fr (own:Nat→Prop) (w w':World):Prop where
 os:w'.os=w.os
 tape:w'.tape=w.tape
 output:w'.output=w.output
 size:w.heap.size≤w'.heap.size
 block:∀ k,k<w.heap.size→¬own k→w'.heap[k]?=w.heap[k]?
theorem Fr.refl (own:Nat→Prop) (w:World):Fr own w w:=⟨rfl,rfl,rfl,Nat.le_refl _,fun _ _ _=>rfl⟩
theorem Fr.trans {own:Nat→Prop} {w w1 w2:World} (h:Fr own w w1) (h':Fr own w1 w2):Fr own w w2 :=
 ⟨h'.os.trans h.os,h'.tape.trans h.tape,h'.output.trans h.output,Nat.le_trans h.size h'.size,fun k hk ho=>(h'.block k (Nat.lt_of_lt_of_le hk h.size) ho).trans (h.block k hk ho)⟩
theorem Fr.cV {own:Nat→Prop} {w w':World} (h:Below w.heap.size w w'):Fr own w w':=⟨h.os,h.tape,h.output,h.size,fun k hk _=>h.block k hk⟩
theorem Fr.set {own:Nat→Prop} (w:World) {a:Addr} (ha:own a.block) (v:Value):Fr own w (w.setCell a v) :=
 ⟨rfl,rfl,rfl,by simp [World.setCell],fun k _ ho=>Below.heap_setCell w a v k (by rintro rfl;exact ho ha)⟩
theorem Fr.drewN {own:Nat→Prop} {w w':World} (h:Fr own w w') (n:Nat):Fr own w (w'.drewN n):=⟨h.os,h.tape,h.output,h.size,h.block⟩
theorem Fr.drew {own:Nat→Prop} {w w':World} (h:Fr own w w'):Fr own w w'.drew:=⟨h.os,h.tape,h.output,h.size,h.block⟩
theorem aF {w:World} {a:Addr} {v u:Value} {b o:Nat} (h:w.cell? ⟨b,o,none⟩=some u) (hne:b≠a.block∨o≠a.off):(w.setCell a v).cell? ⟨b,o,none⟩=some u:=by
 rw [World.cell?_setCell_other]
 ·exact h
 ·intro e
  rw [e] at hne
  rcases hne with q|q<;>exact q rfl
theorem lH {w:World} {a b:Addr} {v:Value} (h:w.frozen? b=false):(w.setCell a v).frozen? b=false:=by rw [World.frozen?_setCell];exact h
end Go.Proofs.YtefjhnhdagolhaaGreat
namespace Go.Proofs.YtefjhnhdagolhaaGreat
open Go.RowKit
set_option maxHeartbeats 400000 in
theorem BW (a b:Option Addr) (n m ca cb:Nat) (w:World) (hne:n≠m) (_hn:n≤maxLen) (_hm:m≤maxLen) :
  Calls Tryz.prog 28 #[.slice a n ca,.slice b m cb] w fun e w'=>e = .returned (.bool false)∧∃ k,w'=w.drewN k:=by
 unfold maxLen at *
 have h1:((n:Int) != (m:Int))=true:=by rw [bne_iff_ne];omega
 go_enter Tryz.func28,Tryz.ntmps28
 go_wp2
 go_ret
 exact ⟨rfl,0,rfl⟩
set_option maxHeartbeats 800000 in
theorem zN (xs ys:List Int) (va vb:Value) (w:World) (ha:Sl w va (ints xs)) (hb:Sl w vb (ints ys)) (hl:xs.length=ys.length) :
  Calls Tryz.prog 28 #[va,vb] w fun e w'=>e = .returned (.bool (decide (xs=ys)))∧∃ k,w'=w.drewN k:=by
 obtain ⟨a,ca,rfl,h1,h2,h3⟩:=ha.open_ints
 obtain ⟨b,cb,rfl,h4,h5,h6⟩:=hb.open_ints
 clear ha hb
 rw [←hl] at h4 ⊢
 have hmax:xs.length≤maxLen:=Nat.le_trans h1 h2
 unfold maxLen at hmax
 have HL:Hid (xs.length=ys.length):=hl
 have H3:=aA h3
 have H6:=aA h6
 clear hl h3 h6 h2 h5
 have h0:((xs.length:Int) != (xs.length:Int))=false:=by simp
 go_enter Tryz.func28,Tryz.ntmps28
 go_wp2
 go_loopw [5] (fun i w'=>∃ k:Nat,k≤xs.length∧i = .int .i64 k∧xs.take k=ys.take k∧∃ q,w'=w.drewN q) (fun i _=>xs.length-(intOf i).toNat)
 case atStart=>exact ⟨0,Nat.zero_le _,rfl,by simp,0,rfl⟩
 case round =>
  obtain ⟨k,hk,rfl,heq,q,rfl⟩:=hrel
  have HE:=aA heq
  clear heq
  by_cases hlt:k<xs.length
  ·obtain ⟨g,off,rfl,hc⟩:=(nW H3) k hlt
   obtain ⟨g',off',rfl,FE⟩:=(nW H6) k (by rw [←HL.out];exact hlt)
   have hlt':(k:Int)<(xs.length:Int):=by omega
   have EW:(0:Int)≤(k:Int):=by omega
   by_cases hx:xs[k]=ys[k]'(by rw [←HL.out];exact hlt)
   ·have HX:=aA hx
    clear hx
    have hn:(xs[k] != ys[k]'(by rw [←HL.out];exact hlt))=false:=by simp [HX.out]
    go_wp2
    go_quiet (fail)
    go_wp2
    go_roundw
    case rel=>exact ⟨k+1,by omega,by go_num,BO HE.out hlt (by rw [←HL.out];exact hlt) HX.out,q+nq,by first|rfl|rw [World.drewN_drewN]⟩
    case measure=>simp [intOf];omega
   ·have HX:=aA hx
    clear hx
    have hn:(xs[k] != ys[k]'(by rw [←HL.out];exact hlt))=true:=by simpa using HX.out
    go_wp2
    go_quiet (fail)
    go_wp2
    go_ret
    have hd:decide (xs=ys)=false:=by
     rw [decide_eq_false_iff_not];rintro rfl;exact HX.out rfl
    exact ⟨dR hd.symm,q+nq,by first|rfl|rw [World.drewN_drewN]⟩
  ·go_wp2
   go_ret
   have hd:decide (xs=ys)=true:=by
    rw [decide_eq_true_eq]
    have:=HE.out
    rwa [List.take_of_length_le (by omega),List.take_of_length_le (by have:=HL.out;omega)] at this
   exact ⟨dR hd.symm,_,rfl⟩
theorem iN (xs ys:List Int) (va vb:Value) (w:World) (ha:Sl w va (ints xs)) (hb:Sl w vb (ints ys)) :
  Calls Tryz.prog 28 #[va,vb] w fun e w'=>e = .returned (.bool (decide (xs=ys)))∧∃ k,w'=w.drewN k:=by
 by_cases hl:xs.length=ys.length
 ·exact zN xs ys va vb w ha hb hl
 ·have hd:decide (xs=ys)=false:=by rw [decide_eq_false_iff_not];rintro rfl;exact hl rfl
  rw [hd]
  obtain ⟨a,ca,rfl,h1,h2,h3⟩:=ha.open_ints
  obtain ⟨b,cb,rfl,h4,h5,h6⟩:=hb.open_ints
  exact BW a b _ _ ca cb w hl (Nat.le_trans h1 h2) (Nat.le_trans h4 h5)
end Go.Proofs.YtefjhnhdagolhaaGreat
namespace Go.Proofs.YtefjhnhdagolhaaGreat
open Go.RowKit
theorem eH:(Tryz.prog.info? 3).map (fun i=>(i.zero,i.size,i.bytes))=some (some (.int .i64 0),1,8):=by kernel_rfl
theorem RM:(Tryz.prog.info? 3).map (·.size)=some 1:=by kernel_rfl
set_option maxHeartbeats 800000 in
theorem gH (xs:List Int) (v:Value) (w:World) (hv:Sl w v (ints xs)) (hn:xs.length≤1048576) :
  Calls Tryz.prog 24 #[v] w fun e w'=>∃ g,e = .returned (.slice (some ⟨g,0,none⟩) (xs.length+2) (xs.length+2))∧w.heap.size≤g ∧
   w'.heap[g]?=some (.cells (ints (xs++[-77,-77])).toArray 3 (0,0))∧Below w.heap.size w w':=by
 obtain ⟨a,ca,rfl,h1,h2,h3⟩:=hv.open_ints
 have hmk:=dY (P:=Tryz.prog) 22 3 (.int .i64 0) 8 Tryz.underlying22 eH rfl ((xs.length:Int)+2) (xs.length+2) (by omega) (by omega) (by omega)
 clear h1 h2
 have H3:=aA h3
 clear h3
 clear hv
 have hb0:∀ o,Below w.heap.size w (w.alloc o):=fun o=>(Below.refl _ _).alloc (Nat.le_refl _) o
 go_enter Tryz.func24,Tryz.ntmps24
 go_wp2_with (with_reducible refine wpList_copy_splice rfl (.tmp 10) (.tmp 11) 22 22 rfl 3 Tryz.underlying22 RM _ _ _ _ _ _ rfl rfl w.heap.size 0 (zeros (.int .i64 0) (xs.length+2)) 3 ?hg (ints xs) ?hn ?hpos ?hfit ?h1 w.heap.size w ?hb ?hBg ?hk)
 case hg=>exact Row.new _ _ _
 case hn=>simp [cT]
 case hpos =>
  intro hp
  rw [cT] at hp
  obtain ⟨g,off,rfl,-⟩:=(nW H3) 0 hp
  refine ⟨_,rfl,fun j v hj=>?_⟩
  have hj':j<xs.length:=by rw [←cT];exact (List.getElem?_eq_some_iff.1 hj).1
  obtain ⟨g',off',he,hc⟩:=(nW H3) j hj'
  cases he
  rw [fH,List.getElem?_eq_getElem hj'] at hj
  cases hj
  rw [eM]
  exact aX hc _
 case hfit=>simp [cT,BN]
 case h1=>exact sC xs
 case hb=>exact hb0 _
 case hBg=>exact Nat.le_refl _
 case hk =>
  intro w2 WH OA
  have EX:Row w2 w.heap.size 3 (splice (zeros (.int .i64 0) (xs.length+2)) 0 (ints xs)):=WH.out
  have hs:splice (zeros (.int .i64 0) (xs.length+2)) 0 (ints xs)=ints xs++[.int .i64 0,.int .i64 0]:=by
   simp [splice,zeros,cT]
  rw [hs] at EX
  clear hs WH
  have MQ:w2.cell? ⟨w.heap.size,xs.length,none⟩=some (.int .i64 0):=EX.cell_of (by rw [List.getElem?_append_right (by simp [cT])];simp [cT])
  have YO:w2.cell? ⟨w.heap.size,xs.length+1,none⟩=some (.int .i64 0):=EX.cell_of (by rw [List.getElem?_append_right (by simp [cT])];simp [cT])
  have hf:=EX.frozen
  have hx1:(0:Int)≤(xs.length:Int):=by omega
  have hx2:(xs.length:Int)<(xs.length+2:Nat):=by omega
  have hx3:(xs.length:Int)+1<(xs.length+2:Nat):=by omega
  go_wp2
  go_ret
  refine ⟨w.heap.size,rfl,Nat.le_refl _,?_,(OA.setCell (Nat.le_refl _) _).setCell (Nat.le_refl _) _⟩
  have h9:=(EX.set xs.length (.int .i64 (-77))).set (xs.length+1) (.int .i64 (-77))
  have he:((ints xs++[Value.int .i64 0,.int .i64 0]).set xs.length (.int .i64 (-77))).set (xs.length+1) (.int .i64 (-77))=ints (xs++[-77,-77]):=by
   rw [List.set_append_right _ _ (by simp [cT])]
   rw [List.set_append_right _ _ (by simp [cT])]
   simp [ints]
  rw [he] at h9
  exact h9
end Go.Proofs.YtefjhnhdagolhaaGreat
namespace Go.Proofs.YtefjhnhdagolhaaGreat
open Go.RowKit
def cE (st co:Int) (nx ou:List Int):Bool :=
 decide (1≤st) && decide (st≤64) && decide (1≤co) && decide (co≤16) && decide ((nx.length:Int)=st*co) && decide ((ou.length:Int)=st*co) && nx.all fun x=>decide (0≤x) && decide (x<st)
theorem qI {nx:List Int} {p:Int→Bool} {k:Nat} (h:(nx.take k).all p=true) (hk:k<nx.length) (hp:p nx[k]=true):(nx.take (k+1)).all p=true:=by
 rw [List.take_succ_eq_append_getElem hk,List.all_append,h];simp [hp]
theorem all_false {nx:List Int} {p:Int→Bool} {k:Nat} (hk:k<nx.length) (hp:p nx[k]=false):nx.all p=false:=by
 rw [List.all_eq_false]
 exact ⟨nx[k],List.getElem_mem hk,by simp [hp]⟩
theorem MR {st co:Int} (h1:1≤st) (h2:st≤64) (h3:1≤co) (h4:co≤16):1≤st*co∧st*co≤1024:=by
 constructor
 ·have:=Int.mul_le_mul h1 h3 (by omega) (by omega);omega
 ·have:=Int.mul_le_mul h2 h4 (by omega) (by omega);omega
set_option maxHeartbeats 1000000 in
theorem BX (st co:Int) (nx ou:List Int) (vn vo:Value) (w:World) (hn:Sl w vn (ints nx)) (ho:Sl w vo (ints ou)) :
  Calls Tryz.prog 74 #[.agg #[.int .i64 st,.int .i64 co,vn,vo]] w fun e w'=>e = .returned (.bool (cE st co nx ou))∧Below w.heap.size w w':=by
 obtain ⟨a,ca,rfl,h1,h2,h3⟩:=hn.open_ints
 obtain ⟨b,cb,rfl,h4,h5,h6⟩:=ho.open_ints
 clear hn ho h6
 have H3:=aA h3
 clear h3
 have hmax:nx.length≤maxLen:=Nat.le_trans h1 h2
 have aCp:ou.length≤maxLen:=Nat.le_trans h4 h5
 unfold maxLen at *
 by_cases c1:st<1
 ·rw [show cE st co nx ou=false from by simp [cE];omega]
  go_enter Tryz.func74,Tryz.ntmps74
  go_wp2
  go_ret
  exact ⟨rfl,(by repeat (first|exact Below.refl _ _|assumption|refine Below.drewN ?_ _|refine Below.alloc ?_ (by simp) _))⟩
 by_cases c2:64<st
 ·rw [show cE st co nx ou=false from by simp [cE];omega]
  go_enter Tryz.func74,Tryz.ntmps74
  go_wp2
  go_ret
  exact ⟨rfl,(by repeat (first|exact Below.refl _ _|assumption|refine Below.drewN ?_ _|refine Below.alloc ?_ (by simp) _))⟩
 by_cases c3:co<1
 ·rw [show cE st co nx ou=false from by simp [cE];omega]
  go_enter Tryz.func74,Tryz.ntmps74
  go_wp2
  go_ret
  exact ⟨rfl,(by repeat (first|exact Below.refl _ _|assumption|refine Below.drewN ?_ _|refine Below.alloc ?_ (by simp) _))⟩
 by_cases c4:16<co
 ·rw [show cE st co nx ou=false from by simp [cE];omega]
  go_enter Tryz.func74,Tryz.ntmps74
  go_wp2
  go_ret
  exact ⟨rfl,(by repeat (first|exact Below.refl _ _|assumption|refine Below.drewN ?_ _|refine Below.alloc ?_ (by simp) _))⟩
 have hp:=MR (st:=st) (co:=co) (by omega) (by omega) (by omega) (by omega)
 by_cases c5:(nx.length:Int)≠st*co
 ·rw [show cE st co nx ou=false from by simp [cE];omega]
  have c5':((nx.length:Int) != st*co)=true:=by rw [bne_iff_ne];exact c5
  clear c5
  go_enter Tryz.func74,Tryz.ntmps74
  go_wp2
  go_ret
  exact ⟨rfl,(by repeat (first|exact Below.refl _ _|assumption|refine Below.drewN ?_ _|refine Below.alloc ?_ (by simp) _))⟩
 replace c5:(nx.length:Int)=st*co:=Decidable.of_not_not c5
 by_cases c6:(ou.length:Int)≠st*co
 ·rw [show cE st co nx ou=false from by simp [cE];omega]
  have c5':((nx.length:Int) != st*co)=false:=by rw [bne_eq_false_iff_eq];exact c5
  have c6':((ou.length:Int) != st*co)=true:=by rw [bne_iff_ne];exact c6
  clear c5 c6
  go_enter Tryz.func74,Tryz.ntmps74
  go_wp2
  go_ret
  exact ⟨rfl,(by repeat (first|exact Below.refl _ _|assumption|refine Below.drewN ?_ _|refine Below.alloc ?_ (by simp) _))⟩
 replace c6:(ou.length:Int)=st*co:=Decidable.of_not_not c6
 have hT:cE st co nx ou=nx.all fun x=>decide (0≤x) && decide (x<st):=by
  simp only [cE]
  rw [decide_eq_true (show 1≤st by omega),decide_eq_true (show st≤64 by omega),decide_eq_true (show 1≤co by omega),decide_eq_true (show co≤16 by omega),decide_eq_true c5,decide_eq_true c6]
  rfl
 rw [hT]
 clear hT
 have c5':((nx.length:Int) != st*co)=false:=by rw [bne_eq_false_iff_eq];exact c5
 have c6':((ou.length:Int) != st*co)=false:=by rw [bne_eq_false_iff_eq];exact c6
 have C5:=aA c5
 clear c5 c6
 go_enter Tryz.func74,Tryz.ntmps74
 go_wp2
 go_loopw [4] (fun i w'=>∃ k:Nat,k≤nx.length∧i = .int .i64 k∧(nx.take k).all (fun x=>decide (0≤x) && decide (x<st))=true∧∃ q,w'=(w.alloc (.cells #[.int .i64 st,.int .i64 co,.slice a nx.length ca,.slice b ou.length cb] 24)).drewN q) (fun i _=>nx.length-(intOf i).toNat)
 case atStart=>exact ⟨0,Nat.zero_le _,rfl,by simp,0,rfl⟩
 case round =>
  obtain ⟨k,hk,rfl,hall,q,rfl⟩:=hrel
  have HE:=aA hall
  clear hall
  by_cases hlt:k<nx.length
  ·obtain ⟨g,off,rfl,hc⟩:=(nW H3) k hlt
   have hlt':(k:Int)<(nx.length:Int):=by omega
   have RN:(k:Int)<st*co:=by have:=C5.out;omega
   have EW:(0:Int)≤(k:Int):=by omega
   have FE:=fun ob=>aX hc ob
   by_cases hx:nx[k]<0
   ·go_wp2
    go_quiet (fail)
    go_wp2
    go_ret
    exact ⟨dR (all_false (p:=fun x=>decide (0≤x) && decide (x<st)) hlt (by simp;omega)).symm,(by repeat (first|exact Below.refl _ _|assumption|refine Below.drewN ?_ _|refine Below.alloc ?_ (by simp) _))⟩
   ·by_cases hy:nx[k]<st
    ·go_wp2
     go_quiet (fail)
     go_wp2
     go_roundw
     case rel=>exact ⟨k+1,by omega,by go_num,qI HE.out hlt (by simp;omega),q+nq,by first|rfl|rw [World.drewN_drewN]⟩
     case measure=>simp [intOf];omega
    ·have hy':st≤nx[k]:=by omega
     go_wp2
     go_quiet (fail)
     go_wp2
     go_ret
     exact ⟨dR (all_false (p:=fun x=>decide (0≤x) && decide (x<st)) hlt (by simp;omega)).symm,(by repeat (first|exact Below.refl _ _|assumption|refine Below.drewN ?_ _|refine Below.alloc ?_ (by simp) _))⟩
  ·have RN:¬(k:Int)<st*co:=by have:=C5.out;omega
   go_wp2
   go_ret
   have:=HE.out
   rw [List.take_of_length_le (by omega)] at this
   exact ⟨dR this.symm,(by repeat (first|exact Below.refl _ _|assumption|refine Below.drewN ?_ _|refine Below.alloc ?_ (by simp) _))⟩
set_option maxHeartbeats 400000 in
theorem wH (n a b:Int) (w:World) :
  Calls Tryz.prog 95 #[.int .i64 n,.int .i64 a,.int .i64 b] w fun e w'=>e = .returned (.bool (decide (a≤n) && decide (n≤b)))∧w'=w:=by
 by_cases h1:a≤n
 ·rw [decide_eq_true h1,Bool.true_and]
  go_enter Tryz.func95,Tryz.ntmps95
  go_wp2
  go_ret
  exact ⟨rfl,rfl⟩
 ·rw [decide_eq_false h1,Bool.false_and]
  have h1':decide (a≤n)=false:=decide_eq_false h1
  go_enter Tryz.func95,Tryz.ntmps95
  go_wp2
  go_ret
  exact ⟨rfl,rfl⟩
theorem cI (n a b:Int) (w:World) (h1:a≤n) (h2:n≤b) :
  Calls Tryz.prog 95 #[.int .i64 n,.int .i64 a,.int .i64 b] w fun e w'=>e = .returned (.bool true)∧w'=w:=by
 have:=wH n a b w
 rwa [decide_eq_true h1,decide_eq_true h2] at this
theorem jZ (n a b:Int) (w:World) (h:n<a∨b<n) :
  Calls Tryz.prog 95 #[.int .i64 n,.int .i64 a,.int .i64 b] w fun e w'=>e = .returned (.bool false)∧w'=w:=by
 have:=wH n a b w
 rwa [show (decide (a≤n) && decide (n≤b))=false from by simp;omega] at this
end Go.Proofs.YtefjhnhdagolhaaGreat
namespace Go.Proofs.YtefjhnhdagolhaaGreat
open Go.RowKit
set_option maxHeartbeats 1000000 in
theorem uR (st co:Int) (nx ou:List Int) (vn vo:Value) (w:World) (hn:Sl w vn (ints nx)) (ho:Sl w vo (ints ou)) :
  Calls Tryz.prog 103 #[.agg #[.int .i64 st,.int .i64 co,vn,vo]] w fun e w'=>e = .returned (.bool (cE st co nx ou))∧Below w.heap.size w w':=by
 obtain ⟨a,ca,rfl,h1,h2,h3⟩:=hn.open_ints
 obtain ⟨b,cb,rfl,h4,h5,h6⟩:=ho.open_ints
 clear hn ho h6
 have H3:=aA h3
 clear h3
 have hmax:nx.length≤maxLen:=Nat.le_trans h1 h2
 have aCp:ou.length≤maxLen:=Nat.le_trans h4 h5
 unfold maxLen at *
 by_cases c1:st<1∨64<st
 ·rw [show cE st co nx ou=false from by simp [cE];omega]
  go_enter Tryz.func103,Tryz.ntmps103
  go_wp2_with (go_at_call 95;refine (jZ _ _ _ _ c1).mono ?_;rintro e w' ⟨rfl,rfl⟩)
  go_ret
  exact ⟨rfl,(by repeat (first|exact Below.refl _ _|assumption|refine Below.drewN ?_ _|refine Below.alloc ?_ (by simp) _))⟩
 have c1':1≤st∧st≤64:=by omega
 clear c1
 by_cases c3:co<1∨16<co
 ·rw [show cE st co nx ou=false from by simp [cE];omega]
  go_enter Tryz.func103,Tryz.ntmps103
  go_wp2_with fail
  refine (cI _ _ _ _ c1'.1 c1'.2).mono ?_
  rintro e w' ⟨rfl,rfl⟩
  go_wp2_with fail
  refine (jZ _ _ _ _ c3).mono ?_
  rintro e w' ⟨rfl,rfl⟩
  go_wp2
  go_ret
  exact ⟨rfl,(by repeat (first|exact Below.refl _ _|assumption|refine Below.drewN ?_ _|refine Below.alloc ?_ (by simp) _))⟩
 have c3':1≤co∧co≤16:=by omega
 clear c3
 obtain ⟨s1,s2⟩:=c1'
 obtain ⟨s3,s4⟩:=c3'
 have hp:=MR s1 s2 s3 s4
 by_cases c5:(nx.length:Int)≠st*co
 ·rw [show cE st co nx ou=false from by simp [cE];omega]
  have c5':((nx.length:Int) != st*co)=true:=by rw [bne_iff_ne];exact c5
  clear c5
  go_enter Tryz.func103,Tryz.ntmps103
  go_wp2_with fail
  refine (cI _ _ _ _ s1 s2).mono ?_
  rintro e w' ⟨rfl,rfl⟩
  go_wp2_with fail
  refine (cI _ _ _ _ s3 s4).mono ?_
  rintro e w' ⟨rfl,rfl⟩
  go_wp2
  go_ret
  exact ⟨rfl,(by repeat (first|exact Below.refl _ _|assumption|refine Below.drewN ?_ _|refine Below.alloc ?_ (by simp) _))⟩
 replace c5:(nx.length:Int)=st*co:=Decidable.of_not_not c5
 by_cases c6:(ou.length:Int)≠st*co
 ·rw [show cE st co nx ou=false from by simp [cE];omega]
  have c5':((nx.length:Int) != st*co)=false:=by rw [bne_eq_false_iff_eq];exact c5
  have c6':((ou.length:Int) != st*co)=true:=by rw [bne_iff_ne];exact c6
  clear c5 c6
  go_enter Tryz.func103,Tryz.ntmps103
  go_wp2_with fail
  refine (cI _ _ _ _ s1 s2).mono ?_
  rintro e w' ⟨rfl,rfl⟩
  go_wp2_with fail
  refine (cI _ _ _ _ s3 s4).mono ?_
  rintro e w' ⟨rfl,rfl⟩
  go_wp2
  go_ret
  exact ⟨rfl,(by repeat (first|exact Below.refl _ _|assumption|refine Below.drewN ?_ _|refine Below.alloc ?_ (by simp) _))⟩
 replace c6:(ou.length:Int)=st*co:=Decidable.of_not_not c6
 have hT:cE st co nx ou=nx.all fun x=>decide (0≤x) && decide (x<st):=by
  simp only [cE]
  rw [decide_eq_true (show 1≤st by omega),decide_eq_true (show st≤64 by omega),decide_eq_true (show 1≤co by omega),decide_eq_true (show co≤16 by omega),decide_eq_true c5,decide_eq_true c6]
  rfl
 rw [hT]
 clear hT
 have c5':((nx.length:Int) != st*co)=false:=by rw [bne_eq_false_iff_eq];exact c5
 have c6':((ou.length:Int) != st*co)=false:=by rw [bne_eq_false_iff_eq];exact c6
 clear c5 c6
 go_enter Tryz.func103,Tryz.ntmps103
 go_wp2_with fail
 refine (cI _ _ _ _ s1 s2).mono ?_
 rintro e w' ⟨rfl,rfl⟩
 go_wp2_with fail
 refine (cI _ _ _ _ s3 s4).mono ?_
 rintro e w' ⟨rfl,rfl⟩
 go_wp2
 go_loop [36] (fun i=>∃ k:Nat,k≤nx.length∧i = .int .i64 k∧(nx.take k).all (fun x=>decide (0≤x) && decide (x<st))=true) (fun i=>nx.length-(intOf i).toNat)
 case atStart=>exact ⟨0,Nat.zero_le _,rfl,by simp⟩
 case round =>
  obtain ⟨k,hk,rfl,hall⟩:=hrel
  have HE:=aA hall
  clear hall
  by_cases hlt:k<nx.length
  ·obtain ⟨g,off,rfl,hc⟩:=(nW H3) k hlt
   have hlt':(k:Int)<(nx.length:Int):=by omega
   have EW:(0:Int)≤(k:Int):=by omega
   have FE:=fun ob=>aX hc ob
   by_cases hx:nx[k]<0∨st-1<nx[k]
   ·go_wp2_with fail
    refine (jZ _ _ _ _ hx).mono ?_
    rintro e w' ⟨rfl,rfl⟩
    go_wp2
    go_ret
    exact ⟨dR (all_false (p:=fun x=>decide (0≤x) && decide (x<st)) hlt (by simp;omega)).symm,(by repeat (first|exact Below.refl _ _|assumption|refine Below.drewN ?_ _|refine Below.alloc ?_ (by simp) _))⟩
   ·have hx1:0≤nx[k]:=by omega
    have hx2:nx[k]≤st-1:=by omega
    clear hx
    go_wp2_with fail
    refine (cI _ _ _ _ hx1 hx2).mono ?_
    rintro e w' ⟨rfl,rfl⟩
    go_wp2
    go_round
    case rel=>exact ⟨k+1,by omega,by go_num,qI HE.out hlt (by simp;omega)⟩
    case measure=>simp [intOf];omega
  ·go_wp2
   go_ret
   have:=HE.out
   rw [List.take_of_length_le (by omega)] at this
   exact ⟨dR this.symm,(by repeat (first|exact Below.refl _ _|assumption|refine Below.drewN ?_ _|refine Below.alloc ?_ (by simp) _))⟩
end Go.Proofs.YtefjhnhdagolhaaGreat
namespace Go.Proofs.YtefjhnhdagolhaaGreat
open Go.RowKit
def eD (kind th cap st co:Int) (nx ou:List Int):Int :=
 if 1≤kind∧kind≤5∧1≤th∧th≤64∧0≤cap∧cap≤64 then
  if kind=5 then if cE st co nx ou=true then 0 else 2 else 0
 else 1
theorem mR {kind th cap st co:Int} {nx ou:List Int} (h:¬(1≤kind∧kind≤5∧1≤th∧th≤64∧0≤cap∧cap≤64)):eD kind th cap st co nx ou=1:=by
 unfold eD;rw [if_neg h]
theorem wI {kind th cap st co:Int} {nx ou:List Int} (h:1≤kind∧kind≤5∧1≤th∧th≤64∧0≤cap∧cap≤64) (h5:kind=5) (ht:cE st co nx ou=false):eD kind th cap st co nx ou=2:=by
 unfold eD;rw [if_pos h,if_pos h5,ht];rfl
theorem BZ {kind th cap st co:Int} {nx ou:List Int} (h:1≤kind∧kind≤5∧1≤th∧th≤64∧0≤cap∧cap≤64) (h5:kind=5) (ht:cE st co nx ou=true):eD kind th cap st co nx ou=0:=by
 unfold eD;rw [if_pos h,if_pos h5,ht];rfl
theorem oA {kind th cap st co:Int} {nx ou:List Int} (h:1≤kind∧kind≤5∧1≤th∧th≤64∧0≤cap∧cap≤64) (h5:kind≠5):eD kind th cap st co nx ou=0:=by
 unfold eD;rw [if_pos h,if_neg h5]
set_option maxHeartbeats 1000000 in
theorem jM (kind th cap st co:Int) (nx ou:List Int) (vn vo:Value) (w:World) (hn:Sl w vn (ints nx)) (ho:Sl w vo (ints ou)) :
  Calls Tryz.prog 76 #[.agg #[.int .i64 kind,.int .i64 th,.int .i64 cap,.int .i64 st,.int .i64 co,vn,vo]] w fun e w'=>e = .returned (.int .i64 (eD kind th cap st co nx ou))∧Below w.heap.size w w':=by
 by_cases c1:kind<1∨5<kind
 ·rw [mR (by omega)]
  go_enter Tryz.func76,Tryz.ntmps76
  go_wp2_with fail
  refine (jZ _ _ _ _ c1).mono ?_
  rintro e w' ⟨rfl,rfl⟩
  go_wp2
  go_ret
  exact ⟨rfl,(by repeat (first|exact Below.refl _ _|assumption|refine Below.drewN ?_ _|refine Below.alloc ?_ (by simp) _))⟩
 by_cases c2:th<1∨64<th
 ·rw [mR (by omega)]
  go_enter Tryz.func76,Tryz.ntmps76
  go_wp2_with fail
  refine (cI _ _ _ _ (by omega) (by omega)).mono ?_
  rintro e w' ⟨rfl,rfl⟩
  go_wp2_with fail
  refine (jZ _ _ _ _ c2).mono ?_
  rintro e w' ⟨rfl,rfl⟩
  go_wp2
  go_ret
  exact ⟨rfl,(by repeat (first|exact Below.refl _ _|assumption|refine Below.drewN ?_ _|refine Below.alloc ?_ (by simp) _))⟩
 by_cases c3:cap<0∨64<cap
 ·rw [mR (by omega)]
  go_enter Tryz.func76,Tryz.ntmps76
  go_wp2_with fail
  refine (cI _ _ _ _ (by omega) (by omega)).mono ?_
  rintro e w' ⟨rfl,rfl⟩
  go_wp2_with fail
  refine (cI _ _ _ _ (by omega) (by omega)).mono ?_
  rintro e w' ⟨rfl,rfl⟩
  go_wp2_with fail
  refine (jZ _ _ _ _ c3).mono ?_
  rintro e w' ⟨rfl,rfl⟩
  go_wp2
  go_ret
  exact ⟨rfl,(by repeat (first|exact Below.refl _ _|assumption|refine Below.drewN ?_ _|refine Below.alloc ?_ (by simp) _))⟩
 by_cases c5:kind=5
 ·have c5':(kind == 5)=true:=beq_iff_eq.2 c5
  have hbn:∀ o,Below w.heap.size w (w.alloc o):=fun o=>(Below.refl _ _).alloc (Nat.le_refl _) o
  cases ht:cE st co nx ou
  ·rw [wI (by omega) c5 ht]
   have HT:=aA ht
   clear ht c5
   go_enter Tryz.func76,Tryz.ntmps76
   go_wp2_with fail
   refine (cI _ _ _ _ (by omega) (by omega)).mono ?_
   rintro e w' ⟨rfl,rfl⟩
   go_wp2_with fail
   refine (cI _ _ _ _ (by omega) (by omega)).mono ?_
   rintro e w' ⟨rfl,rfl⟩
   go_wp2_with fail
   refine (cI _ _ _ _ (by omega) (by omega)).mono ?_
   rintro e w' ⟨rfl,rfl⟩
   go_wp2_with fail
   refine (uR st co nx ou _ _ _ (hn.below (hbn _)) (ho.below (hbn _))).mono ?_
   rintro e w1 ⟨rfl,dU⟩
   rw [HT.out]
   go_wp2
   go_ret
   exact ⟨rfl,(hbn _).trans (dU.mono (by simp))⟩
  ·rw [BZ (by omega) c5 ht]
   have HT:=aA ht
   clear ht c5
   go_enter Tryz.func76,Tryz.ntmps76
   go_wp2_with fail
   refine (cI _ _ _ _ (by omega) (by omega)).mono ?_
   rintro e w' ⟨rfl,rfl⟩
   go_wp2_with fail
   refine (cI _ _ _ _ (by omega) (by omega)).mono ?_
   rintro e w' ⟨rfl,rfl⟩
   go_wp2_with fail
   refine (cI _ _ _ _ (by omega) (by omega)).mono ?_
   rintro e w' ⟨rfl,rfl⟩
   go_wp2_with fail
   refine (uR st co nx ou _ _ _ (hn.below (hbn _)) (ho.below (hbn _))).mono ?_
   rintro e w1 ⟨rfl,dU⟩
   rw [HT.out]
   go_wp2
   go_ret
   exact ⟨rfl,(hbn _).trans (dU.mono (by simp))⟩
 ·rw [oA (by omega) c5]
  have c5':(kind == 5)=false:=beq_eq_false_iff_ne.2 c5
  clear c5
  go_enter Tryz.func76,Tryz.ntmps76
  go_wp2_with fail
  refine (cI _ _ _ _ (by omega) (by omega)).mono ?_
  rintro e w' ⟨rfl,rfl⟩
  go_wp2_with fail
  refine (cI _ _ _ _ (by omega) (by omega)).mono ?_
  rintro e w' ⟨rfl,rfl⟩
  go_wp2_with fail
  refine (cI _ _ _ _ (by omega) (by omega)).mono ?_
  rintro e w' ⟨rfl,rfl⟩
  go_wp2
  go_ret
  exact ⟨rfl,(by repeat (first|exact Below.refl _ _|assumption|refine Below.drewN ?_ _|refine Below.alloc ?_ (by simp) _))⟩
end Go.Proofs.YtefjhnhdagolhaaGreat
namespace Go.Proofs.YtefjhnhdagolhaaGreat
open Go.RowKit
set_option maxHeartbeats 400000 in
theorem JE (w:World):Calls Tryz.prog 183 #[.agg #[]] w fun e w'=>e = .returned (.pointer none)∧Below w.heap.size w w':=by
 go_enter Tryz.func183,Tryz.ntmps183
 go_wp2
 go_ret
 exact ⟨rfl,(by repeat (first|exact Below.refl _ _|assumption|refine Below.drewN ?_ _|refine Below.alloc ?_ (by simp) _))⟩
set_option maxHeartbeats 400000 in
theorem JF (w:World):Calls Tryz.prog 185 #[.agg #[]] w fun e w'=>e = .returned (.agg #[.pointer none,.pointer none])∧Below w.heap.size w w':=by
 go_enter Tryz.func185,Tryz.ntmps185
 go_wp2
 exact bodyPost_ret (v:=.agg #[.pointer none,.pointer none]) (by simp [results,Tryz.results185,go_sem]) rfl ⟨rfl,(by repeat (first|exact Below.refl _ _|assumption|refine Below.drewN ?_ _|refine Below.alloc ?_ (by simp) _))⟩
theorem CA (w:World):(method 553 143 (.agg #[]) "First").run Tryz.prog w = .ok (183,.agg #[]) w:=by kernel_rfl
theorem CB (w:World):(callFunc 183 #[.agg #[]]).run Tryz.prog w = .ok (.enter 183 #[.agg #[]]) w:=by kernel_rfl
theorem CC (w:World):(method 553 147 (.agg #[]) "First").run Tryz.prog w = .ok (185,.agg #[]) w:=by kernel_rfl
theorem CD (w:World):(callFunc 185 #[.agg #[]]).run Tryz.prog w = .ok (.enter 185 #[.agg #[]]) w:=by kernel_rfl
end Go.Proofs.YtefjhnhdagolhaaGreat
namespace Go.Proofs.YtefjhnhdagolhaaGreat
open Go.RowKit
def rep (zs:List Value) (m:Nat):List Value:=(List.range m).map fun i=>zs.getD (i % zs.length) undef
theorem zO (zs:List Value) (m:Nat) (h:0<zs.length):madeCells zs.toArray m=(rep zs m).toArray:=by
 apply Array.ext
 ·simp [madeCells,rep]
 ·intro i h1 h2
  have hlt:i % zs.length<zs.length:=Nat.mod_lt _ h
  simp [madeCells,rep,hlt]
theorem MS (z:Value) (m:Nat):rep [z] m=zeros z m:=by
 apply List.ext_getElem
 ·simp [rep,zeros]
 ·intro i h1 h2
  simp [rep,zeros,Nat.mod_one]
theorem AO (z:Value) (m:Nat):rep [z,z,z] m=zeros z m:=by
 apply List.ext_getElem
 ·simp [rep,zeros]
 ·intro i h1 h2
  have:i % 3=0∨i % 3=1∨i % 3=2:=by omega
  rcases this with h|h|h<;>simp [rep,zeros,h]
theorem eX {P:Program} (t e:TypeId) (z:Value) (size bytes:Nat) (zs:List Value) (ht:P.underlying t=some (.slice e)) (hinfo:(P.info? e).map (fun i=>(i.zero,i.size,i.bytes))=some (some z,size,bytes)) (hz1:z.cells=zs.toArray)
  (hs:0<zs.length) (k:Int) (n:Nat) (hk:k=n) (hbytes:bytes*n≤281474976710656) (h63:n≤9223372036854775807) (w:World) :
  (Instr.makeSlice t (.int .i64 k) (.int .i64 k)).run P w = .ok (.slice (some ⟨w.heap.size,0,none⟩) n n) (w.alloc (.cells (rep zs (n*size)).toArray e)):=by
 subst hk
 obtain ⟨i,hi,MT⟩:=Option.map_eq_some_iff.1 hinfo
 simp only [Prod.mk.injEq] at MT
 obtain ⟨hz,hsz,hb⟩:=MT
 have hb':(i.bytes:Int)*(n:Int)≤281474976710656:=by
  have h:((i.bytes*n:Nat):Int)≤281474976710656:=by rw [hb];omega
  rwa [Int.natCast_mul] at h
 rw [run_make (P:=P) w t e i z ht hi hz .i64 .i64 n n (by omega) (Int.le_refl _) hb' (by omega),Int.toNat_natCast,hsz,hz1,zO zs _ hs]
def eN (m rw k:Nat) (bW:Nat→Nat):List Value :=
 (List.range (2*m)).map fun i=>if i % 2=0 then (if i / 2<k then .slice (some ⟨bW (i / 2),0,none⟩) rw rw else .slice none 0 0) else .pointer none
theorem gV (m rw k:Nat) (bW:Nat→Nat):(eN m rw k bW).length=2*m:=by simp [eN]
theorem uS (m rw:Nat) (bW:Nat→Nat):rep [.slice none 0 0,.pointer none] (m*2)=eN m rw 0 bW:=by
 rw [Nat.mul_comm]
 apply List.ext_getElem
 ·simp [rep,eN]
 ·intro i h1 h2
  have:i % 2=0∨i % 2=1:=by omega
  rcases this with h|h<;>simp [rep,eN,h]
theorem wJ (m rw k g:Nat) (bW:Nat→Nat):(eN m rw k bW).set (2*k) (.slice (some ⟨g,0,none⟩) rw rw)=eN m rw (k+1) (fun r=>if r=k then g else bW r):=by
 apply List.ext_getElem
 ·simp [eN]
 ·intro i h1 h2
  rw [List.getElem_set]
  by_cases hi:2*k=i
  ·subst hi
   have h0:2*k % 2=0:=by omega
   have h4:2*k / 2=k:=by omega
   simp [eN,h0,h4]
  ·rw [if_neg hi]
   have:i % 2=0∨i % 2=1:=by omega
   rcases this with h|h
   ·have hne:¬i / 2=k:=by omega
    simp only [eN,List.getElem_map,List.getElem_range,h,if_true,if_neg hne]
    by_cases h5:i / 2<k
    ·rw [if_pos h5,if_pos (by omega)]
    ·rw [if_neg h5,if_neg (by omega)]
   ·simp [eN,h]
theorem wK {m rw k:Nat} {bW:Nat→Nat} {j:Nat} (hj:j<m):(eN m rw k bW)[2*j+1]?=some (.pointer none):=by
 have h0:(2*j+1) % 2=1:=by omega
 rw [List.getElem?_eq_getElem (by rw [gV];omega)]
 simp [eN,h0]
theorem Row.drew {w:World} {g:Nat} {t:TypeId} {xs:List Value} (h:Row w g t xs):Row w.drew g t xs:=h
theorem Below.cJ {B:Nat} {w w':World} (h:Below B w.drew w'):Below B w w':=⟨h.os,h.tape,h.output,h.size,h.block⟩
theorem aM {P:Program} {op:Oper} {a:Act} {w:World} {K:Act→World→Prop} {Q:Exit→Act→World→Prop} (ty:TypeId) (x y:Operand) (ho:op.op = .store ty x y)
  (b o:Nat) (v:Value) (hx:a.eval x = .pointer (some ⟨b,o,none⟩)) (hy:a.eval y=v) (hv:v.cells=#[v]) (h1:v.oneCell'=true)
  (ht:w.there b o 1) (hi:(P.info? ty).map (·.size)=some 1) (h:K (a.put op.dst undef) (w.setCell ⟨b,o,none⟩ v)):op.wp P a w K Q:=by
 have hst:=run_storeCells_cells (P:=P) b o [v] 0 w (fun j hj=>by simpa using (ht j (by simpa using hj)).1) (fun j hj=>by simpa using (ht j (by simpa using hj)).2) (fun u hu=>by rw [List.mem_singleton.1 hu];exact h1)
 obtain ⟨i,hii,his⟩:=Option.map_eq_some_iff.1 hi
 unfold Oper.wp execOp
 simp [ho,hx,hy,Instr.storeAt,Instr.sureAddr,storeVar,hv,sizeOf,typeInfo,hii,his,hst,World.setCells]
 exact h
theorem aQ {w:World} {b o n:Nat} (h:w.there b o n) (a:Addr) (ha:a.spot=none) (v:Value):(w.setCell a v).there b o n:=by
 obtain ⟨ab,ao,sp⟩:=a
 cases ha
 exact World.there_setCells h ab ao [v]
theorem kA {P:Program} {op:Oper} {a:Act} {w w':World} {K:Act→World→Prop} {Q:Exit→Act→World→Prop} {v:Value} (h:(execOp a.eval op).run P w = .ok (.value v) w') (hk:K (a.put op.dst v) w'):op.wp P a w K Q:=by
 unfold Oper.wp;rw [h];exact hk
theorem bZ {P:Program} {op:Oper} {a:Act} {w:World} {K:Act→World→Prop} {Q:Exit→Act→World→Prop} (ty:TypeId) (x:Operand) (ho:op.op = .load ty x)
  (b o:Nat) (v:Value) (hx:a.eval x = .pointer (some ⟨b,o,none⟩)) (aEP:(isAgg ty).run P w = .ok false w) (hc:w.cell? ⟨b,o,none⟩=some v) (h:K (a.put op.dst v) w):op.wp P a w K Q:=by
 unfold Oper.wp execOp
 simp [ho,hx,Instr.loadAt,Instr.sureAddr,loadVar,aEP,hc]
 exact h
end Go.Proofs.YtefjhnhdagolhaaGreat
