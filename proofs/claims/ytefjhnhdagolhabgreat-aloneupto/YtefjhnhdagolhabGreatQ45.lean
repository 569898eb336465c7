import Derived.Test.YtefjhnhdagolhabGreatQ35
import Derived.Test.YtefjhnhdagolhabGreatQ40
import Derived.Test.YtefjhnhdagolhabGreatQ43
import Derived.Test.YtefjhnhdagolhabGreatQ36
import Derived.Test.YtefjhnhdagolhabGreatQ44
namespace Go.Proofs.YtefjhnhdagolhabGreat
open Go.RowKit
def hdA (kd n:Int):List Value:=[.int .i64 kd,.int .i64 0,.int .i64 0,.slice none 0 0,.slice none 0 0,.int .i64 n]
structure JF {σ:Type} (P:M.Plain σ) (kd:Int) (ok:σ→Prop) (Ho:Nat→Value→σ→World→Prop):Prop where
 new:∀ b w,Row w b 35 (hdA kd 0++[.slice none 0 0])→Ho b (.slice none 0 0) P.first w
 lt:∀ b vh s w,Ho b vh s w→∀ k,k=b∨vh.ownBlock=some k→k<w.heap.size
 stay:∀ b vh s w w',Ho b vh s w→(∀ k,k=b∨vh.ownBlock=some k→w'.heap[k]?=w.heap[k]?)→Ho b vh s w'
 does:∀ b vh s w (op:M.Op),Ho b vh s w→ok s→Calls Tryz.prog 8 #[.pointer (some ⟨b,0,none⟩),.agg #[.int .i64 op.c,.int .i64 op.a,.int .i64 op.b]] w fun e w'=>e = .returned (.agg #[.int .i64 (P.apply s op).2.s,.int .i64 (P.apply s op).2.v])∧∃ vG,Ho b vG (P.apply s op).1 w'∧(∀ k,vG.ownBlock=some k→vh.ownBlock=some k∨w.heap.size≤k)∧Fr (fun k=>k=b∨vh.ownBlock=some k) w w'
def HoC (b:Nat) (vh:Value) (s:Int) (w:World):Prop:=vh = .slice none 0 0∧Row w b 35 (hdA 1 s++[.slice none 0 0])
theorem WH:JF oP 1 (fun _=>True) HoC where
 new _ _ h:=⟨rfl,h⟩
 lt b vh s w h k hk:=by
  obtain ⟨rfl,h⟩:=h
  rcases hk with rfl|c
  ·exact h.lt
  ·cases c
 stay b vh s w w' h hk:=⟨h.1,h.2.of_block (hk b (.inl rfl))⟩
 does b vh s w op h _:=by
  obtain ⟨rfl,h⟩:=h
  have e:oP.apply s op=if op.c=1 then (wrap64 (s+op.a),⟨1,wrap64 (s+op.a)⟩) else if op.c=2 then (s,⟨1,s⟩) else (s,⟨4,0⟩):=rfl
  have hfr:∀ {w':World},Fr (fun k=>k=b) w w'→Fr (fun k=>k=b∨(Value.slice none 0 0).ownBlock=some k) w w':=fun h=>⟨h.os,h.tape,h.output,h.size,fun k hk hn=>h.block k hk (fun q=>hn (.inl q))⟩
  by_cases h1:op.c=1
  ·rw [e,if_pos h1,h1]
   exact (RL h).mono fun _ _ ⟨q1,q2,q3⟩=>⟨q1,_,⟨rfl,q2⟩,fun _ c=>(by cases c),hfr q3⟩
  ·by_cases h2:op.c=2
   ·rw [e,if_neg h1,if_pos h2,h2]
    exact (RM h).mono fun _ _ ⟨q1,q2⟩=>⟨q1,_,⟨rfl,Row.old h q2⟩,fun _ c=>(by cases c),Fr.cQ q2⟩
   ·rw [e,if_neg h1,if_neg h2]
    exact (RN op.c h1 h2 h).mono fun _ _ ⟨q1,q2⟩=>⟨q1,_,⟨rfl,Row.old h q2⟩,fun _ c=>(by cases c),Fr.cQ q2⟩
def PW (kd:Int) (b:Nat) (vh:Value) (l:List Int) (w:World):Prop:=Row w b 35 (hdA kd 0++[vh])∧uW w vh l∧vh.ownBlock≠some b
theorem PW.stay {kd:Int} {b:Nat} {vh:Value} {l:List Int} {w w':World} (h:PW kd b vh l w) (hk:∀ k,k=b∨vh.ownBlock=some k→w'.heap[k]?=w.heap[k]?):PW kd b vh l w':=⟨h.1.of_block (hk b (.inl rfl)),h.2.1.block fun k e=>hk k (.inr e),h.2.2⟩
theorem PW.lt {kd:Int} {b:Nat} {vh:Value} {l:List Int} {w:World} (h:PW kd b vh l w) (k:Nat) (hk:k=b∨vh.ownBlock=some k):k<w.heap.size:=by
 rcases hk with rfl|c
 ·exact h.1.lt
 ·exact h.2.1.lt k c
theorem kB.ho {kd:Int} {vh:Value} {b:Nat} {l':List Int} {w w':World} (h:kB w b (hdA kd 0) vh l' w'):∃ vG,PW kd b vG l' w'∧(∀ k,vG.ownBlock=some k→vh.ownBlock=some k∨w.heap.size≤k)∧Fr (fun k=>k=b∨vh.ownBlock=some k) w w':=by
 obtain ⟨vG,m1,m2,m3,m4⟩:=h
 exact ⟨vG,⟨m1,m2,fun e=>(m3 b e).1 rfl⟩,fun k e=>(m3 k e).2,m4⟩
theorem aBq:JF kA 2 (fun s=>s.length≤1000000000000) (fun b vh s w=>PW 2 b vh s.reverse w) where
 new _ _ h:=⟨h,.inl ⟨rfl,rfl⟩,fun e=>by cases e⟩
 lt _ _ _ _ h:=PW.lt h
 stay _ _ _ _ _ h hk:=PW.stay h hk
 does b vh s w op h hz:=by
  obtain ⟨zN,hM,hnb⟩:=h
  have hlr:s.reverse.length=s.length:=List.length_reverse
  have hz:s.length≤1000000000000:=hz
  obtain ⟨c,a,b2⟩:=op
  by_cases k1:c=1
  ·subst k1
   refine (fE (l':=s.reverse++[a]) 1 1 ((s.reverse.length:Int)+1) (.inl rfl) zN (fun k e=>hM.lt k e) fun W hW=>KY (zN.old hW) (hM.later hW) (by omega) hnb).mono ?_
   rintro e w' ⟨rfl,q⟩
   refine ⟨?_,?_⟩
   ·rw [hlr];rfl
   ·have e:(kA.apply s ⟨1,a,b2⟩).1.reverse=s.reverse++[a]:=by show (a::s).reverse=_;simp
    rw [e];exact q.ho
  ·by_cases k2:c=2
   ·subst k2
    cases s with
    |nil =>
     refine (fE (l':=[]) 2 2 0 (.inl rfl) zN (fun k e=>hM.lt k e) fun W hW=>(KZ (.inl rfl) (zN.old hW) (hM.later hW)).mono fun e w' q=>⟨q.1,kB.same zN hM hnb hW q.2⟩).mono ?_
     rintro e w' ⟨rfl,q⟩
     exact ⟨rfl,q.ho⟩
    |cons x s =>
     have hM':uW w vh (s.reverse++[x]):=by rw [←List.reverse_cons];exact hM
     simp only [List.length_cons] at hz
     refine (fE (l':=s.reverse) 2 1 x (.inl rfl) zN (fun k e=>hM.lt k e) fun W hW=>heapPop (zN.old hW) (hM'.later hW) (by rw [List.length_reverse];omega) hnb).mono ?_
     rintro e w' ⟨rfl,q⟩
     exact ⟨rfl,q.ho⟩
   ·have e:kA.apply s ⟨c,a,b2⟩=(s,⟨4,0⟩):=by
     show (if c=1 then _ else if c=2 then _ else _)=_
     rw [if_neg k1,if_neg k2]
    rw [e]
    refine (fE (l':=s.reverse) c 4 0 (.inl rfl) zN (fun k e=>hM.lt k e) fun W hW=>(yY c k1 k2 (zN.old hW) (hM.later hW)).mono fun e w' q=>⟨q.1,kB.same zN hM hnb hW q.2⟩).mono ?_
    rintro e w' ⟨rfl,q⟩
    exact ⟨rfl,q.ho⟩
theorem aBr:JF lV 3 (fun s=>s.length≤1000000000000) (fun b vh s w=>PW 3 b vh s w) where
 new _ _ h:=⟨h,.inl ⟨rfl,rfl⟩,fun e=>by cases e⟩
 lt _ _ _ _ h:=PW.lt h
 stay _ _ _ _ _ h hk:=PW.stay h hk
 does b vh s w op h hz:=by
  obtain ⟨zN,hM,hnb⟩:=h
  have hz:s.length≤1000000000000:=hz
  obtain ⟨c,a,b2⟩:=op
  by_cases k1:c=1
  ·subst k1
   refine (fE (l':=s++[a]) 1 1 ((s.length:Int)+1) (.inr rfl) zN (fun k e=>hM.lt k e) fun W hW=>KY (zN.old hW) (hM.later hW) (by omega) hnb).mono ?_
   rintro e w' ⟨rfl,q⟩
   exact ⟨rfl,q.ho⟩
  ·by_cases k2:c=2
   ·subst k2
    cases s with
    |nil =>
     refine (fE (l':=[]) 2 2 0 (.inr rfl) zN (fun k e=>hM.lt k e) fun W hW=>(KZ (.inr rfl) (zN.old hW) (hM.later hW)).mono fun e w' q=>⟨q.1,kB.same zN hM hnb hW q.2⟩).mono ?_
     rintro e w' ⟨rfl,q⟩
     exact ⟨rfl,q.ho⟩
    |cons x s =>
     simp only [List.length_cons] at hz
     refine (fE (l':=s) 2 1 x (.inr rfl) zN (fun k e=>hM.lt k e) fun W hW=>VX (zN.old hW) (hM.later hW) (by omega) hnb).mono ?_
     rintro e w' ⟨rfl,q⟩
     exact ⟨rfl,q.ho⟩
   ·have e:lV.apply s ⟨c,a,b2⟩=(s,⟨4,0⟩):=by
     show (if c=1 then _ else if c=2 then _ else _)=_
     rw [if_neg k1,if_neg k2]
    rw [e]
    refine (fE (l':=s) c 4 0 (.inr rfl) zN (fun k e=>hM.lt k e) fun W hW=>(yY c k1 k2 (zN.old hW) (hM.later hW)).mono fun e w' q=>⟨q.1,kB.same zN hM hnb hW q.2⟩).mono ?_
    rintro e w' ⟨rfl,q⟩
    exact ⟨rfl,q.ho⟩
def HoM (b:Nat) (vh:Value) (s:gJ) (w:World):Prop:=rF s∧∃ l:gJ,l.Perm s∧Row w b 35 (hdA 4 0++[vh])∧w.ownsRow (b+1) 3 1 vh (flat l).length (ints (flat l))
theorem mapA:JF rG 4 (fun s=>s.length≤500000000000) HoM where
 new _ _ h:=⟨trivial,[],List.Perm.refl _,h,World.ownsRow_nil _ _ _ _⟩
 lt b vh s w h k hk:=by
  obtain ⟨h1,l,h2,h3,h4⟩:=h
  rcases hk with rfl|c
  ·exact h3.lt
  ·exact (h4.lt k c).2
 stay b vh s w w' h hk:=by
  obtain ⟨h1,l,h2,h3,h4⟩:=h
  exact ⟨h1,l,h2,h3.of_block (hk b (.inl rfl)),kO h4 fun k e=>hk k (.inr e)⟩
 does b vh s w op h hz:=by
  obtain ⟨hA,l,hp,zN,ho⟩:=h
  have hd:=PE hA
  have UG:=hp.length_eq
  have hz:s.length≤500000000000:=hz
  obtain ⟨c,a,b2⟩:=op
  have e:rG.apply s ⟨c,a,b2⟩=(if c=1 then qL s a b2 else if c=3 then jA s a else s,pO l c a):=by
   show (if c=1 then _ else if c=2 then _ else if c=3 then _ else _)=_
   unfold pO
   rw [QO hp hd]
   by_cases c1:c=1
   ·rw [if_pos c1,if_pos c1,if_pos (by omega)]
   ·by_cases c2:c=2
    ·rw [if_neg c1,if_pos c2,if_neg c1,if_neg (by omega),if_pos (by omega)]
    ·by_cases c3:c=3
     ·rw [if_neg c1,if_neg c2,if_pos c3,if_neg c1,if_pos c3,if_pos (by omega)]
     ·rw [if_neg c1,if_neg c2,if_neg c3,if_neg c1,if_neg c3,if_neg (by omega)]
  rw [e]
  have hpm:(DJ l c a b2).Perm (if c=1 then qL s a b2 else if c=3 then jA s a else s):=by
   unfold DJ
   split
   ·exact UE hp _ _
   ·split
    ·exact UF hp _
    ·exact hp
  have has:rF (if c=1 then qL s a b2 else if c=3 then jA s a else s):=by
   split
   ·exact OY hA _ _
   ·split
    ·exact OZ hA _
    ·exact hA
  refine (IQ (B:=b+1) (l:=l) c (pO l c a).s (pO l c a).v zN (fun k e=>(ho.lt k e).2) fun W hW=>LB (zN.old hW) (oL ho hW) (KG hp hd) (by omega) (Nat.le_trans zN.lt hW.size) (Nat.lt_succ_self b)).mono ?_
  rintro e w' ⟨rfl,l',vG,m0,m1,m2,m3,m4⟩
  exact ⟨rfl,vG,⟨has,l',m0.trans hpm,m1,m2⟩,m3,m4⟩
def yA {σ:Type} (kd:Int) (tell:σ→List Int) (Ho:Nat→Value→σ→World→Prop):Prop:=∀ b vh s w,Ho b vh s w →
 (kd=1∧∃ n,tell s=[n]∧w.cell? ⟨b,5,none⟩=some (.int .i64 n)) ∨
 (kd=2∧w.cell? ⟨b,6,none⟩=some vh∧uW w vh (tell s).reverse) ∨
 (kd=3∧w.cell? ⟨b,6,none⟩=some vh∧uW w vh (tell s)) ∨
 (kd=4∧∃ z l:gJ,tell s=flat z∧rF z∧l.Perm z∧w.cell? ⟨b,6,none⟩=some vh∧uW w vh (flat l))
theorem WI:yA 1 (fun s=>[s]) HoC:=fun _ _ s _ h=>.inl ⟨rfl,s,rfl,h.2.cell_of (i:=5) rfl⟩
theorem aBs:yA 2 (fun s=>s) (fun b vh s w=>PW 2 b vh s.reverse w):=fun _ _ _ _ ⟨h1,h2,_⟩=>.inr (.inl ⟨rfl,h1.cell_of (i:=6) rfl,h2⟩)
theorem aBt:yA 3 (fun s=>s) (fun b vh s w=>PW 3 b vh s w):=fun _ _ _ _ ⟨h1,h2,_⟩=>.inr (.inr (.inl ⟨rfl,h1.cell_of (i:=6) rfl,h2⟩))
theorem aGG:yA 4 flat HoM:=fun _ _ s _ ⟨h1,l,h2,h3,h4⟩=>.inr (.inr (.inr ⟨rfl,s,l,rfl,h1,h2,h3.cell_of (i:=6) rfl,uW.IJ h4⟩))
attribute [local go_sem ↓] Go.wp_at_zero Go.wp_at_succ
section
variable {n cap:Nat} {w w':World} {b:Nat}
theorem EI (hn:1≤n) (tY:n≤64) (hc:cap≤64) (h:int.dL w n (cap:Int) 62 (.agg #[]) b w'):vD oP (fun s=>[s]) n cap w b w' :=
 int.DF (oT:=62) (fA:=273) (fT:=274) hn tY hc ⟨w,fun _=>False,wZ,.agg #[],.agg #[],.agg #[],Below.refl _ _,h,fun _ hk=>hk.elim,fun _ _=>rfl,RJ,RX⟩
theorem LI (hn:1≤n) (tY:n≤64) (hc:cap≤64) (h:list.dL w n (cap:Int) 65 (.agg #[]) b w'):vD kA (fun s=>s) n cap w b w' :=
 list.DF (oT:=65) (fA:=277) (fT:=278) hn tY hc ⟨w,fun _=>False,OD,.agg #[],.agg #[],.agg #[],Below.refl _ _,h,fun _ hk=>hk.elim,fun _ _=>⟨none,rfl,rfl⟩,ZD,ZE⟩
theorem LJ (hn:1≤n) (tY:n≤64) (hc:cap≤64) (h:row.dL w n (cap:Int) 69 (.agg #[]) b w'):vD lV (fun s=>s) n cap w b w' :=
 row.DF (oT:=69) (fA:=282) (fT:=283) hn tY hc ⟨w,fun _=>False,OE,.agg #[],.agg #[],.agg #[],Below.refl _ _,h,fun _ hk=>hk.elim,fun _ _=>⟨none,none,rfl,[],[],rfl,rfl,rfl⟩,ZF,ZG⟩
theorem RZ (hn:1≤n) (tY:n≤64) (hc:cap≤64) (h:tree.dL w n (cap:Int) 72 (.agg #[]) b w'):vD rG flat n cap w b w' :=
 tree.DF (oT:=72) (fA:=287) (fT:=288) hn tY hc ⟨w,fun _=>False,aBj,.agg #[],.agg #[],.agg #[],Below.refl _ _,h,fun _ hk=>hk.elim,fun _ _=>⟨none,0,rfl,Tr.nil,trivial⟩,aDF,aDG⟩
end
theorem LK (kind st co:Int) (nx ou:List Int) (vn vo:Value) (N C:Nat) (h1:1≤N) (tY:N≤64) (hC:C≤64) (w:World) (hn:Sl w vn (ints nx)) (ho:Sl w vo (ints ou)) (Q:Prop)
  (hQ:∀ (σ:Type) (P:M.Plain σ) (tell:σ→List Int) (ok:σ→Prop) (Ho:Nat→Value→σ→World→Prop),JF P (SQ false kind) ok Ho→yA (SQ false kind) tell Ho→yZ P ok→(∀ W,Below w.heap.size w W→Calls Tryz.prog 6 #[.agg #[.int .i64 (SQ false kind),.int .i64 (N:Int),.int .i64 (C:Int),.int .i64 st,.int .i64 co,vn,vo]] W fun e w'=>∃ b,e = .returned (.tuple #[.pointer (some ⟨b,0,none⟩),.int .i64 0])∧vD P tell N C W b w')→Q):Q:=by
 obtain ⟨r0,r1⟩:=jB kind 4 (by decide)
 have hk:SQ false kind=1+pk kind 4:=rfl
 rcases (by omega:SQ false kind=1∨SQ false kind=2∨SQ false kind=3∨SQ false kind=4) with e|e|e|e
 ·exact hQ _ oP _ _ _ (by rw [e];exact WH) (by rw [e];exact WI) EH (fun W hW=>by rw [e];exact (XU N _ st co nx ou vn vo W (hn.below hW) (ho.below hW) h1 tY (by omega) (by omega)).mono fun e w' ⟨b,q1,q2⟩=>⟨b,q1,EI h1 tY hC q2⟩)
 ·exact hQ _ kA _ _ _ (by rw [e];exact aBq) (by rw [e];exact aBs) LG (fun W hW=>by rw [e];exact (XV N _ st co nx ou vn vo W (hn.below hW) (ho.below hW) h1 tY (by omega) (by omega)).mono fun e w' ⟨b,q1,q2⟩=>⟨b,q1,LI h1 tY hC q2⟩)
 ·exact hQ _ lV _ _ _ (by rw [e];exact aBr) (by rw [e];exact aBt) LH (fun W hW=>by rw [e];exact (QK N _ st co nx ou vn vo W (hn.below hW) (ho.below hW) h1 tY (by omega) (by omega)).mono fun e w' ⟨b,q1,q2⟩=>⟨b,q1,LJ h1 tY hC q2⟩)
 ·exact hQ _ rG _ _ _ (by rw [e];exact mapA) (by rw [e];exact aGG) RY (fun W hW=>by rw [e];exact (TY N _ st co nx ou vn vo W (hn.below hW) (ho.below hW) h1 tY (by omega) (by omega)).mono fun e w' ⟨b,q1,q2⟩=>⟨b,q1,RZ h1 tY hC q2⟩)
end Go.Proofs.YtefjhnhdagolhabGreat
namespace Go.Proofs.YtefjhnhdagolhabGreat
open Go.RowKit
open M (aT)
section
variable {σ:Type} {P:M.Plain σ} {tell:σ→List Int} {D:DL} {X:(Nat→Prop)→aT→World→Prop} {tE:TypeId} {bN FX FY FZ bX bC bH k:Nat} {w w0 w' w2:World} {ok:σ→Prop} {Ho:Nat→Value→σ→World→Prop} {kd:Int} {cs:List Value} {S:Nat→Prop} {Y Y':aT} {vh vG:Value} {s s':σ}
theorem zH.aBu {S:Nat→Prop} {Y':aT} {w1 w2:World} (xo:EF P tell D tE bN X FX FY FZ) (h:zH X S w Y' w1) (hb:Below w1.heap.size w1 w2):zH X S w Y' w2 :=
 ⟨xo.stay _ _ _ _ _ h.x (fun k hk=>hb.block k (xo.lt _ _ _ h.x k hk)) (fun k hk=>by
  rcases hk with c|c
  ·exact .inl c
  ·exact .inr ⟨c.1,Nat.lt_of_lt_of_le c.2 hb.size⟩) (fun k hk=>by
  rcases hk with c|c
  ·exact Nat.lt_of_lt_of_le (xo.lt _ _ _ h.x k (.inl c)) hb.size
  ·exact c.2),h.fr.trans (Fr.cQ hb)⟩
theorem zH.ZX {S:Nat→Prop} {Y':aT} {Wa w5:World} (xo:EF P tell D tE bN X FX FY FZ) (hb:Below w.heap.size w Wa) (hS:∀ k,S k→k<w.heap.size) (hz:w.heap.size<Wa.heap.size) (h:zH X S Wa Y' w5) (vs:List Value):zH X S w Y' (w5.setCells w.heap.size 0 vs):=by
 have hs:=h.fr.size
 refine ⟨xo.stay _ _ _ _ _ h.x (fun k hk=>fI vs 0 w5 k ?_) (fun k hk=>?_) (fun k hk=>?_),?_⟩
 ·rintro rfl
  rcases hk with c|c
  ·have:=hS _ c;omega
  ·omega
 ·rcases hk with c|c
  ·exact .inl c
  ·exact .inr ⟨by omega,by rw [kC];exact c.2⟩
 ·rw [kC]
  rcases hk with c|c
  ·have:=hS k c;omega
  ·have:=c.2;rw [kC] at this;exact this
 ·obtain ⟨q1,q2,q3⟩:=vB (b:=w.heap.size) vs 0 w5
  refine ⟨q1.trans (h.fr.os.trans hb.os),q2.trans (h.fr.tape.trans hb.tape),q3.trans (h.fr.output.trans hb.output),by rw [kC];omega,fun k hk hn=>?_⟩
  rw [fI vs 0 w5 k (by omega),h.fr.block k (by omega) hn]
  exact hb.block k hk
theorem zH.ZY {S:Nat→Prop} {Y':aT} {w5:World} (xo:EF P tell D tE bN X FX FY FZ) (h:zH X S w Y' w5) (ob:Obj) (vs:List Value):zH X S w Y' ((w5.alloc ob).setCells w5.heap.size 0 vs):=h.aBu xo (dS (Nat.le_refl _) _ _ _ (aB _ _))
theorem zH.PX {w5:World} (h:zH X S w.drew Y' w5):zH X S w Y' w5:=⟨h.x,⟨h.fr.os,h.fr.tape,h.fr.output,h.fr.size,h.fr.block⟩⟩
structure AW (X:(Nat→Prop)→aT→World→Prop) (Ho:Nat→Value→σ→World→Prop) (tE:TypeId) (bN bX bC bH:Nat) (cs:List Value) (w0:World) (S:Nat→Prop) (Y:aT) (vh:Value) (s:σ) (w:World):Prop where
 x:X S Y w
 h:Ho bH vh s w
 rx:Row w bX 44 [.iface tE (.pointer (some ⟨bN,0,none⟩))]
 rc:Row w bC 26 cs
 ds:∀ k,S k→k≠bX∧k≠bC∧k≠bH∧vh.ownBlock≠some k∧w0.heap.size≤k
 dv:∀ k,vh.ownBlock=some k→k≠bX∧k≠bC∧k≠bH∧w0.heap.size≤k
 db:bH≠bX∧bH≠bC∧w0.heap.size≤bX∧w0.heap.size≤bC∧w0.heap.size≤bH
 bl:Below w0.heap.size w0 w
theorem AW.later (xo:EF P tell D tE bN X FX FY FZ) (ho:JF P kd ok Ho) (h:AW X Ho tE bN bX bC bH cs w0 S Y vh s w) (hb:Below w.heap.size w w'):AW X Ho tE bN bX bC bH cs w0 S Y vh s w' where
 x:=xo.stay _ _ _ _ _ h.x (fun k hk=>hb.block k (xo.lt _ _ _ h.x k hk)) (fun _ q=>q) (fun k hk=>Nat.lt_of_lt_of_le (xo.lt _ _ _ h.x k hk) hb.size)
 h:=ho.stay _ _ _ _ _ h.h (fun k hk=>hb.block k (ho.lt _ _ _ _ h.h k hk))
 rx:=h.rx.old hb
 rc:=h.rc.old hb
 ds:=h.ds
 dv:=h.dv
 db:=h.db
 bl:=Below.next h.bl hb h.bl.size
theorem AW.xgo (ho:JF P kd ok Ho) (h:AW X Ho tE bN bX bC bH cs w0 S Y vh s w) (g:zH X S w Y' w'):AW X Ho tE bN bX bC bH cs w0 (Grow S w w') Y' vh s w':=by
 have hz:=h.bl.size
 have lH:=ho.lt _ _ _ _ h.h
 have n1:¬S bX:=fun c=>(h.ds _ c).1 rfl
 have n2:¬S bC:=fun c=>(h.ds _ c).2.1 rfl
 have n3:¬S bH:=fun c=>(h.ds _ c).2.2.1 rfl
 refine ⟨g.x,ho.stay _ _ _ _ _ h.h (fun k hk=>g.fr.block k (lH k hk) ?_),h.rx.of_block (g.fr.block _ h.rx.lt n1),h.rc.of_block (g.fr.block _ h.rc.lt n2),?_,h.dv,h.db,⟨g.fr.os.trans h.bl.os,g.fr.tape.trans h.bl.tape,g.fr.output.trans h.bl.output,Nat.le_trans hz g.fr.size,fun k hk=>(g.fr.block k (by omega) (fun c=>by have:=(h.ds k c).2.2.2.2;omega)).trans (h.bl.block k hk)⟩⟩
 ·rcases hk with rfl|c
  ·exact n3
  ·exact fun q=>(h.ds k q).2.2.2.1 c
 ·rintro k (c|c)
  ·exact h.ds k c
  ·have l1:=h.rx.lt
   have l2:=h.rc.lt
   have l3:=lH bH (.inl rfl)
   exact ⟨by omega,by omega,by omega,fun q=>by have:=lH k (.inr q);omega,by omega⟩
theorem AW.hgo (xo:EF P tell D tE bN X FX FY FZ) (ho:JF P kd ok Ho) (h:AW X Ho tE bN bX bC bH cs w0 S Y vh s w) (g:Ho bH vG s' w') (hv:∀ k,vG.ownBlock=some k→vh.ownBlock=some k∨w.heap.size≤k) (hf:Fr (fun k=>k=bH∨vh.ownBlock=some k) w w'):AW X Ho tE bN bX bC bH cs w0 S Y vG s' w':=by
 have hz:=h.bl.size
 have hS:=xo.lt _ _ _ h.x
 have l1:=h.rx.lt
 have l2:=h.rc.lt
 have l3:=ho.lt _ _ _ _ h.h bH (.inl rfl)
 have nk:∀ k,S k→¬(k=bH∨vh.ownBlock=some k):=fun k hk c=>by
  rcases c with c|c
  ·exact (h.ds k hk).2.2.1 c
  ·exact (h.ds k hk).2.2.2.1 c
 have nX:¬(bX=bH∨vh.ownBlock=some bX):=fun c=>by
  rcases c with c|c
  ·exact h.db.1 c.symm
  ·exact (h.dv _ c).1 rfl
 have nC:¬(bC=bH∨vh.ownBlock=some bC):=fun c=>by
  rcases c with c|c
  ·exact h.db.2.1 c.symm
  ·exact (h.dv _ c).2.1 rfl
 refine ⟨xo.stay _ _ _ _ _ h.x (fun k hk=>hf.block k (hS k hk) (nk k hk)) (fun _ q=>q) (fun k hk=>Nat.lt_of_lt_of_le (hS k hk) hf.size),g,h.rx.of_block (hf.block _ l1 nX),h.rc.of_block (hf.block _ l2 nC),fun k hk=>?_,fun k hk=>?_,h.db,⟨hf.os.trans h.bl.os,hf.tape.trans h.bl.tape,hf.output.trans h.bl.output,Nat.le_trans hz hf.size,fun k hk=>(hf.block k (by omega) (fun c=>?_)).trans (h.bl.block k hk)⟩⟩
 ·obtain ⟨d1,d2,d3,d4,d5⟩:=h.ds k hk
  refine ⟨d1,d2,d3,fun c=>?_,d5⟩
  rcases hv k c with q|q
  ·exact d4 q
  ·have:=hS k hk;omega
 ·rcases hv k hk with q|q
  ·exact h.dv k q
  ·exact ⟨by omega,by omega,by omega,by omega⟩
 ·rcases c with c|c
  ·have:=h.db.2.2.2.2;omega
  ·have:=(h.dv k c).2.2.2;omega
structure AY (P:M.Plain σ) (D:DL) (k:Nat) (Y:aT):Prop where
 yi:M.YI P D.n D.cap Y
 id:M.Idle D.n Y
 bo:M.YS Y.bs
 bl:Y.bs.length=k
 ol:Y.order.length=k
 lim:zS D k Y
theorem AY.new (P:M.Plain σ) (D:DL):AY P D 0 M.Y0:=⟨M.YI.new P D.n D.cap,fun _ _=>rfl,fun _ hb=>absurd hb List.not_mem_nil,rfl,rfl,fun _ _=>Nat.le_refl _,Nat.le_refl _⟩
theorem AY.next (h:AY P D k Y) (hn:0<D.n) (tY:D.n≤64) (hc:D.cap≤64) {t:Nat} (ht:t<D.n) (o:M.Op) :
  AY P D (k+1) (M.fin D.n D.cap t (M.aY Y t o))∧(tF P (M.fin D.n D.cap t (M.aY Y t o)) (M.fin D.n D.cap t (M.aY Y t o)).order.length).st=(P.apply (tF P Y Y.order.length).st o).1∧pM P (M.fin D.n D.cap t (M.aY Y t o)) t=(P.apply (tF P Y Y.order.length).st o).2∧∃ m,(M.fin D.n D.cap t (M.aY Y t o)).order[k]?=some m∧m.b=k+1∧m.t=t:=by
 obtain ⟨a1,a2,a3,a4,a5,a6⟩:=M.VQ hn tY hc ht h.yi h.bo h.id o
 generalize M.fin D.n D.cap t (M.aY Y t o)=Y' at *
 obtain ⟨r1,r2⟩:=M.ID h.yi ht h.id a4 a5 a6
 obtain ⟨o1,m,o2,o3,o4⟩:=M.KU a4
 have hol:Y'.order.length=k+1:=by rw [o1,h.ol]
 have es:∀ Z:aT,(tF P Z Z.order.length).st=(M.replay P Z.op Z.bs).st:=fun Z=>by rw [EW,KJ];rfl
 refine ⟨⟨a1,a3,a2,by rw [a4,List.length_append,h.bl];rfl,hol,fun q hq=>?_,by rw [a4,List.length_append,h.bl];exact Nat.le_refl _⟩,?_,?_,m,by rw [←h.ol];exact o2,by rw [o3,h.bl],o4⟩
 ·by_cases c:q=t
  ·rw [c,a6,List.length_append]
   have:=h.lim.1 t ht
   simp only [List.length_singleton]
   omega
  ·rw [a5 q c]
   exact Nat.le_succ_of_le (h.lim.1 q hq)
 ·rw [es,es];exact r1
 ·rw [es];exact r2
theorem AY.YC (h:AY P D k Y) {t:Nat} (ht:t<D.n) (o:M.Op):Go.Proofs.YtefjhnhdagolhabGreat.YC P D.n D.cap Y (t:Int) o=((pM P (M.fin D.n D.cap t (M.aY Y t o)) t).s,(pM P (M.fin D.n D.cap t (M.aY Y t o)) t).v,0)∧Go.Proofs.YtefjhnhdagolhabGreat.doZ D.n D.cap Y (t:Int) o=M.fin D.n D.cap t (M.aY Y t o):=by
 have hp:=h.id t ht
 have hr:ZK D.n (t:Int):=⟨by omega,by omega⟩
 unfold Go.Proofs.YtefjhnhdagolhabGreat.YC Go.Proofs.YtefjhnhdagolhabGreat.doZ doY
 rw [if_pos hr,if_pos hr,Int.toNat_natCast,if_neg (by simp [hp]),if_neg (by simp [hp])]
 exact ⟨rfl,rfl⟩
end
theorem SA {w:World} {b:Nat} {t:TypeId} {x0 x1 x2 x3 x4 x5 x6 y0 y1 y2 y3 y4 y5 y6:Value} (h:Row w b t [x0,x1,x2,x3,x4,x5,x6]):Row (((((((w.setCell ⟨b,0,none⟩ y0).setCell ⟨b,1,none⟩ y1).setCell ⟨b,2,none⟩ y2).setCell ⟨b,3,none⟩ y3).setCell ⟨b,4,none⟩ y4).setCell ⟨b,5,none⟩ y5).setCell ⟨b,6,none⟩ y6) b t [y0,y1,y2,y3,y4,y5,y6] :=
 ((((((h.set 0 _).set 1 _).set 2 _).set 3 _).set 4 _).set 5 _).set 6 _
theorem WJ {w:World} {b:Nat} {t:TypeId} {xs:List Value} (h:Row w b t xs):w.frozen? ⟨b,0,none⟩=false∧w.frozen? ⟨b,1,none⟩=false∧w.frozen? ⟨b,2,none⟩=false∧w.frozen? ⟨b,3,none⟩=false∧w.frozen? ⟨b,4,none⟩=false∧w.frozen? ⟨b,5,none⟩=false∧w.frozen? ⟨b,6,none⟩=false:=⟨h.frozen 0,h.frozen 1,h.frozen 2,h.frozen 3,h.frozen 4,h.frozen 5,h.frozen 6⟩
theorem LM {B b:Nat} {a w:World} {y0 y1 y2 y3 y4 y5 y6:Value} (h:Below B a w) (hb:B≤b):Below B a (((((((w.setCell ⟨b,0,none⟩ y0).setCell ⟨b,1,none⟩ y1).setCell ⟨b,2,none⟩ y2).setCell ⟨b,3,none⟩ y3).setCell ⟨b,4,none⟩ y4).setCell ⟨b,5,none⟩ y5).setCell ⟨b,6,none⟩ y6) :=
 ((((((h.setCell hb _).setCell hb _).setCell hb _).setCell hb _).setCell hb _).setCell hb _).setCell hb _
def aBv (w:World) (a:Option Addr) (os:List M.Op):Prop:=∀ k o,os[k]?=some o→∃ g off,a=some ⟨g,off,none⟩∧w.cell? ⟨g,off+k*3,none⟩=some (.int .i64 o.c)∧w.cell? ⟨g,off+k*3+1,none⟩=some (.int .i64 o.a)∧w.cell? ⟨g,off+k*3+2,none⟩=some (.int .i64 o.b)
end Go.Proofs.YtefjhnhdagolhabGreat
