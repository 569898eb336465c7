import Derived.Test.YtefjhnhdagolhaaGreatA02
set_option maxHeartbeats 4000000
set_option maxRecDepth 20000
namespace Go.Proofs.YtefjhnhdagolhaaGreat
open Tryz
open Go.RowKit
attribute [local go_sem ↓] Go.wp_at_zero Go.wp_at_succ
theorem eJ {w w':World} {base:Nat} {e:TypeId} {size:Nat} {v:Value} {n:Nat} {xs:List Value} (h:w.ownsRow base e size v n xs) (hb:Below w.heap.size w w'):w'.ownsRow base e size v n xs :=
 h.kept (row:=none) ⟨hb.os,hb.tape,hb.output,hb.size,fun k hk _=>hb.block k hk⟩ (by cases v.ownBlock<;>simp)
theorem dW {w:World} {base base':Nat} {e:TypeId} {size:Nat} {v:Value} {n:Nat} {xs:List Value} (h:w.ownsRow base e size v n xs) (hb:base'≤base):w.ownsRow base' e size v n xs:=by
 obtain ⟨h1,h2⟩:=h;refine ⟨h1,?_⟩
 rcases h2 with h2|⟨g,cap,cur,hv,hg,r⟩
 ·exact .inl h2
 ·exact .inr ⟨g,cap,cur,hv,bK hb hg,r⟩
theorem UN (st co:Int) (nx ou:List Int) (vn vo:Value) (w:World) (hn:Sl w vn (ints nx)) (ho:Sl w vo (ints ou)) (n1:nx.length≤1048576) (n2:0<nx.length) (n3:ou.length≤1048576) (n4:0<ou.length) :
  Calls prog 81 #[.agg #[.int .i64 st,.int .i64 co,vn,vo]] w fun e w'=>∃ g1 k1 g2 k2,e = .returned (.agg #[.int .i64 st,.int .i64 co,.slice (some ⟨g1,0,none⟩) nx.length k1,.slice (some ⟨g2,0,none⟩) ou.length k2])∧w'.ownsRow w.heap.size 3 1 (.slice (some ⟨g1,0,none⟩) nx.length k1) nx.length (ints nx)∧w'.ownsRow w.heap.size 3 1 (.slice (some ⟨g2,0,none⟩) ou.length k2) ou.length (ints ou)∧Below w.heap.size w w':=by
 have hsz:(prog.info? 22).map (·.size)=some 1:=by kernel_rfl
 have HN:=aA hn;have HO:=aA ho;obtain ⟨a1,c1,e1,-⟩:=hn.open_ints;obtain ⟨a2,c2,e2,-⟩:=ho.open_ints;clear hn ho;subst e1;subst e2;go_enter func81,ntmps81;go_wp2;generalize pT:World.alloc (World.alloc w _) _=W0;have hb0:Below w.heap.size w W0:=by rw [←pT];exact ((aT _ _).alloc (bQ _) _).alloc (by simp) _
 have hs0:W0.heap.size=w.heap.size+2:=by rw [←pT];simp
 have hN:Row W0 w.heap.size 24 [.int .i64 st,.int .i64 co,.slice a1 nx.length c1,.slice a2 ou.length c2]:=by rw [←pT];exact (aV rfl).alloc _
 have hR:Row W0 (w.heap.size+1) 152 [.int .i64 0,.int .i64 0,.slice none 0 0,.slice none 0 0]:=by rw [←pT];exact aV (by simp)
 have fG:=aA hb0;have DG:=aA hN;have nA:=aA hR;have FC:W0.there w.heap.size 2 2:=hN.there (by simp);clear pT hb0 hN hR;refine fH (S:=(fun w'=>w'.there w.heap.size 2 2)) 10 rfl (by kernel_rfl) ?_ (fun hHeld=>?_)
 ·exact FC
 repeat' first
  |(
   (first|refine ZY [1,2,4,5,7,9] 9 (by rfl) (by decide +kernel) ?_|refine ZY [1,2,4,5,7,9] 10 (by rfl) (by decide +kernel) ?_|refine ZY [1,2,4,5,7,9] 11 (by rfl) (by decide +kernel) ?_)
   refine ⟨_,by exact fun _ _ _ h=>h,.inl ⟨by rfl,fun w hS=>by (try dsimp only at hS);go_simp;(try with_reducible rfl)⟩,by assumption,?_⟩
   (try go_frame)
   )
  |(
   (first|refine pF 4 (by rfl) (by decide +kernel) (fun K hK PY=>?_)|refine pF 5 (by rfl) (by decide +kernel) (fun K hK PY=>?_)|refine pF 7 (by rfl) (by decide +kernel) (fun K hK PY=>?_)|refine pF 9 (by rfl) (by decide +kernel) (fun K hK PY=>?_)|refine pF 2 (by rfl) (by decide +kernel) (fun K hK PY=>?_)|refine pF 1 (by rfl) (by decide +kernel) (fun K hK PY=>?_)|refine fC (rs:=[1,4]) (by decide +kernel) (by simp) (JF (by rfl) (fun K hK PY=>?_) (JF (by rfl) (fun K hK PY=>?_) AllReadyH.nil))|refine fC (rs:=[2,4]) (by decide +kernel) (by simp) (JF (by rfl) (fun K hK PY=>?_) (JF (by rfl) (fun K hK PY=>?_) AllReadyH.nil)))
   all_goals first
    |(
     have _:On 1:=PY;rw [aJ (by rfl)];refine jG _ _ rfl _ _ (.slice a1 nx.length c1) rfl (by kernel_rfl) (by first|exact DG.out.cell_of rfl|exact aI bI (DG.out.cell_of rfl)|exact aI xU (DG.out.cell_of rfl)) ?_;refine hK.out _ _ ?_ (fun hHeld=>?_)
     ·exact hHeld
     clear hK K PY
     (try go_frame)
     )
    |(
     have _:On 4:=PY;rw [aJ (by rfl)];refine jG _ _ rfl _ _ (.slice a2 ou.length c2) rfl (by kernel_rfl) (by first|exact DG.out.cell_of rfl|exact aI bI (DG.out.cell_of rfl)|exact aI xU (DG.out.cell_of rfl)) ?_;refine hK.out _ _ ?_ (fun hHeld=>?_)
     ·exact hHeld
     clear hK K PY
     (try go_frame)
     )
    |(
     have _:On 2:=PY;go_simp;refine (RL nx _ _ (by first|exact HN.out.below fG.out.drew|exact (HN.out.below fG.out.drew).below xU) n1 n2).mono ?_;rintro e w2 ⟨g2,k2,rfl,ho2,bI⟩;have TE:=aA ho2;clear ho2;go_wp2_with fail;refine hK.out _ _ ?_ (fun hHeld=>?_)
     ·exact aU (by assumption) hHeld
     clear hK K PY
     (try go_frame)
     )
    |(
     have _:On 5:=PY;go_simp;refine (RL ou _ _ (by first|exact HO.out.below fG.out.drew|exact (HO.out.below fG.out.drew).below bI) n3 n4).mono ?_;rintro e w5 ⟨g5,k5,rfl,ho5,xU⟩;have HO5:=aA ho5;clear ho5;go_wp2_with fail;refine hK.out _ _ ?_ (fun hHeld=>?_)
     ·exact aU (by assumption) hHeld
     clear hK K PY
     (try go_frame)
     )
    |(
     have _:On 7:=PY;rw [aJ (by rfl)];refine aY _ _ _ rfl w.heap.size 2 (.slice (some ⟨g2,0,none⟩) nx.length k2) rfl rfl rfl rfl (fun j hj=>hHeld j (by omega)) hsz ?_;refine hK.out _ _ ?_ (fun hHeld=>?_)
     ·exact bA hHeld _ rfl _
     clear hK K PY
     (try go_frame)
     )
    |(
     rw [aJ (by rfl)];refine aY _ _ _ rfl w.heap.size 3 (.slice (some ⟨g5,0,none⟩) ou.length k5) rfl rfl rfl rfl (fun j hj=>by have:=hHeld (j+1) (by omega);rwa [show 2+(j+1)=3+j from by omega] at this) hsz ?_;refine hK.out _ _ ?_ (fun hHeld=>?_)
     ·exact bA hHeld _ rfl _
     clear hK K PY
     (try go_frame)
     )
   )
  |(
   refine cC (by decide +kernel) ?_ _;have hB5:Below W0.heap.size W0 w5:=aS (Below.dJ bI) xU (Below.dJ bI).size;have q0:w5.cell? ⟨w.heap.size,0,none⟩=some (.int .i64 st):=aI hB5 (DG.out.cell_of rfl);have q1:w5.cell? ⟨w.heap.size,1,none⟩=some (.int .i64 co):=aI hB5 (DG.out.cell_of rfl);have q2:w5.cell? ⟨w.heap.size,2,none⟩=some (.slice a1 nx.length c1):=aI hB5 (DG.out.cell_of rfl);have q3:w5.cell? ⟨w.heap.size,3,none⟩=some (.slice a2 ou.length c2):=aI hB5 (DG.out.cell_of rfl);have r0:w5.cell? ⟨w.heap.size+1,0,none⟩=some (.int .i64 0):=aI hB5 (nA.out.cell_of rfl);have r1:w5.cell? ⟨w.heap.size+1,1,none⟩=some (.int .i64 0):=aI hB5 (nA.out.cell_of rfl);have r2:w5.cell? ⟨w.heap.size+1,2,none⟩=some (.slice none 0 0):=aI hB5 (nA.out.cell_of rfl);have r3:w5.cell? ⟨w.heap.size+1,3,none⟩=some (.slice none 0 0):=aI hB5 (nA.out.cell_of rfl);have rf:=(nA.out.old hB5).frozen;have YJ:W0.heap.size≤w2.heap.size:=(Below.dJ bI).size;have o2:=aA (eJ TE.out xU);have o5:=aA (dW HO5.out YJ);have JE:=aA hB5;clear hB5 bI xU
   (try go_wp2_with fail)
   refine cR (v:=.agg #[.int .i64 st,.int .i64 co,.slice (some ⟨g2,0,none⟩) nx.length k2,.slice (some ⟨g5,0,none⟩) ou.length k5]) (by simp [results,results81,go_sem,r0,r1,r2,r3]) rfl ⟨g2,k2,g5,k5,rfl,?_,?_,?_⟩
   ·refine dW (base:=W0.heap.size) ?_ (by omega)
    repeat (refine ownsRow_setCell_below ?_ (by simp;omega) _)
    exact o2.out
   ·refine dW (base:=W0.heap.size) ?_ (by omega)
    repeat (refine ownsRow_setCell_below ?_ (by simp;omega) _)
    exact o5.out
   ·repeat (refine Below.setCell ?_ (by simp) _)
    exact aS fG.out JE.out fG.out.size
   )
def ptrs (bT:Nat→Nat) (k:Nat):List Value:=(List.range k).map fun (t:Nat)=>.pointer (some ⟨bT t,0,none⟩)
theorem xm (bT:Nat→Nat) (k a:Nat):ptrs (fun t=>if t=k then a else bT t) (k+1)=ptrs bT k++[.pointer (some ⟨a,0,none⟩)]:=by
 unfold ptrs;rw [pR,List.map_append];congr 1
 ·apply List.map_congr_left
  intro t ht;have:t<k:=List.mem_range.1 ht;simp only [aN (show ¬t=k by omega)]
 ·simp
def XI (kind n cap st co:Int) (vn vo:Value):List Value:=[.int .i64 kind,.int .i64 n,.int .i64 cap,.int .i64 st,.int .i64 co,vn,vo]
def VF (n bF:Nat):List Value:=[.slice none 0 0,.int .i64 0,.int .i64 0,.int .i64 0,.int .i64 0,.int .i64 0,.int .i64 0,.int .i64 0,.slice (some ⟨bF,0,none⟩) n n,.slice none 0 0]
def RfI (W1:World) (n:Nat) (cc:List Value) (v:Value) (k:Nat) (bT bF:Nat→Nat) (w':World):Prop :=
 Row w' W1.heap.size 105 (cc++[v,.slice none 0 0])∧w'.ownsRow (W1.heap.size+1) 107 1 v k (ptrs bT k) ∧
 (∀ t,t<k→Row w' (bT t) 109 (VF n (bF t))∧Row w' (bF t) 3 (zeros (.int .i64 0) n)∧W1.heap.size<bT t∧W1.heap.size<bF t∧some (bT t)≠v.ownBlock∧some (bF t)≠v.ownBlock∧bT t≠bF t) ∧
 (∀ s t,s<t→t<k→bT s≠bT t∧bT s≠bF t∧bF s≠bT t∧bF s≠bF t)∧Below W1.heap.size W1 w'
theorem RfI.next {W1:World} {n:Nat} {cc:List Value} {v:Value} {k:Nat} {bT bF:Nat→Nat} {wr w2 w4:World} {a b g cap:Nat} (vg:cc.length=7) (h:RfI W1 n cc v k bT bF wr) (hb:Below wr.heap.size wr w2)
  (ha:wr.heap.size≤a) (hb':wr.heap.size≤b) (hab:a≠b) (vv:Row w2 a 109 (VF n b)) (hrb:Row w2 b 3 (zeros (.int .i64 0) n))
  (hown:w4.ownsRow (W1.heap.size+1) 107 1 (.slice (some ⟨g,0,none⟩) (k+1) cap) (k+1) (ptrs bT k++[.pointer (some ⟨a,0,none⟩)]))
  (dP:w2.grownBy w4 v.ownBlock) (hg:v.ownBlock=some g∨g=w2.heap.size) :
  RfI W1 n cc (.slice (some ⟨g,0,none⟩) (k+1) cap) (k+1) (fun t=>if t=k then a else bT t) (fun t=>if t=k then b else bF t) (w4.setCell ⟨W1.heap.size,7,none⟩ (.slice (some ⟨g,0,none⟩) (k+1) cap)):=by
 obtain ⟨hE,hO,hT,hD,hB⟩:=h;have hz:=hb.size;have hzB:=hB.size;have hlE:=hE.lt;have hla:=vv.lt;have hlb:=hrb.lt;have sQ:=hO.lt;have keep:∀ {q:Nat} {t:TypeId} {xs:List Value},Row w2 q t xs→some q≠v.ownBlock→Row w4 q t xs:=fun {q t xs} hr hne=>hr.of_block (dP.block q hr.lt hne)
 have hav:some a≠v.ownBlock:=fun e=>by have:=(sQ a e.symm).2;omega
 have hbv:some b≠v.ownBlock:=fun e=>by have:=(sQ b e.symm).2;omega
 have hEv:some W1.heap.size≠v.ownBlock:=fun e=>by have:=(sQ _ e.symm).1;omega
 have UC:∀ q,q<w2.heap.size→some q≠v.ownBlock→q≠g:=fun q hq hne e=>by
  subst e
  rcases hg with h|h
  ·exact hne h.symm
  ·omega
 refine ⟨?_,?_,?_,?_,?_⟩
 ·have:=(keep (hE.old hb) hEv).set 7 (.slice (some ⟨g,0,none⟩) (k+1) cap)
  rw [EB _ _ (by omega),vg] at this;exact this
 ·rw [xm]
  exact ownsRow_setCell_below hown (by simp) _
 ·intro t ht
  by_cases e:t=k
  ·subst e
   simp only [if_true];refine ⟨(keep vv hav).setOther (by simp;omega) _,(keep hrb hbv).setOther (by simp;omega) _,by omega,by omega,?_,?_,hab⟩
   ·simp only [Value.ownBlock,ne_eq,yD];exact UC a hla hav
   ·simp only [Value.ownBlock,ne_eq,yD];exact UC b hlb hbv
  ·simp only [aN e]
   obtain ⟨h1,h2,h3,h4,h5,h6,h7⟩:=hT t (by omega);refine ⟨(keep (h1.old hb) h5).setOther (by simp;omega) _,(keep (h2.old hb) h6).setOther (by simp;omega) _,h3,h4,?_,?_,h7⟩
   ·simp only [Value.ownBlock,ne_eq,yD];exact UC _ (h1.old hb).lt h5
   ·simp only [Value.ownBlock,ne_eq,yD];exact UC _ (h2.old hb).lt h6
 ·intro s t h1 h2
  by_cases e:t=k
  ·subst e
   obtain ⟨r1,r2,-⟩:=hT s h1;have l1:=r1.lt;have l2:=r2.lt;simp only [if_true,aN (show ¬s=t by omega)];omega
  ·simp only [aN e,aN (show ¬s=k by omega)]
   exact hD s t h1 (by omega)
 ·exact ((aS hB hb hzB).grown dP (by omega) (fun q hq=>by have:=(sQ q hq).1;omega)).setCell (bQ _) _
theorem aBj {w w4:World} {row:Option Nat} {E N:Nat} {q:Value} (hg:w.grownBy w4 row) (h:w.cell? ⟨N,1,none⟩=some q∧w.there E 7 1) (hE:some E≠row) (hN:some N≠row) :
  w4.cell? ⟨N,1,none⟩=some q∧w4.there E 7 1:=by
 refine ⟨hg.cell h.1 hN,fun j hj=>?_⟩;obtain ⟨h1,h2⟩:=h.2 j hj;obtain ⟨u,hu⟩:=pQ.1 h1;have hlt:=mX w _ hu;rw [hg.cell_far ⟨E,7+j,none⟩ hlt hE,hg.frozen_far ⟨E,7+j,none⟩ hlt hE];exact ⟨h1,h2⟩
end Go.Proofs.YtefjhnhdagolhaaGreat
namespace Go.Proofs.YtefjhnhdagolhaaGreat
open Tryz
open Go.RowKit
theorem IC (xs:List Int):splice (zeros (.int .i64 0) xs.length) 0 (ints xs)=ints xs:=by
 simp [splice,zeros,cM]
theorem Sl.src {w w':World} {a:Option Addr} {n c:Nat} {xs:List Int} (h:Sl w (.slice a n c) (ints xs)) (hb:Below w.heap.size w w') (hp:0<(ints xs).length):∃ ad,a=some ad∧∀ (j:Nat) (v:Value),(ints xs)[j]?=some v→w'.cell? (ad.add j)=some v:=by
 obtain ⟨a',cap,e,-,-,h3⟩:=h.below hb;simp only [Value.slice.injEq] at e;rw [e.1]
 rcases h3 with h3|⟨g,off,rfl,h3⟩
 ·rw [h3] at hp;simp at hp
 ·exact ⟨_,rfl,fun j v hj=>by rw [gS];exact h3 j v hj⟩
theorem aDd (st co:Int) (nx ou:List Int) (vn vo:Value) (w:World) (hn:Sl w vn (ints nx)) (ho:Sl w vo (ints ou)) (n1:nx.length≤1048576) (n3:ou.length≤1048576) :
  Calls prog 75 #[.agg #[.int .i64 st,.int .i64 co,vn,vo]] w fun e w'=>∃ g1 g2,e = .returned (.agg #[.int .i64 st,.int .i64 co,.slice (some ⟨g1,0,none⟩) nx.length nx.length,.slice (some ⟨g2,0,none⟩) ou.length ou.length]) ∧
   w.heap.size≤g1∧w.heap.size≤g2∧Row w' g1 3 (ints nx)∧Row w' g2 3 (ints ou)∧Below w.heap.size w w':=by
 have aLR:=fQ (P:=prog) 22 3 (.int .i64 0) 8 underlying22 eF rfl (nx.length:Int) nx.length rfl (by omega) (by omega);have aLS:=fQ (P:=prog) 22 3 (.int .i64 0) 8 underlying22 eF rfl (ou.length:Int) ou.length rfl (by omega) (by omega);have HN:=aA hn;have HO:=aA ho;obtain ⟨a1,c1,e1,-⟩:=hn.open_ints;obtain ⟨a2,c2,e2,-⟩:=ho.open_ints;clear hn ho;subst e1;subst e2;go_enter func75,ntmps75;go_upto_region 1 with fail;generalize pT:World.alloc (World.alloc w _) _=W0;have hb0:Below w.heap.size w W0:=by rw [←pT];exact ((aT _ _).alloc (bQ _) _).alloc (by simp) _
 have hs0:w.heap.size+2≤W0.heap.size:=by rw [←pT];simp
 have hN:Row W0 w.heap.size 24 [.int .i64 st,.int .i64 co,.slice a1 nx.length c1,.slice a2 ou.length c2]:=by rw [←pT];exact (aV rfl).alloc _
 have hR:Row W0 (w.heap.size+1) 24 [.int .i64 0,.int .i64 0,.slice none 0 0,.slice none 0 0]:=by rw [←pT];exact aV (by simp)
 have q2:W0.cell? ⟨w.heap.size,2,none⟩=some (.slice a1 nx.length c1):=hN.cell_of rfl;have q2':=fun ob=>bO q2 ob
 clear pT;have fG:=aA hb0;have DG:=aA hN;have nA:=aA hR;clear hb0 hN hR;go_wp2_with (with_reducible refine wpList_copy_splice rfl (.tmp 9) (.tmp 11) 22 22 rfl 3 underlying22 PA _ _ _ _ _ _ rfl rfl W0.heap.size 0 (zeros (.int .i64 0) nx.length) 3 ?hg (ints nx) ?hn ?hpos ?hfit ?h1 W0.heap.size W0 ?hb ?hBg ?hk)
 case hg=>exact dH _ _ _
 case hn=>simp [cM]
 case hpos =>
  intro hp
  first|exact HN.out.src (aS fG.out (aB _ _) fG.out.size) hp|exact ⟨rfl,HN.out.src (aS fG.out (aB _ _) fG.out.size) hp⟩
 case hfit=>simp [cM,zN]
 case h1=>exact xX nx
 case hb=>exact aB _ _
 case hBg=>exact bQ _
 case hk =>
  intro w2 ko XW;have pX:=aA (show Row w2 W0.heap.size 3 (ints nx) by have:=ko.out;rw [IC] at this;exact this);clear ko q2 q2';have q3:w2.cell? ⟨w.heap.size,3,none⟩=some (.slice a2 ou.length c2):=aI XW (DG.out.cell_of rfl);have q3':=fun ob=>bO q3 ob
  have pW:=aA XW;clear XW;go_wp2_with (with_reducible refine wpList_copy_splice rfl (.tmp 17) (.tmp 19) 22 22 rfl 3 underlying22 PA _ _ _ _ _ _ rfl rfl w2.heap.size 0 (zeros (.int .i64 0) ou.length) 3 ?hg2 (ints ou) ?hn2 ?aHI ?aHs ?h12 w2.heap.size w2 ?bI ?aK9 ?hk2)
  case hg2=>exact dH _ _ _
  case hn2=>simp [cM]
  case aHI =>
   intro hp;have hq:Below w.heap.size w w2:=aS fG.out pW.out fG.out.size
   first|exact HO.out.src (aS hq (aB _ _) hq.size) hp|exact ⟨rfl,HO.out.src (aS hq (aB _ _) hq.size) hp⟩
  case aHs=>simp [cM,zN]
  case h12=>exact xX ou
  case bI=>exact aB _ _
  case aK9=>exact bQ _
  case hk2 =>
   intro w3 WL hB3;have HR2:=aA (show Row w3 w2.heap.size 3 (ints ou) by have:=WL.out;rw [IC] at this;exact this);have YJ:=pW.out.size;have hz3:=hB3.size;have hB:Below W0.heap.size W0 w3:=aS pW.out hB3 YJ;have aKb:=aA (pX.out.old hB3);have hN3:=DG.out.old hB;have hR3:=nA.out.old hB;have k0:w3.cell? ⟨w.heap.size,0,none⟩=some (.int .i64 st):=hN3.cell_of rfl;have k1:w3.cell? ⟨w.heap.size,1,none⟩=some (.int .i64 co):=hN3.cell_of rfl;have k2:w3.cell? ⟨w.heap.size,2,none⟩=some (.slice a1 nx.length c1):=hN3.cell_of rfl;have k3:w3.cell? ⟨w.heap.size,3,none⟩=some (.slice a2 ou.length c2):=hN3.cell_of rfl;have r0:w3.cell? ⟨w.heap.size+1,0,none⟩=some (.int .i64 0):=hR3.cell_of rfl;have r1:w3.cell? ⟨w.heap.size+1,1,none⟩=some (.int .i64 0):=hR3.cell_of rfl;have r2:w3.cell? ⟨w.heap.size+1,2,none⟩=some (.slice none 0 0):=hR3.cell_of rfl;have r3:w3.cell? ⟨w.heap.size+1,3,none⟩=some (.slice none 0 0):=hR3.cell_of rfl;have f1:=hN3.frozen;have f2:=hR3.frozen;have oV:=aA hB;clear hN3 hR3 hB3 hB WL q3 q3';go_wp2;refine cR (v:=.agg #[.int .i64 st,.int .i64 co,.slice (some ⟨W0.heap.size,0,none⟩) nx.length nx.length,.slice (some ⟨w2.heap.size,0,none⟩) ou.length ou.length]) (by simp [results,results75,go_sem,r0,r1,r2,r3]) rfl ⟨W0.heap.size,w2.heap.size,rfl,by omega,by omega,?_,?_,?_⟩
   ·repeat (refine Row.setOther ?_ (by simp;omega) _)
    exact aKb.out
   ·repeat (refine Row.setOther ?_ (by simp;omega) _)
    exact HR2.out
   ·repeat (refine Below.setCell ?_ (by simp) _)
    exact aS fG.out oV.out fG.out.size
attribute [local go_sem ↓] Go.wp_at_zero Go.wp_at_succ
def tP (w:World) (kind:Int) (n:Nat) (cap st co:Int) (nx ou:List Int) (vn vo:Value) (b:Nat) (w':World):Prop :=
 ∃ W1 ax PN v bT bF,b=W1.heap.size∧Below w.heap.size w W1∧RfI W1 n (XI kind n cap st co ax PN) v n bT bF w' ∧
  ((kind≠5∧ax=vn∧PN=vo)∨(kind=5∧∃ g1 g2,ax = .slice (some ⟨g1,0,none⟩) nx.length nx.length∧PN = .slice (some ⟨g2,0,none⟩) ou.length ou.length∧w.heap.size≤g1∧w.heap.size≤g2∧Row W1 g1 3 (ints nx)∧Row W1 g2 3 (ints ou)))
theorem GF:(prog.info? 107).map (fun i=>(i.zero,i.size,i.bytes))=some (some (.pointer none),1,8):=by kernel_rfl
theorem jq (cap st co:Int) (nx ou:List Int) (vn vo:Value) (w:World) (kind th:Int) (h:¬(1≤kind∧kind≤5∧1≤th∧th≤64∧0≤cap∧cap≤64)) :
  Calls prog 41 #[.agg #[.int .i64 kind,.int .i64 th,.int .i64 cap,.int .i64 st,.int .i64 co,vn,vo]] w fun e w'=>e = .returned (.tuple #[.pointer none,.int .i64 (gZ kind th cap st co nx ou)])∧Below w.heap.size w w':=by
 rw [zF h]
 by_cases c0:kind<1
 ·clear h
  go_enter func41,ntmps41;go_wp2
  go_ret2
  exact ⟨rfl,(by repeat (first|exact aT _ _|assumption|refine aX ?_ _|refine cI ?_ (by simp) _))⟩
 by_cases c1:5<kind
 ·clear h
  go_enter func41,ntmps41;go_wp2
  go_ret2
  exact ⟨rfl,(by repeat (first|exact aT _ _|assumption|refine aX ?_ _|refine cI ?_ (by simp) _))⟩
 by_cases c2:th<1
 ·clear h
  go_enter func41,ntmps41;go_wp2
  go_ret2
  exact ⟨rfl,(by repeat (first|exact aT _ _|assumption|refine aX ?_ _|refine cI ?_ (by simp) _))⟩
 by_cases c3:64<th
 ·clear h
  go_enter func41,ntmps41;go_wp2
  go_ret2
  exact ⟨rfl,(by repeat (first|exact aT _ _|assumption|refine aX ?_ _|refine cI ?_ (by simp) _))⟩
 by_cases c4:cap<0
 ·clear h
  go_enter func41,ntmps41;go_wp2
  go_ret2
  exact ⟨rfl,(by repeat (first|exact aT _ _|assumption|refine aX ?_ _|refine cI ?_ (by simp) _))⟩
 by_cases c5:64<cap
 ·clear h
  go_enter func41,ntmps41;go_wp2
  go_ret2
  exact ⟨rfl,(by repeat (first|exact aT _ _|assumption|refine aX ?_ _|refine cI ?_ (by simp) _))⟩
 exact absurd ⟨by omega,by omega,by omega,by omega,by omega,by omega⟩ h
theorem jr (cap st co:Int) (nx ou:List Int) (vn vo:Value) (w:World) (hn:Sl w vn (ints nx)) (ho:Sl w vo (ints ou)) (th:Int) (h:1≤th∧th≤64∧0≤cap∧cap≤64) (ht:bR st co nx ou=false) :
  Calls prog 41 #[.agg #[.int .i64 5,.int .i64 th,.int .i64 cap,.int .i64 st,.int .i64 co,vn,vo]] w fun e w'=>e = .returned (.tuple #[.pointer none,.int .i64 2])∧Below w.heap.size w w':=by
 obtain ⟨c1,c2,c3,c4⟩:=h;have hc:=fun W hW=>GN st co nx ou vn vo W (hn.below hW) (ho.below hW)
 rw [ht] at hc;have HC:=aA hc;clear hc hn ho ht;go_enter func41,ntmps41;go_wp2_with fail;refine (HC.out _ (aB _ _)).mono ?_;rintro e w1 ⟨rfl,eN⟩;go_wp2_with fail
 go_ret2
 exact ⟨rfl,aS (aB _ _) eN (by simp)⟩
theorem tZ (cap st co:Int) (nx ou:List Int) (vn vo:Value) (w:World) (kind:Int) (n:Nat) (k1:1≤kind) (k2:kind≤4) (h1:1≤n) (h2:n≤64) (h3:0≤cap) (h4:cap≤64) :
  Calls prog 41 #[.agg #[.int .i64 kind,.int .i64 (n:Int),.int .i64 cap,.int .i64 st,.int .i64 co,vn,vo]] w fun e w'=>∃ b,e = .returned (.tuple #[.pointer (some ⟨b,0,none⟩),.int .i64 0])∧tP w kind n cap st co nx ou vn vo b w':=by
 obtain ⟨pi,hpi,hpz⟩:=eZ.1 GF;simp only [fW] at hpz;obtain ⟨pU,CJ,hp3⟩:=hpz;have HPI:=aA hpi;have HP1:=aA pU;have HP2:=aA CJ;have HP3:=aA hp3;clear hpi pU CJ hp3;have hmk:=fQ (P:=prog) 22 3 (.int .i64 0) 8 underlying22 eF rfl (n:Int) n rfl (by omega) (by omega);have c1:¬kind<1:=by omega
 have c2:¬5<kind:=by omega
 have c3:(kind != 5)=true:=by rw [bne_iff_ne];omega
 have c4:(kind == 5)=false:=mO.2 (by omega);go_enter func41,ntmps41;go_upto_region 10 with fail;generalize sZ:World.alloc w _=W1;have HBW:=aA (show Below w.heap.size w W1 by rw [←sZ];exact aB w _);have hs1:w.heap.size+1≤W1.heap.size:=by rw [←sZ];simp
 have DG:=aA (show Row W1 w.heap.size 26 (XI kind n cap st co vn vo) by rw [←sZ];exact aV rfl);have q0:W1.cell? ⟨w.heap.size,0,none⟩=some (.int .i64 kind):=DG.out.cell_of rfl;have q1:W1.cell? ⟨w.heap.size,1,none⟩=some (.int .i64 (n:Int)):=DG.out.cell_of rfl;have q2:W1.cell? ⟨w.heap.size,2,none⟩=some (.int .i64 cap):=DG.out.cell_of rfl;have q3:W1.cell? ⟨w.heap.size,3,none⟩=some (.int .i64 st):=DG.out.cell_of rfl;have q4:W1.cell? ⟨w.heap.size,4,none⟩=some (.int .i64 co):=DG.out.cell_of rfl;have q5:W1.cell? ⟨w.heap.size,5,none⟩=some vn:=DG.out.cell_of rfl;have q6:W1.cell? ⟨w.heap.size,6,none⟩=some vo:=DG.out.cell_of rfl;clear sZ;have hI0:RfI W1 n (XI kind n cap st co vn vo) (.slice none 0 0) 0 (fun _=>0) (fun _=>0) (W1.alloc (.cells (XI kind n cap st co vn vo++[Value.slice none 0 0,.slice none 0 0]).toArray 105)) :=
  ⟨aV rfl,jZ _ _ _ _,fun t ht=>absurd ht (by omega),fun s t _ h=>absurd h (by omega),aB _ _⟩
 have HI0:=aA hI0;clear hI0;go_wp2_with fail
 go_loopw [6] (fun i w'=>∃ k v bT bF,k≤n∧i = .int .i64 (k:Int)∧RfI W1 n (XI kind n cap st co vn vo) v k bT bF w') (fun i _=>n-(intOf i).toNat)
 case atStart=>exact ⟨0,_,_,_,aW _,rfl,HI0.out⟩
 case round =>
  obtain ⟨k,v,bT,bF,hk,rfl,hI⟩:=hrel;have hcN:wr.cell? ⟨w.heap.size,1,none⟩=some (.int .i64 (n:Int)):=aI hI.2.2.2.2 (DG.out.cell_of rfl)
  by_cases hlt:k<n
  ·have hlt':(k:Int)<(n:Int):=by omega
   have hcv:wr.cell? ⟨W1.heap.size,7,none⟩=some v:=hI.1.cell_of rfl;have FC:wr.there W1.heap.size 7 1:=hI.1.there (by simp [XI]);have sQ:=hI.2.1.lt;have hzI:=hI.1.lt;have YG:some W1.heap.size≠v.ownBlock:=fun e=>by have:=(sQ _ e.symm).1;omega
   have aAW:some w.heap.size≠v.ownBlock:=fun e=>by have:=(sQ _ e.symm).1;omega
   have hsz:(prog.info? 103).map (·.size)=some 1:=by kernel_rfl
   have HI:=aA hI;have zk:=aA hcv;clear hI hcv sQ;go_wp2;refine fH (S:=(fun w'=>w'.cell? ⟨w.heap.size,1,none⟩=some (.int .i64 (n:Int))∧w'.there W1.heap.size 7 1)) 15 rfl (by kernel_rfl) ?_ (fun hHeld=>?_)
   ·exact ⟨hcN,FC⟩
   repeat' first
    |(
     (first|refine ZY [4,7,9,10,11,14] 14 (by rfl) (by decide +kernel) ?_|refine ZY [4,7,9,10,11,14] 15 (by rfl) (by decide +kernel) ?_)
     refine ⟨_,by exact fun _ _ _ h=>h,.inl ⟨by rfl,fun w hS=>by (try dsimp only at hS);go_simp;(try with_reducible rfl)⟩,by assumption,?_⟩
     (try go_frame)
     )
    |(
     (first|refine pF 7 (by rfl) (by decide +kernel) (fun K hK PY=>?_)|refine pF 9 (by rfl) (by decide +kernel) (fun K hK PY=>?_)|refine pF 10 (by rfl) (by decide +kernel) (fun K hK PY=>?_)|refine pF 11 (by rfl) (by decide +kernel) (fun K hK PY=>?_)|refine pF 14 (by rfl) (by decide +kernel) (fun K hK PY=>?_)|refine pF 4 (by rfl) (by decide +kernel) (fun K hK PY=>?_)|refine fC (rs:=[4,7]) (by decide +kernel) (by simp) (JF (by rfl) (fun K hK PY=>?_) (JF (by rfl) (fun K hK PY=>?_) AllReadyH.nil))|refine fC (rs:=[4,9]) (by decide +kernel) (by simp) (JF (by rfl) (fun K hK PY=>?_) (JF (by rfl) (fun K hK PY=>?_) AllReadyH.nil))|refine fC (rs:=[4,10]) (by decide +kernel) (by simp) (JF (by rfl) (fun K hK PY=>?_) (JF (by rfl) (fun K hK PY=>?_) AllReadyH.nil)))
     all_goals first
      |(
       have _:On 4:=PY;rw [aJ (by rfl)];refine jG _ _ rfl _ _ v rfl (by kernel_rfl) (by refine aI ?_ zk.out;repeat (first|exact aT _ _|refine dU ?_|refine cI ?_ (by first|(simp;done)|(simp;omega)) _)) ?_;refine hK.out _ _ ?_ (fun hHeld=>?_)
       ·exact hHeld
       clear hK K PY
       (try go_frame)
       )
      |(
       have _:On 11:=PY;refine yE _ rfl (.tmp 65) (.tmp 71) 103 rfl (W1.heap.size+1) 107 pi (.pointer none) 1 8 underlying103 HPI.out HP1.out HP2.out HP3.out rfl (by decide) v k (ptrs bT k) rfl ?_ ⟨wr.heap.size+1+1,0,none⟩ 1 1 [.pointer (some ⟨wr.heap.size+1,0,none⟩)] rfl rfl ?_ (by simp [Value.oneCell']) (by decide) (by unfold maxLen;omega) (by omega) ?_ (wr.heap.size+1+1+1) (by simp) ?_
       ·exact ((HI.out.2.1.alloc _).alloc _).alloc _
       ·exact jH (Row.drew (aV (by simp)))
       ·simp;omega
       intro g gc w4 hown dP hat oQ;have HO:=aA hown;have HG:=aA dP;have HA:=aA hat;clear hown dP hat;refine hK.out _ _ ?_ (fun hHeld=>?_)
       ·exact aBj HG.out hHeld YG aAW
       clear hK K PY
       (try go_frame)
       )
      |(
       have _:On 14:=PY;rw [aJ (by rfl)];refine aY _ _ _ rfl W1.heap.size 7 _ rfl rfl rfl rfl hHeld.2 hsz ?_;refine hK.out _ _ ?_ (fun hHeld=>?_)
       ·exact ⟨(IY _ _ _ _ (by simp;omega)).trans hHeld.1,bA hHeld.2 _ rfl _⟩
       clear hK K PY
       (try go_frame)
       )
      |(
       go_simp;refine hK.out _ _ ?_ (fun hHeld=>?_)
       ·exact ⟨aI (aB _ _) hHeld.1,BJ hHeld.2 _⟩
       clear hK K PY
       (try go_frame)
       )
     )
    |(
     refine cC (by decide +kernel) ?_ _
     (try go_wp2_with fail)
     go_roundw
     case rel=>exact ⟨k+1,_,_,_,by omega,by go_num,RfI.next rfl HI.out (dU (cI (cI (aB _ _) (by simp) _) (by simp;omega) _)) (Nat.le_succ _) (bQ _) (by omega) (Row.drew (Row.alloc (aV (xs:=VF n wr.heap.size) (by simp)) _)) (Row.drew (Row.alloc (Row.alloc (aV rfl) _) _)) HO.out HG.out (Or.imp_right (fun h=>by rw [h];simp) HA.out)⟩
     case measure=>simp [intOf];omega
     )
  ·have hke:k=n:=by omega
   subst hke;have HI:=aA hI;clear hI;have hlt':¬(k:Int)<(k:Int):=by omega
   go_wp2
   go_ret2
   exact ⟨W1.heap.size,rfl,W1,_,_,v,bT,bF,rfl,HBW.out,HI.out,.inl ⟨by omega,rfl,rfl⟩⟩
theorem VC (cap st co:Int) (nx ou:List Int) (vn vo:Value) (w:World) (hn:Sl w vn (ints nx)) (ho:Sl w vo (ints ou)) (n:Nat) (ht:bR st co nx ou=true) (n1:nx.length≤1048576) (n3:ou.length≤1048576) (h1:1≤n) (h2:n≤64) (h3:0≤cap) (h4:cap≤64) :
  Calls prog 41 #[.agg #[.int .i64 5,.int .i64 (n:Int),.int .i64 cap,.int .i64 st,.int .i64 co,vn,vo]] w fun e w'=>∃ b,e = .returned (.tuple #[.pointer (some ⟨b,0,none⟩),.int .i64 0])∧tP w 5 n cap st co nx ou vn vo b w':=by
 obtain ⟨pi,hpi,hpz⟩:=eZ.1 GF;simp only [fW] at hpz;obtain ⟨pU,CJ,hp3⟩:=hpz;have HPI:=aA hpi;have HP1:=aA pU;have HP2:=aA CJ;have HP3:=aA hp3;clear hpi pU CJ hp3;have hmk:=fQ (P:=prog) 22 3 (.int .i64 0) 8 underlying22 eF rfl (n:Int) n rfl (by omega) (by omega);have HC:=aA (fun W hW=>GN st co nx ou vn vo W (hn.below hW) (ho.below hW));have HD:=aA (fun W hW=>aDd st co nx ou vn vo W (hn.below hW) (ho.below hW) n1 n3);clear hn ho;have HT:=aA ht;clear ht;go_enter func41,ntmps41;go_wp2_with fail;refine (HC.out _ (aB _ _)).mono ?_;rintro e w1 ⟨rfl,eN⟩;rw [HT.out];have nS:Row w1 w.heap.size 26 (XI 5 n cap st co vn vo):=(aV rfl).old eN;have hB1:Below w.heap.size w w1:=aS (aB w _) eN (by simp);have hz1:w.heap.size<w1.heap.size:=nS.lt;have p0:w1.cell? ⟨w.heap.size,0,none⟩=some (.int .i64 5):=nS.cell_of rfl;have p3:w1.cell? ⟨w.heap.size,3,none⟩=some (.int .i64 st):=nS.cell_of rfl;have p4:w1.cell? ⟨w.heap.size,4,none⟩=some (.int .i64 co):=nS.cell_of rfl;have p5:w1.cell? ⟨w.heap.size,5,none⟩=some vn:=nS.cell_of rfl;have p6:w1.cell? ⟨w.heap.size,6,none⟩=some vo:=nS.cell_of rfl;have pX:=aA nS;have oU:=aA hB1;clear nS hB1 eN;go_wp2_with fail;refine (HD.out _ oU.out).mono ?_;rintro e w2 ⟨g1,g2,rfl,hg1,hg2,yG,BA,bI⟩;have WO:Row w2 w.heap.size 26 (XI 5 n cap st co vn vo):=pX.out.old bI;have s3:w2.cell? ⟨w.heap.size,3,none⟩=some (.int .i64 st):=WO.cell_of rfl;have s4:w2.cell? ⟨w.heap.size,4,none⟩=some (.int .i64 co):=WO.cell_of rfl;have s5:w2.cell? ⟨w.heap.size,5,none⟩=some vn:=WO.cell_of rfl
 have s6:w2.cell? ⟨w.heap.size,6,none⟩=some vo:=WO.cell_of rfl;have sf:=WO.frozen;have YJ:=bI.size;have HR2:=aA WO;have HG1:=aA yG;have ko:=aA BA;have pW:=aA (aS oU.out bI oU.out.size);clear WO yG BA bI p0 p3 p4 p5 p6;go_upto_region 10 with fail;generalize sZ:World.setCell (World.setCell (World.setCell (World.setCell w2 _ _) _ _) _ _) _ _=W1;have HBW:=aA (show Below w.heap.size w W1 by rw [←sZ];exact ((((pW.out.setCell (bQ _) _).setCell (bQ _) _).setCell (bQ _) _).setCell (bQ _) _));have hs1:w.heap.size+1≤W1.heap.size:=by rw [←sZ];simp;omega
 have DG:=aA (show Row W1 w.heap.size 26 (XI 5 n cap st co (.slice (some ⟨g1,0,none⟩) nx.length nx.length) (.slice (some ⟨g2,0,none⟩) ou.length ou.length)) by rw [←sZ];exact (((HR2.out.set 3 _).set 4 _).set 5 _).set 6 _);have aKo:=aA (show Row W1 g1 3 (ints nx) by rw [←sZ];exact Row.setOther (Row.setOther (Row.setOther (Row.setOther HG1.out (by simp;omega) _) (by simp;omega) _) (by simp;omega) _) (by simp;omega) _);have aKp:=aA (show Row W1 g2 3 (ints ou) by rw [←sZ];exact Row.setOther (Row.setOther (Row.setOther (Row.setOther ko.out (by simp;omega) _) (by simp;omega) _) (by simp;omega) _) (by simp;omega) _);have q0:W1.cell? ⟨w.heap.size,0,none⟩=some (.int .i64 5):=DG.out.cell_of rfl;have q1:W1.cell? ⟨w.heap.size,1,none⟩=some (.int .i64 (n:Int)):=DG.out.cell_of rfl;have q2:W1.cell? ⟨w.heap.size,2,none⟩=some (.int .i64 cap):=DG.out.cell_of rfl;have q3:W1.cell? ⟨w.heap.size,3,none⟩=some (.int .i64 st):=DG.out.cell_of rfl;have q4:W1.cell? ⟨w.heap.size,4,none⟩=some (.int .i64 co):=DG.out.cell_of rfl;have q5:W1.cell? ⟨w.heap.size,5,none⟩=some (.slice (some ⟨g1,0,none⟩) nx.length nx.length):=DG.out.cell_of rfl;have q6:W1.cell? ⟨w.heap.size,6,none⟩=some (.slice (some ⟨g2,0,none⟩) ou.length ou.length):=DG.out.cell_of rfl;clear sZ s3 s4 s5 s6 sf
 have hI0:RfI W1 n (XI 5 n cap st co (.slice (some ⟨g1,0,none⟩) nx.length nx.length) (.slice (some ⟨g2,0,none⟩) ou.length ou.length)) (.slice none 0 0) 0 (fun _=>0) (fun _=>0) (W1.alloc (.cells (XI 5 n cap st co (.slice (some ⟨g1,0,none⟩) nx.length nx.length) (.slice (some ⟨g2,0,none⟩) ou.length ou.length)++[Value.slice none 0 0,.slice none 0 0]).toArray 105)) :=
  ⟨aV rfl,jZ _ _ _ _,fun t ht=>absurd ht (by omega),fun s t _ h=>absurd h (by omega),aB _ _⟩
 have HI0:=aA hI0;clear hI0;go_wp2_with fail
 go_loopw [6] (fun i w'=>∃ k v bT bF,k≤n∧i = .int .i64 (k:Int)∧RfI W1 n (XI 5 n cap st co (.slice (some ⟨g1,0,none⟩) nx.length nx.length) (.slice (some ⟨g2,0,none⟩) ou.length ou.length)) v k bT bF w') (fun i _=>n-(intOf i).toNat)
 case atStart=>exact ⟨0,_,_,_,aW _,rfl,HI0.out⟩
 case round =>
  obtain ⟨k,v,bT,bF,hk,rfl,hI⟩:=hrel;have hcN:wr.cell? ⟨w.heap.size,1,none⟩=some (.int .i64 (n:Int)):=aI hI.2.2.2.2 (DG.out.cell_of rfl)
  by_cases hlt:k<n
  ·have hlt':(k:Int)<(n:Int):=by omega
   have hcv:wr.cell? ⟨W1.heap.size,7,none⟩=some v:=hI.1.cell_of rfl;have FC:wr.there W1.heap.size 7 1:=hI.1.there (by simp [XI]);have sQ:=hI.2.1.lt;have hzI:=hI.1.lt;have YG:some W1.heap.size≠v.ownBlock:=fun e=>by have:=(sQ _ e.symm).1;omega
   have aAW:some w.heap.size≠v.ownBlock:=fun e=>by have:=(sQ _ e.symm).1;omega
   have hsz:(prog.info? 103).map (·.size)=some 1:=by kernel_rfl
   have HI:=aA hI;have zk:=aA hcv;clear hI hcv sQ;go_wp2;refine fH (S:=(fun w'=>w'.cell? ⟨w.heap.size,1,none⟩=some (.int .i64 (n:Int))∧w'.there W1.heap.size 7 1)) 15 rfl (by kernel_rfl) ?_ (fun hHeld=>?_)
   ·exact ⟨hcN,FC⟩
   repeat' first
    |(
     (first|refine ZY [4,7,9,10,11,14] 14 (by rfl) (by decide +kernel) ?_|refine ZY [4,7,9,10,11,14] 15 (by rfl) (by decide +kernel) ?_)
     refine ⟨_,by exact fun _ _ _ h=>h,.inl ⟨by rfl,fun w hS=>by (try dsimp only at hS);go_simp;(try with_reducible rfl)⟩,by assumption,?_⟩
     (try go_frame)
     )
    |(
     (first|refine pF 7 (by rfl) (by decide +kernel) (fun K hK PY=>?_)|refine pF 9 (by rfl) (by decide +kernel) (fun K hK PY=>?_)|refine pF 10 (by rfl) (by decide +kernel) (fun K hK PY=>?_)|refine pF 11 (by rfl) (by decide +kernel) (fun K hK PY=>?_)|refine pF 14 (by rfl) (by decide +kernel) (fun K hK PY=>?_)|refine pF 4 (by rfl) (by decide +kernel) (fun K hK PY=>?_)|refine fC (rs:=[4,7]) (by decide +kernel) (by simp) (JF (by rfl) (fun K hK PY=>?_) (JF (by rfl) (fun K hK PY=>?_) AllReadyH.nil))|refine fC (rs:=[4,9]) (by decide +kernel) (by simp) (JF (by rfl) (fun K hK PY=>?_) (JF (by rfl) (fun K hK PY=>?_) AllReadyH.nil))|refine fC (rs:=[4,10]) (by decide +kernel) (by simp) (JF (by rfl) (fun K hK PY=>?_) (JF (by rfl) (fun K hK PY=>?_) AllReadyH.nil)))
     all_goals first
      |(
       have _:On 4:=PY;rw [aJ (by rfl)];refine jG _ _ rfl _ _ v rfl (by kernel_rfl) (by refine aI ?_ zk.out;repeat (first|exact aT _ _|refine dU ?_|refine cI ?_ (by first|(simp;done)|(simp;omega)) _)) ?_;refine hK.out _ _ ?_ (fun hHeld=>?_)
       ·exact hHeld
       clear hK K PY
       (try go_frame)
       )
      |(
       have _:On 11:=PY;refine yE _ rfl (.tmp 65) (.tmp 71) 103 rfl (W1.heap.size+1) 107 pi (.pointer none) 1 8 underlying103 HPI.out HP1.out HP2.out HP3.out rfl (by decide) v k (ptrs bT k) rfl ?_ ⟨wr.heap.size+1+1,0,none⟩ 1 1 [.pointer (some ⟨wr.heap.size+1,0,none⟩)] rfl rfl ?_ (by simp [Value.oneCell']) (by decide) (by unfold maxLen;omega) (by omega) ?_ (wr.heap.size+1+1+1) (by simp) ?_
       ·exact ((HI.out.2.1.alloc _).alloc _).alloc _
       ·exact jH (Row.drew (aV (by simp)))
       ·simp;omega
       intro g gc w4 hown dP hat oQ;have HO:=aA hown;have HG:=aA dP;have HA:=aA hat;clear hown dP hat;refine hK.out _ _ ?_ (fun hHeld=>?_)
       ·exact aBj HG.out hHeld YG aAW
       clear hK K PY
       (try go_frame)
       )
      |(
       have _:On 14:=PY;rw [aJ (by rfl)];refine aY _ _ _ rfl W1.heap.size 7 _ rfl rfl rfl rfl hHeld.2 hsz ?_;refine hK.out _ _ ?_ (fun hHeld=>?_)
       ·exact ⟨(IY _ _ _ _ (by simp;omega)).trans hHeld.1,bA hHeld.2 _ rfl _⟩
       clear hK K PY
       (try go_frame)
       )
      |(
       go_simp;refine hK.out _ _ ?_ (fun hHeld=>?_)
       ·exact ⟨aI (aB _ _) hHeld.1,BJ hHeld.2 _⟩
       clear hK K PY
       (try go_frame)
       )
     )
    |(
     refine cC (by decide +kernel) ?_ _
     (try go_wp2_with fail)
     go_roundw
     case rel=>exact ⟨k+1,_,_,_,by omega,by go_num,RfI.next rfl HI.out (dU (cI (cI (aB _ _) (by simp) _) (by simp;omega) _)) (Nat.le_succ _) (bQ _) (by omega) (Row.drew (Row.alloc (aV (xs:=VF n wr.heap.size) (by simp)) _)) (Row.drew (Row.alloc (Row.alloc (aV rfl) _) _)) HO.out HG.out (Or.imp_right (fun h=>by rw [h];simp) HA.out)⟩
     case measure=>simp [intOf];omega
     )
  ·have hke:k=n:=by omega
   subst hke;have HI:=aA hI;clear hI;have hlt':¬(k:Int)<(k:Int):=by omega
   go_wp2
   go_ret2
   exact ⟨W1.heap.size,rfl,W1,_,_,v,bT,bF,rfl,HBW.out,HI.out,.inr ⟨rfl,g1,g2,rfl,rfl,by omega,by omega,aKo.out,aKp.out⟩⟩
structure aDx (b n g gc:Nat) (bT:Nat→Nat) (kind cap st co:Int) (vn vo:Value) (w:World):Prop where
 row:Row w b 105 (XI kind n cap st co vn vo++[.slice (some ⟨g,0,none⟩) n gc,.slice none 0 0])
 ptr:∀ t,t<n→w.cell? ⟨g,t,none⟩=some (.pointer (some ⟨bT t,0,none⟩))
 ended:∀ t,t<n→w.cell? ⟨bT t,1,none⟩=some (.int .i64 0)
 part:∀ t,t<n→w.cell? ⟨bT t,3,none⟩=some (.int .i64 0)
theorem tP.reads {w0:World} {kind:Int} {n:Nat} {cap st co:Int} {nx ou:List Int} {vn vo:Value} {b:Nat} {w:World} (h:tP w0 kind n cap st co nx ou vn vo b w) (hn:1≤n) :
  ∃ g gc bT ax PN,aDx b n g gc bT kind cap st co ax PN w∧Below w0.heap.size w0 w:=by
 obtain ⟨W1,ax,PN,v,bT,bF,rfl,hb,hI,-⟩:=h;obtain ⟨hE,hO,hT,-,hB⟩:=hI;obtain ⟨hl,⟨rfl,hn0⟩|⟨g,gc,cur,rfl,-,hg,hnc,hcm,hcs,yw⟩⟩:=hO
 ·omega
 ·refine ⟨g,gc,bT,ax,PN,⟨hE,fun t ht=>?_,fun t ht=>(hT t ht).1.cell_of rfl,fun t ht=>(hT t ht).1.cell_of rfl⟩,aS hb hB hb.size⟩
  rw [cell_of_row w g _ cur _ _ hg];have:(ptrs bT n)[t]?=some (.pointer (some ⟨bT t,0,none⟩)):=by simp [ptrs,zY ht]
  rw [←yw,IZ] at this
  split at this
  ·simpa using this
  ·cases this
section
variable {b n g gc:Nat} {bT:Nat→Nat} {kind cap st co:Int} {vn vo:Value} (w:World)
end
end Go.Proofs.YtefjhnhdagolhaaGreat
