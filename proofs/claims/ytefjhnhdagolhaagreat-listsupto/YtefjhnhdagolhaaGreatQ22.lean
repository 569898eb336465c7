import Derived.Test.YtefjhnhdagolhaaGreatQ04
import Derived.Test.YtefjhnhdagolhaaGreatQ21
import Derived.Test.YtefjhnhdagolhaaGreatQ19
namespace Go.Proofs.YtefjhnhdagolhaaGreat.list
open Go.RowKit
open M (aI aC aD Op dA aS cA aO aG aJ)
attribute [local go_sem ↓] Go.wp_at_zero Go.wp_at_succ
section
variable {σ:Type} {R:SR σ} {L:Lt} {S:Nat→Prop} {E E':cA σ} {w:World} {t:Nat}
theorem iK {w W W2:World} {b1 b2 o1 o2 b3:Nat} {u1 u2 u3 u4 u5 v0:Value} (hb:Below W.heap.size W W2) (h:Below w.heap.size w W∧W.cell? ⟨b1,o1,none⟩=some u1∧W.cell? ⟨b2,o2,none⟩=some u2∧W.cell? ⟨b1,o1+15,none⟩=some v0∧W.cell? ⟨b3,0,none⟩=some u3∧W.cell? ⟨b3,1,none⟩=some u4∧W.cell? ⟨b3,2,none⟩=some u5) :
  Below w.heap.size w W2∧W2.cell? ⟨b1,o1,none⟩=some u1∧W2.cell? ⟨b2,o2,none⟩=some u2∧W2.cell? ⟨b1,o1+15,none⟩=some v0∧W2.cell? ⟨b3,0,none⟩=some u3∧W2.cell? ⟨b3,1,none⟩=some u4∧W2.cell? ⟨b3,2,none⟩=some u5:=by
 obtain ⟨h0,h1,h2,k0,h3,h4,h5⟩:=h
 exact ⟨Below.next h0 hb h0.size,cell_later hb h1,cell_later hb h2,cell_later hb k0,cell_later hb h3,cell_later hb h4,cell_later hb h5⟩
theorem XC {I:Nat→Prop} {w W w2 w3:World} {b6:Nat} {s:σ} {c:List Value} (hz:R.rep (fun k=>I k∨(W.heap.size≤k∧k<w2.heap.size)) w2 s c) (hI:∀ k,I k→k<w.heap.size) (hwW:w.heap.size≤W.heap.size) (hb6:w.heap.size≤b6) (KE:b6<W.heap.size∨w2.heap.size≤b6)
  (h3:∀ k,k<w2.heap.size→k≠b6→w3.heap[k]?=w2.heap[k]?) (hs:w2.heap.size≤w3.heap.size):R.rep (fun k=>I k∨(w.heap.size≤k∧k<w3.heap.size)) w3 s c:=by
 refine R.stay (fun k hk hlt=>?_) hz
 rcases hk with hk|hk
 ·have:=hI k hk
  exact ⟨.inl hk,h3 k hlt (by omega)⟩
 ·exact ⟨.inr ⟨by omega,by omega⟩,h3 k hlt (by omega)⟩
theorem nX {w W:World} {b1 b2 o1 o2 b3 b6:Nat} {u1 u2 u3 u4 u5 v0:Value} (vs:List Value) (q6:w.heap.size≤b6) (q1:b1<b6) (q2:b2<b6) (q3:b3<b6) (h:Below w.heap.size w W∧W.cell? ⟨b1,o1,none⟩=some u1∧W.cell? ⟨b2,o2,none⟩=some u2∧W.cell? ⟨b1,o1+15,none⟩=some v0∧W.cell? ⟨b3,0,none⟩=some u3∧W.cell? ⟨b3,1,none⟩=some u4∧W.cell? ⟨b3,2,none⟩=some u5) :
  Below w.heap.size w (W.setCells b6 0 vs)∧(W.setCells b6 0 vs).cell? ⟨b1,o1,none⟩=some u1∧(W.setCells b6 0 vs).cell? ⟨b2,o2,none⟩=some u2∧(W.setCells b6 0 vs).cell? ⟨b1,o1+15,none⟩=some v0∧(W.setCells b6 0 vs).cell? ⟨b3,0,none⟩=some u3∧(W.setCells b6 0 vs).cell? ⟨b3,1,none⟩=some u4∧(W.setCells b6 0 vs).cell? ⟨b3,2,none⟩=some u5:=by
 obtain ⟨h0,h1,h2,k0,h3,h4,h5⟩:=h
 have out:∀ {b o:Nat} {u:Value},b<b6→W.cell? ⟨b,o,none⟩=some u→(W.setCells b6 0 vs).cell? ⟨b,o,none⟩=some u:=fun hb hu=>by
  rw [World.cell?_setCells_out b6 vs 0 W _ (fun q _=>by dsimp only at q;omega)]
  exact hu
 exact ⟨bA q6 vs 0 W h0,out q1 h1,out q2 h2,out q1 k0,out q3 h3,out q3 h4,out q3 h5⟩
theorem oY (e:aS σ) (cv cf:List Value) (pv:Value) (hv:cv.length=1+1) (hf:cf.length=1+1) (j:Nat) (hj:j<2*(1+1)):(bO L t e cv cf pv)[15+j]?=(cv++cf)[j]?:=by
 unfold bO
 rw [List.getElem?_append_left (by simp [hv,hf];omega),List.append_assoc,List.getElem?_append_right (by simp)]
 simp
theorem CZ (l1 l2 m n:List Value) {j c:Nat} (h1:l1.length=c) (h2:l2.length=c) (hj:c≤j):((l1++m)++n)[j]?=((l2++m)++n)[j]?:=by
 have e:∀ l:List Value,l.length=c→((l++m)++n)[j]?=(m++n)[j-c]?:=fun l hl=>by rw [List.append_assoc,List.getElem?_append_right (by omega),hl]
 rw [e l1 h1,e l2 h2]
structure eV (R:SR σ) (P:M.Plain σ) (L:Lt) (fA:Nat) (rv:Value):Prop where
 z:M.qH R.sz P
 m:∀ W,(method 553 L.oT L.ov "Apply").run Tryz.prog W = .ok (fA,rv) W
 c:∀ (s o:Value) (W:World),(callFunc fA #[rv,s,o]).run Tryz.prog W = .ok (.enter fA #[rv,s,o]) W
 ap:∀ (I:Nat→Prop) (W:World) (s:σ) (x0:Value) (op:M.Op),R.rep I W s [x0]→R.sz s≤1000000000000→(∀ k,I k→k<W.heap.size) →
  Calls Tryz.prog fA #[rv,x0,.agg #[.int .i64 op.c,.int .i64 op.a,.int .i64 op.b]] W fun e w'=>∃ y0:Value,e = .returned (.tuple #[y0,.agg #[.int .i64 (P.apply s op).2.s,.int .i64 (P.apply s op).2.v]]) ∧
   R.rep (fun k=>I k∨(W.heap.size≤k∧k<w'.heap.size)) w' (P.apply s op).1 [y0]∧Below W.heap.size W w'
set_option maxRecDepth 20000 in
set_option maxHeartbeats 4000000 in
theorem DC {P:M.Plain σ} {fA:Nat} {rv:Value} (hA:eV R P L fA rv) (h:RE R L S E w) (ht:t<L.n) {k:Nat} (hk:k<L.n) {v f:dA σ} (hv:(E.th t).now=some v) (hf:(E.th t).dM=some f) (hsz:R.sz v.st≤1000000000000) :
  Calls Tryz.prog 281 #[.pointer (some ⟨L.g,t*28,none⟩),.int .i64 (k:Int)] w fun e w'=>e = .returned (.tuple #[])∧Left R L S w {E with th:=aI E.th t (aS.apply P L.n (E.th t) k)} w':=by
 obtain ⟨cv,cf,pv,hc,hcv,dN,-,hfz⟩:=h.cells ht rfl
 have nU:=hcv.2 v hv
 have hfr:=dN.2 f hf
 obtain ⟨x0,xl,rfl⟩:∃ x0 l,cv=[x0]++[l]:=by obtain ⟨c0,c1,rfl⟩:=aH hcv.1;exact ⟨_,_,rfl⟩
 obtain ⟨y0,y1,rfl⟩:=aH dN.1
 have hn:=h.ok.n64
 have lD:=h.ok.n1
 have c0:w.cell? ⟨L.g,t*28,none⟩=some (.pointer (some ⟨L.bS,0,none⟩)):=hc 0 _ (by decide) rfl
 have s1:w.cell? ⟨L.bS,1,none⟩=some (.iface L.oT L.ov):=h.sh.cell_of rfl
 have xc0:=hc 15 _ (by decide) rfl
 have hh0:=hc 21 _ (by decide) rfl
 have hh1:=hc 22 _ (by decide) rfl
 have hh2:=hc 23 _ (by decide) rfl
 have aAU:=fun ob=>aX hh0 ob
 have aAV:=fun ob=>aX hh1 ob
 have aAW:=fun ob=>aX hh2 ob
 have HH:=aA h
 have HV:=aA (And.intro nU hfr)
 have HC:=aA (And.intro hv hf)
 have HX:=aA (show ∀ j,j<2*(1+1)→w.cell? ⟨L.g,t*28+(15+j),none⟩=(([x0]++[xl])++[y0,y1])[j]? from fun j hj=>by
  have q:=oY (L:=L) (t:=t) (E.th t) ([x0]++[xl]) [y0,y1] pv hcv.1 dN.1 j hj
  obtain ⟨u,hu⟩:∃ u,(([x0]++[xl])++[y0,y1])[j]?=some u:=⟨_,List.getElem?_eq_getElem (by simp;omega)⟩
  rw [hu] at q ⊢
  exact hc (15+j) u (by omega) q)
 clear h hc hcv dN nU hfr hfz hv hf
 go_enter Tryz.func281,Tryz.ntmps281
 go_wp2
 go_region
 generalize gJ:World.drew _=W1
 have dU:Below w.heap.size w W1:=by rw [←gJ];exact Below.drew (aB w _)
 have hro:Row W1 w.heap.size 36 [.int .i64 ((E.th t).heard 0),.int .i64 ((E.th t).heard 1),.int .i64 ((E.th t).heard 2)]:=by rw [←gJ];exact Row.new w [_,_,_] _
 have o0:W1.cell? ⟨w.heap.size,0,none⟩=some (.int .i64 ((E.th t).heard 0)):=hro.cell_of rfl
 have o1:W1.cell? ⟨w.heap.size,1,none⟩=some (.int .i64 ((E.th t).heard 1)):=hro.cell_of rfl
 have o2:W1.cell? ⟨w.heap.size,2,none⟩=some (.int .i64 ((E.th t).heard 2)):=hro.cell_of rfl
 have e0:=cell_later dU c0
 have e1:=cell_later dU s1
 have xe0:=cell_later dU xc0
 have TD:R.rep (fun k=>S k∧¬L.own k) w v.st [x0]:=by
  obtain ⟨sc,b,hsc,hr,-⟩:=HV.out.1
  have:sc=[x0]:=(List.append_inj' hsc rfl).1.symm
  rw [←this];exact hr
 have xN:∀ k,(S k∧¬L.own k)→k<w.heap.size:=fun k hk=>HH.out.lt k hk.1
 obtain ⟨r,hr⟩:∃ r,r=P.apply v.st (M.eO (E.th t).heard):=⟨_,rfl⟩
 have TE:=aA (fun (W:World) (hW:Below w.heap.size w W)=>hA.ap (fun k=>S k∧¬L.own k) W v.st x0 (M.eO (E.th t).heard) (R.stay (fun k hk hlt=>⟨hk,hW.block k hlt⟩) TD) hsz (fun k hk=>Nat.lt_of_lt_of_le (xN k hk) hW.size))
 rw [←hr] at TE
 have rH:=aA hr
 have hm:=hA.m
 have hcl:=hA.c
 have FB:L.g<w.heap.size:=HH.out.lt _ (HH.out.ow _ fY)
 have hSl:L.bS<w.heap.size:=HH.out.lt _ (HH.out.ow _ xC)
 have aFz:w.heap.size<W1.heap.size:=hro.lt
 clear gJ hro TD hh0 hh1 hh2 aAU aAV aAW c0 s1 xc0 hr
 go_upto_region 1 with fail
 go_cut [5,6] (fun st an w'=>∃ (y0:Value) (b6:Nat),st=y0∧an = .pointer (some ⟨b6,0,none⟩)∧Row w' b6 94 [.int .i64 r.2.s,.int .i64 r.2.v]∧Below w.heap.size w w'∧w.heap.size≤b6∧R.rep (fun k=>(S k∧¬L.own k)∨(w.heap.size≤k∧k<w'.heap.size)) w' r.1 [y0])
 case first =>
  refine gO (S:=(fun w'=>Below w.heap.size w w'∧w'.cell? ⟨L.g,t*28,none⟩=some (.pointer (some ⟨L.bS,0,none⟩))∧w'.cell? ⟨L.bS,1,none⟩=some (.iface L.oT L.ov)∧w'.cell? ⟨L.g,t*28+15,none⟩=some x0∧w'.cell? ⟨w.heap.size,0,none⟩=some (.int .i64 ((E.th t).heard 0))∧w'.cell? ⟨w.heap.size,1,none⟩=some (.int .i64 ((E.th t).heard 1))∧w'.cell? ⟨w.heap.size,2,none⟩=some (.int .i64 ((E.th t).heard 2)))) 24 rfl (by kernel_rfl) ?_ (fun hHeld=>?_)
  ·exact ⟨Below.drew dU,e0,e1,xe0,o0,o1,o2⟩
  iterate 17 (refine tk 23 (by rfl) (by kernel_rfl) (by exact fun _ _ _ h=>h) (.inl ⟨by rfl,fun w hS=>by (try dsimp only at hS);go_simp;(try with_reducible rfl)⟩) (by assumption) ?_;try go_frame)
  refine wpAnyH_ready (rs:=[17,21]) (by kernel_rfl) (by simp) (rc (by rfl) (fun K hK=>?_) (rc (by rfl) (fun K hK=>?_) AllReadyH.nil))
  ·go_simp
   refine (TE.out _ hHeld.1).mono ?_
   rintro e w2 ⟨z0,rfl,hz,aP⟩
   go_wp2_with fail
   refine hK.out _ _ ?_ (fun hHeld=>?_)
   ·exact iK aP hHeld
   clear hK K
   (try go_frame)
   iterate 3 (refine tk 23 (by rfl) (by kernel_rfl) (by exact fun _ _ _ h=>h) (.inl ⟨by rfl,fun w hS=>by (try dsimp only at hS);go_simp;(try with_reducible rfl)⟩) (by assumption) ?_;try go_frame)
   refine aU 21 (by rfl) (by kernel_rfl) (fun K hK=>?_)
   go_simp
   refine hK.out _ _ ?_ (fun hHeld=>?_)
   ·exact iK (aB _ _) hHeld
   clear hK K
   (try go_frame)
   iterate 1 (refine tk 23 (by rfl) (by kernel_rfl) (by exact fun _ _ _ h=>h) (.inl ⟨by rfl,fun w hS=>by (try dsimp only at hS);go_simp;(try with_reducible rfl)⟩) (by assumption) ?_;try go_frame)
   refine aU 23 (by rfl) (by kernel_rfl) (fun K hK=>?_)
   rw [if_pos (by rfl)]
   have qJ:W1.heap.size≤w2.heap.size:=by have q:=aP.size;simp at q;omega
   refine wp_store_mid _ _ _ rfl _ 0 #[.int .i64 r.2.s,.int .i64 r.2.v] rfl rfl ?_ (by kernel_rfl) (by simp [Value.oneCell']) ?_
   ·first|exact Row.there (Row.new _ [_,_] _) (by simp)|exact aN aP (Row.there (Row.new _ [_,_] _) (by simp))
   refine hK.out _ _ ?_ (fun hHeld=>?_)
   ·exact nX _ (by omega) (by omega) (by omega) (by omega) hHeld
   clear hK K
   (try go_frame)
   refine wpAnyH_done (by kernel_rfl) ?_ _
   (try go_wp2_with fail)
   go_meet
   case rel =>
    first
     |exact ⟨z0,w2.heap.size,rfl,rfl,((Row.new' rfl).set 0 _).set 1 _,hHeld.1,by omega,XC (b6:=w2.heap.size) hz xN (by simp;omega) (by omega) (.inr (Nat.le_refl _)) (fun k hk hne=>((Below.heap_setCell _ _ _ k hne).trans (Below.heap_setCell _ _ _ k hne)).trans (Below.heap_alloc w2 _ k hk)) (by simp [World.setCells,World.setCell])⟩
     |exact ⟨z0,W1.heap.size,rfl,rfl,(((show Row (W1.alloc _).drew W1.heap.size 94 [_,_] from Row.new W1 [_,_] _).old aP).set 0 _).set 1 _,hHeld.1,by omega,XC (b6:=W1.heap.size) hz xN (by simp;omega) (by omega) (.inl (by simp)) (fun k hk hne=>(Below.heap_setCell _ _ _ k hne).trans (Below.heap_setCell _ _ _ k hne)) (by simp [World.setCells,World.setCell])⟩
  ·go_simp
   refine hK.out _ _ ?_ (fun hHeld=>?_)
   ·exact iK (aB _ _) hHeld
   clear hK K
   (try go_frame)
   refine aU 17 (by rfl) (by kernel_rfl) (fun K hK=>?_)
   go_simp
   refine (TE.out _ hHeld.1).mono ?_
   rintro e w2 ⟨z0,rfl,hz,aP⟩
   go_wp2_with fail
   refine hK.out _ _ ?_ (fun hHeld=>?_)
   ·exact iK aP hHeld
   clear hK K
   (try go_frame)
   iterate 3 (refine tk 22 (by rfl) (by kernel_rfl) (by exact fun _ _ _ h=>h) (.inl ⟨by rfl,fun w hS=>by (try dsimp only at hS);go_simp;(try with_reducible rfl)⟩) (by assumption) ?_;try go_frame)
   iterate 1 (refine tk 23 (by rfl) (by kernel_rfl) (by exact fun _ _ _ h=>h) (.inl ⟨by rfl,fun w hS=>by (try dsimp only at hS);go_simp;(try with_reducible rfl)⟩) (by assumption) ?_;try go_frame)
   refine aU 23 (by rfl) (by kernel_rfl) (fun K hK=>?_)
   rw [if_pos (by rfl)]
   have qJ:W1.heap.size≤w2.heap.size:=by have q:=aP.size;simp at q;omega
   refine wp_store_mid _ _ _ rfl _ 0 #[.int .i64 r.2.s,.int .i64 r.2.v] rfl rfl ?_ (by kernel_rfl) (by simp [Value.oneCell']) ?_
   ·first|exact Row.there (Row.new _ [_,_] _) (by simp)|exact aN aP (Row.there (Row.new _ [_,_] _) (by simp))
   refine hK.out _ _ ?_ (fun hHeld=>?_)
   ·exact nX _ (by omega) (by omega) (by omega) (by omega) hHeld
   clear hK K
   (try go_frame)
   refine wpAnyH_done (by kernel_rfl) ?_ _
   (try go_wp2_with fail)
   go_meet
   case rel =>
    first
     |exact ⟨z0,w2.heap.size,rfl,rfl,((Row.new' rfl).set 0 _).set 1 _,hHeld.1,by omega,XC (b6:=w2.heap.size) hz xN (by simp;omega) (by omega) (.inr (Nat.le_refl _)) (fun k hk hne=>((Below.heap_setCell _ _ _ k hne).trans (Below.heap_setCell _ _ _ k hne)).trans (Below.heap_alloc w2 _ k hk)) (by simp [World.setCells,World.setCell])⟩
     |exact ⟨z0,W1.heap.size,rfl,rfl,(((show Row (W1.alloc _).drew W1.heap.size 94 [_,_] from Row.new W1 [_,_] _).old aP).set 0 _).set 1 _,hHeld.1,by omega,XC (b6:=W1.heap.size) hz xN (by simp;omega) (by omega) (.inl (by simp)) (fun k hk hne=>(Below.heap_setCell _ _ _ k hne).trans (Below.heap_setCell _ _ _ k hne)) (by simp [World.setCells,World.setCell])⟩
 case rest =>
  obtain ⟨_,b6,rfl,rfl,hr6,hbc,h6,DD⟩:=hcut
  obtain ⟨q0,rfl⟩:=R.shape DD u5 (by simp)
  have hst:∀ k,(S k∧¬L.own k)→k<w.heap.size→(grown S w wc k∧¬L.own k)∧wc.heap[k]?=w.heap[k]?:=fun k hk hlt=>⟨⟨.inl hk.1,hk.2⟩,hbc.block k hlt⟩
  have rp1:R.rep (fun k=>grown S w wc k∧¬L.own k) wc r.1 [.pointer q0]:=R.stay (fun k (hk:(S k∧¬L.own k)∨(w.heap.size≤k∧k<wc.heap.size)) _=>⟨by
   rcases hk with hk|hk
   ·exact ⟨.inl hk.1,hk.2⟩
   ·exact ⟨.inr hk,fun q=>by have:=HH.out.lt _ (HH.out.ow _ q);omega⟩,rfl⟩) DD
  have vr:bU R (fun k=>grown S w wc k∧¬L.own k) wc {v with st:=r.1} ([.pointer q0]++[xl]):=by
   obtain ⟨sc,b,hsc,-,KE⟩:=HV.out.1
   have e:=(List.append_inj' hsc rfl).2
   exact ⟨[.pointer q0],b,by rw [e],rp1,eJ.stay hst xN _ _ KE⟩
  have fr:=bU.stay hst xN HV.out.2
  have XD:=Left.below HH.out hbc
  obtain ⟨r2,k2⟩:=XD.re.kK ht [.pointer q0] 0 (by simp) (by simp) vr fr (fun j hj=>by
   by_cases q:j<1
   ·rw [if_pos ⟨Nat.zero_le _,by simpa using q⟩,List.append_assoc,List.getElem?_append_left (by simpa using q)]
    rfl
   ·rw [if_neg (by simpa using q),hbc.cell (p:=⟨L.g,t*28+(15+j),none⟩) FB,HX.out j hj]
    exact CZ (c:=1) [x0] [.pointer q0] [xl] [y0,y1] rfl rfl (by omega)) {E.th t with now:=some {v with st:=r.1}} (by rw [←HC.out.2])
  have oX:=XD.next (Left.of r2 k2 rfl)
  obtain ⟨cv5,cf5,pv5,OL,wZ,xA,-,eP⟩:=XD.re.cells ht rfl
  obtain ⟨c0,c1,rfl⟩:=aH wZ.1
  obtain ⟨d0,d1,rfl⟩:=aH xA.1
  have oc0:=OL 15 _ (by decide) rfl
  have of0:=eP (t*28+15)
  have xM:=aA oX
  have ZA:=aA (And.intro hr6 h6)
  have HBC:=aA hbc
  clear hst rp1 vr fr XD r2 k2 oX OL wZ xA eP hr6 DD hbc hm hcl
  go_upto_region 3 with fail
  generalize xO:World.setCell _ _ _=W2
  have oX:Left R L S w {E with th:=aI E.th t {E.th t with now:=some {v with st:=r.1}}} W2:=by rw [←xO];exact xM.out
  have CP:Row W2 b6 94 [.int .i64 r.2.s,.int .i64 r.2.v]:=by rw [←xO];exact (show Row (wc.setCells L.g (t*28+(15+0)) [.pointer q0]) b6 94 _ from Row.bQ (by omega) _ _ ZA.out.1)
  clear xO xM
  obtain ⟨cv6,cf6,pv6,hc6,-,-,-,-⟩:=oX.re.cells ht (aC _ _ _)
  have g0:W2.cell? ⟨L.g,t*28,none⟩=some (.pointer (some ⟨L.bS,0,none⟩)):=hc6 0 _ (by decide) rfl
  have g14:=hc6 14 _ (by decide) rfl
  have gs0:W2.cell? ⟨L.bS,0,none⟩=some (.int .i64 (L.n:Int)):=oX.re.sh.cell_of rfl
  have ga0:W2.cell? ⟨b6,0,none⟩=some (.int .i64 r.2.s):=CP.cell_of rfl
  have ga1:W2.cell? ⟨b6,1,none⟩=some (.int .i64 r.2.v):=CP.cell_of rfl
  have hsk:M.aG L.n k<M.aO L.n:=by unfold M.aG M.aO;omega
  have hvk:M.aJ L.n k<M.aO L.n:=by unfold M.aJ M.aO;omega
  have vI:M.aO L.n≤200:=by unfold M.aO M.tw;omega
  have th1:W2.there (L.gD t) (M.aG L.n k) 1:=(oX.re.gd t ht).there hsk
  have th2:W2.there (L.gD t) (M.aJ L.n k) 1:=(oX.re.gd t ht).there hvk
  have WZ:L.g≠L.gD t:=by obtain ⟨T,q,-⟩:=HH.out.th;exact Row.apart q (HH.out.gd t ht) (by decide)
  have nSD:L.bS≠L.gD t:=Row.apart HH.out.sh (HH.out.gd t ht) (by decide)
  have n6D:b6≠L.gD t:=fun q=>by have:=HH.out.lt _ (HH.out.ow _ (kJ ht));have:=ZA.out.2;omega
  have xM:=aA oX
  generalize TF:M.aG L.n k=sk at *
  generalize TG:M.aJ L.n k=vk at *
  have aFA:(sk:Int)<(M.aO L.n:Int):=by omega
  have aFB:(vk:Int)<(M.aO L.n:Int):=by omega
  clear oX CP hc6
  go_cut [6] (fun an w'=>an = .pointer (some ⟨b6,0,none⟩)∧Left R L S w {E with th:=aI (aI E.th t {E.th t with now:=some {v with st:=r.1}}) t {(aI E.th t {E.th t with now:=some {v with st:=r.1}}) t with dw:=aI ((aI E.th t {E.th t with now:=some {v with st:=r.1}}) t).dw sk r.2.s}} w'∧w'.cell? ⟨L.g,t*28,none⟩=some (.pointer (some ⟨L.bS,0,none⟩))∧w'.cell? ⟨L.g,t*28+14,none⟩=some (.slice (some ⟨L.gD t,0,none⟩) (M.aO L.n) (M.aO L.n))∧w'.cell? ⟨L.bS,0,none⟩=some (.int .i64 (L.n:Int))∧w'.cell? ⟨b6,1,none⟩=some (.int .i64 r.2.v)∧w'.there (L.gD t) vk 1)
  case first =>
   refine gO (S:=(fun w'=>w'.cell? ⟨L.g,t*28,none⟩=some (.pointer (some ⟨L.bS,0,none⟩))∧w'.cell? ⟨L.g,t*28+14,none⟩=some (.slice (some ⟨L.gD t,0,none⟩) (M.aO L.n) (M.aO L.n))∧w'.cell? ⟨L.bS,0,none⟩=some (.int .i64 (L.n:Int))∧w'.cell? ⟨b6,0,none⟩=some (.int .i64 r.2.s)∧w'.cell? ⟨b6,1,none⟩=some (.int .i64 r.2.v)∧w'.there (L.gD t) (sk) 1∧w'.there (L.gD t) (vk) 1)) 18 rfl (by kernel_rfl) ?_ (fun hHeld=>?_)
   ·exact ⟨g0,g14,gs0,ga0,ga1,th1,th2⟩
   iterate 13 (refine tk 17 (by rfl) (by kernel_rfl) (by exact fun _ _ _ h=>h) (.inl ⟨by rfl,fun w hS=>by (try dsimp only at hS);go_simp;(try with_reducible rfl)⟩) (by assumption) ?_;try go_frame)
   iterate 2 (refine tk 18 (by rfl) (by kernel_rfl) (by exact fun _ _ _ h=>h) (.inl ⟨by rfl,fun w hS=>by (try dsimp only at hS);go_simp;(try with_reducible rfl)⟩) (by assumption) ?_;try go_frame)
   refine aU 13 (by rfl) (by kernel_rfl) (fun K hK=>?_)
   go_simp
   refine (jX L.n k _ lD hn hk).mono ?_
   rintro e w3 ⟨rfl,cH⟩
   rw [TF]
   go_wp2_with fail
   refine hK.out _ _ ?_ (fun hHeld=>?_)
   ·exact ⟨cell_later cH hHeld.1,cell_later cH hHeld.2.1,cell_later cH hHeld.2.2.1,cell_later cH hHeld.2.2.2.1,cell_later cH hHeld.2.2.2.2.1,aN cH hHeld.2.2.2.2.2.1,aN cH hHeld.2.2.2.2.2.2⟩
   clear hK K
   (try go_frame)
   iterate 1 (refine tk 17 (by rfl) (by kernel_rfl) (by exact fun _ _ _ h=>h) (.inl ⟨by rfl,fun w hS=>by (try dsimp only at hS);go_simp;(try with_reducible rfl)⟩) (by assumption) ?_;try go_frame)
   refine aU 17 (by rfl) (by kernel_rfl) (fun K hK=>?_)
   rw [if_pos (by rfl)]
   refine aM _ _ _ rfl (L.gD t) sk (.int .i64 r.2.s) rfl rfl rfl rfl hHeld.2.2.2.2.2.1 (by kernel_rfl) ?_
   refine hK.out _ _ ?_ (fun hHeld=>?_)
   ·exact ⟨aF hHeld.1 (by first|exact .inr (by dsimp only;omega)|exact .inl (by assumption)|exact .inl (Ne.symm (by assumption))),aF hHeld.2.1 (by first|exact .inr (by dsimp only;omega)|exact .inl (by assumption)|exact .inl (Ne.symm (by assumption))),aF hHeld.2.2.1 (by first|exact .inr (by dsimp only;omega)|exact .inl (by assumption)|exact .inl (Ne.symm (by assumption))),aF hHeld.2.2.2.1 (by first|exact .inr (by dsimp only;omega)|exact .inl (by assumption)|exact .inl (Ne.symm (by assumption))),aF hHeld.2.2.2.2.1 (by first|exact .inr (by dsimp only;omega)|exact .inl (by assumption)|exact .inl (Ne.symm (by assumption))),aQ hHeld.2.2.2.2.2.1 _ rfl _,aQ hHeld.2.2.2.2.2.2 _ rfl _⟩
   clear hK K
   (try go_frame)
   refine wpAnyH_done (by kernel_rfl) ?_ _
   have hL3:=xM.out.next (Left.below xM.out.re (Below.cJ cH))
   have hL4:=hL3.next (Left.of (hL3.re.gP t ht sk r.2.s) (Fr.set w3 (kJ ht) _) rfl)
   have JW:=aA hL4
   clear hL3 hL4 cH
   (try go_wp2_with fail)
   go_meet
   case rel=>exact ⟨rfl,JW.out,hHeld.1,hHeld.2.1,hHeld.2.2.1,hHeld.2.2.2.2.1,hHeld.2.2.2.2.2.2⟩
  case rest =>
   obtain ⟨rfl,hL5,i0,i14,is0,ia1,ith⟩:=hcut
   have sU:=aA hL5
   clear hL5 g0 g14 gs0 ga0 ga1 th1 th2
   go_upto_region 4 with fail
   refine gO (S:=(fun w'=>w'.cell? ⟨L.g,t*28,none⟩=some (.pointer (some ⟨L.bS,0,none⟩))∧w'.cell? ⟨L.g,t*28+14,none⟩=some (.slice (some ⟨L.gD t,0,none⟩) (M.aO L.n) (M.aO L.n))∧w'.cell? ⟨L.bS,0,none⟩=some (.int .i64 (L.n:Int))∧w'.cell? ⟨b6,1,none⟩=some (.int .i64 r.2.v)∧w'.there (L.gD t) (vk) 1)) 18 rfl (by kernel_rfl) ?_ (fun hHeld=>?_)
   ·exact ⟨i0,i14,is0,ia1,ith⟩
   iterate 13 (refine tk 17 (by rfl) (by kernel_rfl) (by exact fun _ _ _ h=>h) (.inl ⟨by rfl,fun w hS=>by (try dsimp only at hS);go_simp;(try with_reducible rfl)⟩) (by assumption) ?_;try go_frame)
   iterate 2 (refine tk 18 (by rfl) (by kernel_rfl) (by exact fun _ _ _ h=>h) (.inl ⟨by rfl,fun w hS=>by (try dsimp only at hS);go_simp;(try with_reducible rfl)⟩) (by assumption) ?_;try go_frame)
   refine aU 13 (by rfl) (by kernel_rfl) (fun K hK=>?_)
   go_simp
   refine (lK L.n k _ lD hn hk).mono ?_
   rintro e w7 ⟨rfl,zR⟩
   rw [TG]
   go_wp2_with fail
   refine hK.out _ _ ?_ (fun hHeld=>?_)
   ·exact ⟨cell_later zR hHeld.1,cell_later zR hHeld.2.1,cell_later zR hHeld.2.2.1,cell_later zR hHeld.2.2.2.1,aN zR hHeld.2.2.2.2⟩
   clear hK K
   (try go_frame)
   iterate 1 (refine tk 17 (by rfl) (by kernel_rfl) (by exact fun _ _ _ h=>h) (.inl ⟨by rfl,fun w hS=>by (try dsimp only at hS);go_simp;(try with_reducible rfl)⟩) (by assumption) ?_;try go_frame)
   refine aU 17 (by rfl) (by kernel_rfl) (fun K hK=>?_)
   rw [if_pos (by rfl)]
   refine aM _ _ _ rfl (L.gD t) vk (.int .i64 r.2.v) rfl rfl rfl rfl hHeld.2.2.2.2 (by kernel_rfl) ?_
   refine hK.out _ _ ?_ (fun hHeld=>?_)
   ·exact ⟨aF hHeld.1 (by first|exact .inr (by dsimp only;omega)|exact .inl (by assumption)|exact .inl (Ne.symm (by assumption))),aF hHeld.2.1 (by first|exact .inr (by dsimp only;omega)|exact .inl (by assumption)|exact .inl (Ne.symm (by assumption))),aF hHeld.2.2.1 (by first|exact .inr (by dsimp only;omega)|exact .inl (by assumption)|exact .inl (Ne.symm (by assumption))),aF hHeld.2.2.2.1 (by first|exact .inr (by dsimp only;omega)|exact .inl (by assumption)|exact .inl (Ne.symm (by assumption))),aQ hHeld.2.2.2.2 _ rfl _⟩
   clear hK K
   (try go_frame)
   refine wpAnyH_done (by kernel_rfl) ?_ _
   have hL7:=sU.out.next (Left.below sU.out.re (Below.cJ zR))
   have hL8:=hL7.next (Left.of (hL7.re.gP t ht vk r.2.v) (Fr.set w7 (kJ ht) _) rfl)
   have HL8:=aA hL8
   clear hL7 hL8 zR hHeld
   go_wp2
   refine bodyPost_end (v:=.tuple #[]) (by simp [results,Tryz.results281,go_sem]) rfl ⟨rfl,HL8.out.cast ?_⟩
   simp only [aV,aC]
   unfold aS.apply
   rw [HC.out.1]
   simp only [←rH.out,TF,TG]
end
end Go.Proofs.YtefjhnhdagolhaaGreat.list
namespace Go.Proofs.YtefjhnhdagolhaaGreat.list
open Go.RowKit
open M (aI aC aD Op dA aS cA aO aG aJ)
attribute [local go_sem ↓] Go.wp_at_zero Go.wp_at_succ
section
variable {σ:Type} {R:SR σ} {L:Lt} {S:Nat→Prop} {E E':cA σ} {w:World} {t:Nat}
theorem RE.kO (ht:t<L.n):∀ (vs:List Int) (o:Nat) (E:cA σ) (w:World),RE R L S E w→RE R L S {E with th:=aI E.th t {E.th t with dw:=fun i=>if o≤i∧i<o+vs.length then vs.getD (i-o) 0 else (E.th t).dw i}} (w.setCells (L.gD t) o (ints vs))∧Fr L.own w (w.setCells (L.gD t) o (ints vs))
 |[],o,E,w,h=>by
  refine ⟨h.cast ?_,Fr.refl _ w⟩
  have e:(fun i=>if o≤i∧i<o+([]:List Int).length then ([]:List Int).getD (i-o) 0 else (E.th t).dw i)=(E.th t).dw:=by
   funext i
   rw [if_neg (by simp)]
  rw [e]
  have u:aI E.th t (E.th t)=E.th:=by funext k;unfold aI;split<;>simp_all
  rw [u]
 |v::vs,o,E,w,h=>by
  have r1:=h.gP t ht o v
  obtain ⟨r2,k2⟩:=RE.kO ht vs (o+1) _ _ r1
  refine ⟨r2.cast ?_,(Fr.set w (kJ ht) _).trans k2⟩
  simp only [aV,aC]
  congr 2
  have e:(fun i=>if o+1≤i∧i<o+1+vs.length then vs.getD (i-(o+1)) 0 else aI (E.th t).dw o v i)=fun i=>if o≤i∧i<o+(v::vs).length then (v::vs).getD (i-o) 0 else (E.th t).dw i:=by
   funext i
   simp only [List.length_cons]
   by_cases q:i=o
   ·subst q
    rw [if_neg (by omega),if_pos (by omega),aC]
    simp
   ·rw [aD _ _ q]
    by_cases q2:o+1≤i∧i<o+1+vs.length
    ·rw [if_pos q2,if_pos (by omega),show i-o=(i-(o+1))+1 by omega]
     simp
    ·rw [if_neg q2,if_neg (by omega)]
  rw [e]
theorem tU (ht:t<L.n) {wc W3:World} {gp pl pc bv bf:Nat} {a0 b0:Value} {v f:dA σ}
  (hL:Left R L S w {E with th:=aI E.th t {E.th t with dw:=fun i=>if i<M.tw L.n then (E.th t).tg i else (E.th t).dw i}} wc) (cH:Below wc.heap.size wc W3)
  (hrow:Row W3 wc.heap.size 306 [.int .i64 (((E.th t).stamp+1:Nat):Int),.slice (some ⟨gp,0,none⟩) pl pc,.pointer (some ⟨bf,0,none⟩)]) (OV:grown S w wc gp∧¬L.own gp) (rW:Sl wc (.slice (some ⟨gp,0,none⟩) pl pc) (ints ((E.th t).aK.map Int.ofNat)))
  (TI:R.rep (fun k=>grown S w wc k∧¬L.own k) wc v.st [a0]) (TJ:R.rep (fun k=>grown S w wc k∧¬L.own k) wc f.st [b0]) (TK:eJ (fun k=>grown S w wc k∧¬L.own k) wc f.bs.reverse bf)
  (hX:∀ j,j<2*(1+1)→wc.cell? ⟨L.g,t*28+(15+j),none⟩=(([a0]++[.pointer (some ⟨bv,0,none⟩)])++([b0]++[.pointer (some ⟨bf,0,none⟩)]))[j]?) (hv:(E.th t).now=some v) (hf:(E.th t).dM=some f) :
  Left R L S w {E with th:=aI E.th t (aS.close L.n (E.th t))} (W3.setCell ⟨L.g,t*28+16,none⟩ (.pointer (some ⟨wc.heap.size,0,none⟩))):=by
 have hLb:=Left.below hL.re cH
 have FB:L.g<wc.heap.size:=hL.re.lt _ (hL.re.ow _ fY)
 have hst:∀ k,(grown S w wc k∧¬L.own k)→k<wc.heap.size→(grown (grown S w wc) wc W3 k∧¬L.own k)∧W3.heap[k]?=wc.heap[k]?:=fun k hk hlt=>⟨⟨.inl hk.1,hk.2⟩,cH.block k hlt⟩
 have hI:∀ k,(grown S w wc k∧¬L.own k)→k<wc.heap.size:=fun k hk=>hL.re.lt k hk.1
 have vr:bU R (fun k=>grown (grown S w wc) wc W3 k∧¬L.own k) W3 {v with bs:=f.bs++[((E.th t).stamp+1,(E.th t).aK)]} ([a0]++[.pointer (some ⟨wc.heap.size,0,none⟩)]):=by
  refine ⟨[a0],wc.heap.size,rfl,R.stay hst TI,?_⟩
  show eJ _ W3 (f.bs++[((E.th t).stamp+1,(E.th t).aK)]).reverse wc.heap.size
  rw [List.reverse_append]
  exact ⟨_,bf,⟨.inr ⟨Nat.le_refl _,hrow.lt⟩,fun q=>by have:=hL.re.lt _ (hL.re.ow _ q);omega⟩,hrow,⟨gp,(hst gp OV (hI gp OV)).1,Sl.stay rfl rW (fun q=>(hst gp OV q).2),_,_,rfl⟩,eJ.stay hst hI _ _ TK⟩
 have fr:bU R (fun k=>grown (grown S w wc) wc W3 k∧¬L.own k) W3 f ([b0]++[.pointer (some ⟨bf,0,none⟩)]):=⟨[b0],bf,rfl,R.stay hst TJ,eJ.stay hst hI _ _ TK⟩
 obtain ⟨r2,k2⟩:=hLb.re.kK ht [.pointer (some ⟨wc.heap.size,0,none⟩)] 1 (by simp) (by simp) vr fr (fun j hj=>by
  by_cases q:j=1
  ·subst q
   rfl
  ·rw [if_neg (by simp;omega),cH.cell (p:=⟨L.g,t*28+(15+j),none⟩) FB,hX j hj]
   rcases (by omega:j=0∨j=1∨j=2∨j=3) with q2|q2|q2|q2<;>subst q2<;>first|rfl|exact absurd rfl q) (aS.close L.n (E.th t)) (by
  simp only [aC]
  unfold aS.close
  rw [hv,hf]
  rfl)
 have:=hL.next (hLb.next (Left.of r2 k2 rfl))
 refine this.cast ?_
 simp only [aV]
set_option maxRecDepth 20000 in
set_option maxHeartbeats 4000000 in
theorem sV (h:RE R L S E w) (ht:t<L.n) (hN:(E.th t).stamp≤1000000000) (hr:(E.th t).aW<129) {v f:dA σ} (hv:(E.th t).now=some v) (hf:(E.th t).dM=some f) (hp:(E.th t).aK≠[]) :
  Calls Tryz.prog 282 #[.pointer (some ⟨L.g,t*28,none⟩)] w fun e w'=>e = .returned (.tuple #[])∧Left R L S w {E with th:=aI E.th t (aS.close L.n (E.th t))} w':=by
 obtain ⟨cv,cf,pv,hc,hcv,dN,-,-⟩:=h.cells ht rfl
 obtain ⟨x0,x1,rfl⟩:=aH hcv.1
 obtain ⟨y0,y1,rfl⟩:=aH dN.1
 have hn:=h.ok.n64
 have MJ:M.tw L.n≤M.aO L.n:=by unfold M.aO;omega
 have vI:M.aO L.n≤200:=by unfold M.aO M.tw;omega
 have CU:=hc 14 _ (by decide) rfl
 have cg:=hc 19 _ (by decide) rfl
 have WZ:L.g≠L.gD t:=by obtain ⟨T,q,-⟩:=h.th;exact Row.apart q (h.gd t ht) (by decide)
 obtain ⟨vJ,xP⟩:∃ vJ,vJ=(List.range (M.tw L.n)).map (E.th t).tg:=⟨_,rfl⟩
 have hlen:(ints vJ).length=M.tw L.n:=by rw [xP];simp [ints]
 have aA0:=aA (show ∀ j u,(ints vJ)[j]?=some u→w.cell? ((⟨L.gG t,0,none⟩:Addr).add j)=some u from fun j u hj=>by
  have hj2:j<M.tw L.n:=by rw [←hlen];exact (List.getElem?_eq_some_iff.1 hj).1
  rw [eM,Nat.zero_add,(h.gg t ht).cell hj2]
  rw [xP,fH,List.getElem?_map,List.getElem?_range hj2] at hj
  simpa using hj)
 have aA1:=aA (show ∀ j,j<(ints vJ).length→(w.cell? ⟨L.gD t,0+j,none⟩).isSome=true from fun j hj=>by rw [Nat.zero_add,(h.gd t ht).cell (by omega)];rfl)
 have HFZ:=aA (show ∀ j,j<(ints vJ).length→w.frozen? ⟨L.gD t,0+j,none⟩=false from fun j _=>(h.gd t ht).frozen _)
 have hdw:(fun i=>if 0≤i∧i<0+vJ.length then vJ.getD (i-0) 0 else (E.th t).dw i)=fun i=>if i<M.tw L.n then (E.th t).tg i else (E.th t).dw i:=by
  have YN:vJ.length=M.tw L.n:=by simpa [ints] using hlen
  funext i
  rw [YN]
  by_cases q:i<M.tw L.n
  ·rw [if_pos ⟨Nat.zero_le _,by omega⟩,if_pos q,xP]
   simp [List.getD_eq_getElem?_getD,List.getElem?_range q]
  ·rw [if_neg (by omega),if_neg q]
 obtain ⟨r1,k1⟩:=RE.kO ht vJ 0 E w.drew h.drew
 rw [hdw] at r1
 have H1:=aA (Left.of r1 (show Fr L.own w _ from ⟨k1.os,k1.tape,k1.output,k1.size,k1.block⟩) rfl)
 have HH:=aA h
 have HC:=aA (And.intro hv (And.intro hf hp))
 have XE:=aA xP
 have HLN:=aA hlen
 clear h hc hcv dN hv hf hp r1 k1 hdw xP hlen
 go_enter Tryz.func282,Tryz.ntmps282
 go_upto_region 0 with fail
 go_cut [11] (fun _ w'=>Left R L S w {E with th:=aI E.th t {E.th t with dw:=fun i=>if i<M.tw L.n then (E.th t).tg i else (E.th t).dw i}} w')
 case first =>
  refine gO (S:=(fun w'=>w'.cell? ⟨L.g,t*28+14,none⟩=some (.slice (some ⟨L.gD t,0,none⟩) (M.aO L.n) (M.aO L.n))∧w'.cell? ⟨L.g,t*28+19,none⟩=some (.slice (some ⟨L.gG t,0,none⟩) (M.tw L.n) (M.tw L.n)))) 10 rfl (by kernel_rfl) ?_ (fun hHeld=>?_)
  ·exact ⟨CU,cg⟩
  iterate 9 (refine tk 9 (by rfl) (by kernel_rfl) (by exact fun _ _ _ h=>h) (.inl ⟨by rfl,fun w hS=>by (try dsimp only at hS);go_simp;(try with_reducible rfl)⟩) (by assumption) ?_;try go_frame)
  refine aU 9 (by rfl) (by kernel_rfl) (fun K hK=>?_)
  refine qM rfl (.tmp 6) (.tmp 10) 22 22 rfl 3 Tryz.underlying22 (by kernel_rfl) (L.gD t) 0 (M.aO L.n) (M.aO L.n) ⟨L.gG t,0,none⟩ (M.tw L.n) (M.tw L.n) rfl rfl (ints vJ) (by rw [HLN.out];exact (Nat.min_eq_left MJ).symm) aA0.out aA1.out HFZ.out (sC vJ) ?_
  refine hK.out _ _ ?_ (fun hHeld=>?_)
  ·exact ⟨(World.cell?_setCells_out _ _ _ _ _ (fun q _=>absurd q WZ)).trans hHeld.1,(World.cell?_setCells_out _ _ _ _ _ (fun q _=>absurd q WZ)).trans hHeld.2⟩
  clear hK K
  (try go_frame)
  refine wpAnyH_done (by kernel_rfl) ?_ _
  (try go_wp2_with fail)
  go_meet
  case rel=>exact H1.out
 case rest =>
  have hL:=hcut
  obtain ⟨cv,cf,pv1,hc,hcv,dN,EV,-⟩:=hL.re.cells ht (aC _ _ _)
  have nU:=hcv.2 v HC.out.1
  have hfr:=dN.2 f HC.out.2.1
  obtain ⟨scv,bv,rfl,TI,QL⟩:=nU
  obtain ⟨scf,bf,rfl,TJ,TK⟩:=hfr
  have lv:=R.len TI
  have lf:=R.len TJ
  obtain ⟨a0,rfl⟩:=xG lv
  obtain ⟨b0,rfl⟩:=xG lf
  have e13:=hc 13 _ (by decide) rfl
  have epv:=hc 20 _ (by decide) rfl
  have efl:=hc 18 _ (by decide) rfl
  have eth:wc.there L.g (t*28+16) 1:=by obtain ⟨T,q,-⟩:=hL.re.th;exact q.there (Nat.lt_of_lt_of_le ht hL.re.ok.gn) (by decide)
  have FT:(((E.th t).stamp:Int)*129+((E.th t).aW:Int)) / 129=((E.th t).stamp:Int):=by omega
  obtain ⟨gp,pl,pc,OV,rfl,TL⟩:∃ gp pl pc,(grown S w wc gp∧¬L.own gp)∧pv1 = .slice (some ⟨gp,0,none⟩) pl pc∧Sl wc (.slice (some ⟨gp,0,none⟩) pl pc) (ints ((E.th t).aK.map Int.ofNat)):=by
   rcases EV with ⟨-,q⟩|⟨gp,pl,pc,q1,q2,q3⟩
   ·exact absurd q HC.out.2.2
   ·exact ⟨gp,pl,pc,q1,q2,by rw [←q2];exact q3⟩
  have hwp:=aA (show IntKind.i64.wrap (((E.th t).stamp:Int)+1)=(((E.th t).stamp+1:Nat):Int) by rw [dJ _ (by omega) (by omega)];omega)
  have HP:=aA (And.intro OV TL)
  have HL:=aA hL
  have KF:=aA (And.intro TI (And.intro TJ TK))
  have HX:=aA (show ∀ j,j<2*(1+1)→wc.cell? ⟨L.g,t*28+(15+j),none⟩=(([a0]++[.pointer (some ⟨bv,0,none⟩)])++([b0]++[.pointer (some ⟨bf,0,none⟩)]))[j]? from fun j hj=>by
   rcases (by omega:j=0∨j=1∨j=2∨j=3) with q|q|q|q<;>subst q
   all_goals exact hc _ _ (by decide) rfl)
  have OW:L.g<wc.heap.size:=hL.re.lt _ (hL.re.ow _ fY)
  clear hcut hL hc hcv dN EV TI TJ QL TK OV TL CU cg
  go_upto_region 1 with fail
  refine gO (S:=(fun w'=>w'.cell? ⟨L.g,t*28+13,none⟩=some (.int .i64 (((E.th t).stamp:Int)*129+((E.th t).aW:Int)))∧w'.cell? ⟨L.g,t*28+20,none⟩=some (.slice (some ⟨gp,0,none⟩) pl pc)∧w'.cell? ⟨L.g,t*28+18,none⟩=some (.pointer (some ⟨bf,0,none⟩))∧w'.there (L.g) (t*28+16) 1)) 26 rfl (by kernel_rfl) ?_ (fun hHeld=>?_)
  ·exact ⟨e13,epv,efl,eth⟩
  iterate 5 (refine tk 25 (by rfl) (by kernel_rfl) (by exact fun _ _ _ h=>h) (.inl ⟨by rfl,fun w hS=>by (try dsimp only at hS);go_simp;(try with_reducible rfl)⟩) (by assumption) ?_;try go_frame)
  iterate 11 (refine tk 27 (by rfl) (by kernel_rfl) (by exact fun _ _ _ h=>h) (.inl ⟨by rfl,fun w hS=>by (try dsimp only at hS);go_simp;(try with_reducible rfl)⟩) (by assumption) ?_;try go_frame)
  refine aU 5 (by rfl) (by kernel_rfl) (fun K hK=>?_)
  go_simp
  refine (iT _ _ (by omega) (by omega)).mono ?_
  rintro e w3 ⟨rfl,rfl⟩
  rw [FT]
  go_wp2_with fail
  refine hK.out _ _ ?_ (fun hHeld=>?_)
  ·exact hHeld
  clear hK K
  (try go_frame)
  iterate 1 (refine tk 14 (by rfl) (by kernel_rfl) (by exact fun _ _ _ h=>h) (.inl ⟨by rfl,fun w hS=>by (try dsimp only at hS);go_simp;(try with_reducible rfl)⟩) (by assumption) ?_;try go_frame)
  iterate 1 (refine tk 25 (by rfl) (by kernel_rfl) (by exact fun _ _ _ h=>h) (.inl ⟨by rfl,fun w hS=>by (try dsimp only at hS);go_simp;(try with_reducible rfl)⟩) (by assumption) ?_;try go_frame)
  refine aU 19 (by rfl) (by kernel_rfl) (fun K hK=>?_)
  go_simp
  refine hK.out _ _ ?_ (fun hHeld=>?_)
  ·exact ⟨cell_later (aB _ _) hHeld.1,cell_later (aB _ _) hHeld.2.1,cell_later (aB _ _) hHeld.2.2.1,aN (aB _ _) hHeld.2.2.2⟩
  clear hK K
  (try go_frame)
  iterate 5 (refine tk 25 (by rfl) (by kernel_rfl) (by exact fun _ _ _ h=>h) (.inl ⟨by rfl,fun w hS=>by (try dsimp only at hS);go_simp;(try with_reducible rfl)⟩) (by assumption) ?_;try go_frame)
  refine aU 25 (by rfl) (by kernel_rfl) (fun K hK=>?_)
  rw [if_pos (by rfl)]
  refine aM _ _ _ rfl L.g (t*28+16) (.pointer (some ⟨wc.heap.size,0,none⟩)) rfl rfl rfl rfl hHeld.2.2.2 (by kernel_rfl) ?_
  refine hK.out _ _ ?_ (fun hHeld=>?_)
  ·exact ⟨aF hHeld.1 (by first|exact .inr (by dsimp only;omega)|exact .inl (by assumption)|exact .inl (Ne.symm (by assumption))),aF hHeld.2.1 (by first|exact .inr (by dsimp only;omega)|exact .inl (by assumption)|exact .inl (Ne.symm (by assumption))),aF hHeld.2.2.1 (by first|exact .inr (by dsimp only;omega)|exact .inl (by assumption)|exact .inl (Ne.symm (by assumption))),aQ hHeld.2.2.2 _ rfl _⟩
  clear hK K
  (try go_frame)
  refine wpAnyH_done (by kernel_rfl) ?_ _
  clear hHeld
  rw [hwp.out]
  generalize nV:World.drew _=W3
  have cH:Below wc.heap.size wc W3:=by rw [←nV];exact Below.drew (aB _ _)
  have hrow:Row W3 wc.heap.size 306 [.int .i64 (((E.th t).stamp+1:Nat):Int),.slice (some ⟨gp,0,none⟩) pl pc,.pointer (some ⟨bf,0,none⟩)]:=by rw [←nV];exact Row.new wc [_,_,_] _
  have HF:=aA (And.intro cH hrow)
  clear nV cH hrow
  go_wp2
  exact bodyPost_end (v:=.tuple #[]) (by simp [results,Tryz.results282,go_sem]) rfl ⟨rfl,tU ht HL.out HF.out.1 HF.out.2 HP.out.1 HP.out.2 KF.out.1 KF.out.2.1 KF.out.2.2 HX.out HC.out.1 HC.out.2.1⟩
end
end Go.Proofs.YtefjhnhdagolhaaGreat.list
