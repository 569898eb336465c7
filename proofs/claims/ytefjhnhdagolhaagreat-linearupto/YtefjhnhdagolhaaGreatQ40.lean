import Derived.Test.YtefjhnhdagolhaaGreatQ39
set_option maxHeartbeats 4000000
set_option maxRecDepth 20000
namespace Go.Proofs.YtefjhnhdagolhaaGreat
open Go.RowKit
attribute [local go_sem ↓] Go.wp_at_zero Go.wp_at_succ
theorem QY (w:World):Calls Tryz.prog 368 #[] w fun e w'=>e = .returned (.agg #[.int .i64 2,.int .i64 0])∧Below w.heap.size w w':=by
 go_enter Tryz.func368,Tryz.ntmps368
 go_wp2
 exact bodyPost_ret (v:=.agg #[.int .i64 2,.int .i64 0]) (by simp [results,Tryz.results368,go_sem]) rfl ⟨rfl,aB _ _⟩
def nT:M.Plain (List Int) where
 first:=[]
 apply s o:=if o.c=1 then (o.a::s,⟨1,((s.length+1:Nat):Int)⟩) else if o.c=2 then (s.tail,if s=[] then ⟨2,0⟩ else ⟨1,s.headD 0⟩) else (s,⟨4,0⟩)
theorem lW {b:Nat}:∀ (vs:List Value) (o:Nat) (W:World) (k:Nat),k≠b→(W.setCells b o vs).heap[k]?=W.heap[k]?
 |[],_,_,_,_=>rfl
 |v::vs,o,W,k,hk=>by
  show ((W.setCell ⟨b,o,none⟩ v).setCells b (o+1) vs).heap[k]?=_
  rw [lW vs (o+1) _ k hk,Below.heap_setCell _ _ _ k hk]
theorem aEQ {W w':World} {b b1:Nat} {vs:List Value} {v0 v1:Value} (h:w'.there b 0 2∧(∀ k,k<W.heap.size→k≠b→w'.heap[k]?=W.heap[k]?)∧w'.cell? ⟨b1,0,none⟩=some v0∧w'.cell? ⟨b1,1,none⟩=some v1) (hne:b1≠b) :
  (w'.setCells b 0 vs).there b 0 2∧(∀ k,k<W.heap.size→k≠b→(w'.setCells b 0 vs).heap[k]?=W.heap[k]?)∧(w'.setCells b 0 vs).cell? ⟨b1,0,none⟩=some v0∧(w'.setCells b 0 vs).cell? ⟨b1,1,none⟩=some v1:=by
 have e:∀ k,k≠b→(w'.setCells b 0 vs).heap[k]?=w'.heap[k]?:=fun k hk=>lW vs 0 w' k hk
 exact ⟨World.there_setCells h.1 _ _ _,fun k hk hn=>(e k hn).trans (h.2.1 k hk hn),oP h.2.2.1 (e b1 hne),oP h.2.2.2 (e b1 hne)⟩
section
variable {I:Nat→Prop} {w:World} {p:Option Addr} {s:List Int} {c a b:Int}
def SU (I:Nat→Prop) (w:World) (s:List Int) (x y:Int) (e:Ending) (w':World):Prop:=∃ p,e = .returned (.tuple #[.pointer p,.agg #[.int .i64 x,.int .i64 y]])∧iY (KB I w.heap.size w') w' s p∧Below w.heap.size w w'
theorem xZ {W w3 w4:World} {b7:Nat} {p3:Option Addr} {s3:List Int} {v0 v1:Value} (hI:∀ k,I k→k<w.heap.size) (h7:w.heap.size≤b7) (hlt:b7<W.heap.size) (hB0:Below w.heap.size w W) (hR:Row W b7 94 [v0,v1]) (t3:iY (KB I W.heap.size w3) w3 s3 p3) (cE:Below W.heap.size W w3) (cT:Below w3.heap.size w3 w4) (x y:Int) :
  Row ((w4.setCell ⟨b7,0,none⟩ (.int .i64 x)).setCell ⟨b7,1,none⟩ (.int .i64 y)) b7 94 [.int .i64 x,.int .i64 y]∧iY (KB I w.heap.size ((w4.setCell ⟨b7,0,none⟩ (.int .i64 x)).setCell ⟨b7,1,none⟩ (.int .i64 y))) ((w4.setCell ⟨b7,0,none⟩ (.int .i64 x)).setCell ⟨b7,1,none⟩ (.int .i64 y)) s3 p3 ∧
   Below w.heap.size w ((w4.setCell ⟨b7,0,none⟩ (.int .i64 x)).setCell ⟨b7,1,none⟩ (.int .i64 y)):=by
 have z0:=hB0.size
 have z3:=cE.size
 have z4:=cT.size
 refine ⟨((hR.old (Below.next cE cT z3)).set 0 _).set 1 _,t3.stay fun k hk JX=>⟨?_,?_⟩,(((Below.next (Below.next hB0 cE z0) cT (by omega)).setCell (by simpa using h7) _).setCell (by simpa using h7) _)⟩
 ·rcases hk with hk|hk
  ·exact .inl hk
  ·refine .inr ⟨by omega,?_⟩
   simp [World.setCell]
   omega
 ·have hne:k≠b7:=by
   rcases hk with hk|hk
   ·have:=hI k hk;omega
   ·omega
  rw [Below.heap_setCell _ _ _ k hne,Below.heap_setCell _ _ _ k hne]
  exact cT.block k JX
theorem JD (q:iY I w s p) (hI:∀ k,I k→k<w.heap.size) (hz:s.length≤1000000000000) :
  Calls Tryz.prog 365 #[.agg #[],.pointer p,.agg #[.int .i64 c,.int .i64 a,.int .i64 b]] w (SU I w (nT.apply s ⟨c,a,b⟩).1 (nT.apply s ⟨c,a,b⟩).2.s (nT.apply s ⟨c,a,b⟩).2.v):=by
 obtain ⟨r,hr⟩:∃ r,r=nT.apply s ⟨c,a,b⟩:=⟨_,rfl⟩
 rw [←hr]
 have lX:=aA hr
 clear hr
 go_enter Tryz.func365,Tryz.ntmps365
 go_upto_region 1 with fail
 generalize hW:World.alloc (World.alloc (World.alloc w _) _) _=W
 have hb0:Below w.heap.size w W:=by rw [←hW];exact ((aB w _).alloc (by simp) _).alloc (by simp;omega) _
 have r5:Row W (w.heap.size+1) 36 [.int .i64 c,.int .i64 a,.int .i64 b]:=by rw [←hW];exact (Row.new' (by simp)).alloc _
 have r7:Row W (w.heap.size+1+1) 94 [.int .i64 0,.int .i64 0]:=by rw [←hW];exact Row.new' (by simp)
 have o0:=r5.cell_of (i:=0) rfl
 have o1:=r5.cell_of (i:=1) rfl
 have hlt:=r7.lt
 have jD:=aA hb0
 have yC:=aA r7
 have HQ:=aA (show iY (KB I W.heap.size W) W s p from q.stay fun k hk hl=>⟨.inl hk,hb0.block k hl⟩)
 clear hW hb0 r5 r7 q
 by_cases c1:c=1
 ·subst c1
  have e:r=(a::s,⟨1,((s.length+1:Nat):Int)⟩):=by rw [lX.out];simp [nT]
  subst e
  clear lX
  obtain ⟨n1,zF⟩:∃ n:Nat,n=s.length+1:=⟨_,rfl⟩
  rw [←zF]
  go_wp2_with fail
  refine (OT (I:=I) (B:=W.heap.size) (x:=a) HQ.out (Nat.le_refl _) (by omega)).mono ?_
  rintro e w3 ⟨p3,rfl,t3,cE⟩
  have tD:=aA t3
  have tH:=aA cE
  have HSZ:=aA (DT t3)
  rw [show (a::s).length=n1 from zF.symm] at HSZ
  have HN1:=aA zF
  clear t3 cE zF
  go_wp2_with fail
  refine HSZ.out.mono ?_
  rintro e w5 ⟨rfl,rfl⟩
  go_wp2_with fail
  refine (rA _ _).mono ?_
  rintro e w4 ⟨rfl,cT⟩
  have HE:=aA (xZ hI (by omega) hlt jD.out yC.out tD.out tH.out cT 1 (n1:Int))
  have bY:=yC.out.old (Below.next tH.out cT tH.out.size)
  have a0:w4.cell? ⟨w.heap.size+1+1,0,none⟩=some (.int .i64 0):=bY.cell_of rfl
  have a1:w4.cell? ⟨w.heap.size+1+1,1,none⟩=some (.int .i64 0):=bY.cell_of rfl
  have f0:=bY.frozen 0
  have f1:=bY.frozen 1
  clear bY cT
  go_wp2_with fail
  have q1:=HE.out.1.cell_of (i:=0) rfl
  have q2:=HE.out.1.cell_of (i:=1) rfl
  exact bodyPost_ret (v:=.tuple #[.pointer (some ⟨p3,0,none⟩),.agg #[.int .i64 1,.int .i64 (n1:Int)]]) (by simp [results,Tryz.results365,go_sem,q1,q2]) rfl ⟨_,by rw [HN1.out],HE.out.2.1,HE.out.2.2⟩
 ·by_cases c2:c=2
  ·subst c2
   cases s with
   |nil =>
    have e:r=([],⟨2,0⟩):=by rw [lX.out];simp [nT]
    subst e
    clear lX
    have hp:p=none:=HQ.out
    subst hp
    go_wp2_with fail
    refine (QY _).mono ?_
    rintro e w4 ⟨rfl,cT⟩
    have HE:=aA (xZ hI (by omega) hlt jD.out yC.out HQ.out (Below.refl W.heap.size W) cT 2 0)
    have bY:=yC.out.old (Below.next (Below.refl W.heap.size W) cT (Below.refl W.heap.size W).size)
    have a0:w4.cell? ⟨w.heap.size+1+1,0,none⟩=some (.int .i64 0):=bY.cell_of rfl
    have a1:w4.cell? ⟨w.heap.size+1+1,1,none⟩=some (.int .i64 0):=bY.cell_of rfl
    have f0:=bY.frozen 0
    have f1:=bY.frozen 1
    clear bY cT
    go_wp2_with fail
    have q1:=HE.out.1.cell_of (i:=0) rfl
    have q2:=HE.out.1.cell_of (i:=1) rfl
    exact bodyPost_ret (v:=.tuple #[.pointer none,.agg #[.int .i64 2,.int .i64 0]]) (by simp [results,Tryz.results365,go_sem,q1,q2]) rfl ⟨_,rfl,HE.out.2.1,HE.out.2.2⟩
   |cons x s =>
    have e:r=(s,⟨1,x⟩):=by rw [lX.out];simp [nT]
    subst e
    clear lX
    obtain ⟨b1,p',rfl,XI,pV,q1⟩:=HQ.out
    have d0:=pV.cell_of (i:=0) rfl
    have d1:=pV.cell_of (i:=1) rfl
    have HQ1:=aA q1
    have PV:W.there (w.heap.size+1+1) 0 2:=yC.out.there (by simp)
    have kS:=pV.lt
    have hne:b1≠w.heap.size+1+1:=by
     rcases XI with h|h
     ·have:=hI b1 h;omega
     ·omega
    clear pV q1 XI
    go_upto_region 8 with fail
    refine fR (S:=(fun w'=>w'.there (w.heap.size+1+1) 0 2∧(∀ k,k<W.heap.size→k≠w.heap.size+1+1→w'.heap[k]?=W.heap[k]?)∧w'.cell? ⟨b1,0,none⟩=some (.int .i64 x)∧w'.cell? ⟨b1,1,none⟩=some (.pointer p'))) 11 rfl (by kernel_rfl) ?_ (fun hHeld=>?_)
    ·exact ⟨PV,fun _ _ _=>rfl,d0,d1⟩
    iterate 8 (refine tk 10 (by rfl) (by kernel_rfl) (by exact fun _ _ _ h=>h) (.inl ⟨by rfl,fun w hS=>by (try dsimp only at hS);go_simp;(try with_reducible rfl)⟩) (by assumption) ?_;try go_frame)
    refine bQ 8 (by rfl) (by kernel_rfl) (fun K hK=>?_)
    go_simp
    refine (rA _ _).mono ?_
    rintro e w2 ⟨rfl,aZ⟩
    have QX:=aA (Below.bR aZ)
    go_wp2_with fail
    refine hK.out _ _ ?_ (fun hHeld=>?_)
    ·exact ⟨aT aZ hHeld.1,fun k hk hn=>(aZ.block k hk).trans (hHeld.2.1 k hk hn),cell_later aZ hHeld.2.2.1,cell_later aZ hHeld.2.2.2⟩
    clear hK K
    (try go_frame)
    iterate 1 (refine tk 10 (by rfl) (by kernel_rfl) (by exact fun _ _ _ h=>h) (.inl ⟨by rfl,fun w hS=>by (try dsimp only at hS);go_simp;(try with_reducible rfl)⟩) (by assumption) ?_;try go_frame)
    refine bQ 10 (by rfl) (by kernel_rfl) (fun K hK=>?_)
    rw [if_pos (by rfl)]
    refine wp_store_mid _ _ _ rfl _ 0 #[.int .i64 1,.int .i64 x] rfl rfl hHeld.1 (by kernel_rfl) (by simp [Value.oneCell']) ?_
    refine hK.out _ _ ?_ (fun hHeld=>?_)
    ·exact aEQ hHeld hne
    clear hK K
    (try go_frame)
    refine wpAnyH_done (by kernel_rfl) ?_ _
    have HE:=aA (xZ hI (by omega) hlt jD.out yC.out HQ1.out (Below.refl W.heap.size W) QX.out 1 x)
    clear hHeld
    go_wp2_with fail
    have q1:=HE.out.1.cell_of (i:=0) rfl
    have q2:=HE.out.1.cell_of (i:=1) rfl
    exact bodyPost_ret (v:=.tuple #[.pointer p',.agg #[.int .i64 1,.int .i64 x]]) (by simp [results,Tryz.results365,go_sem,World.setCells,q1,q2]) rfl ⟨_,rfl,HE.out.2.1,HE.out.2.2⟩
  ·have e:r=(s,⟨4,0⟩):=by rw [lX.out];simp [nT,c1,c2]
   subst e
   clear lX
   go_wp2_with fail
   refine (wW _).mono ?_
   rintro e w4 ⟨rfl,cT⟩
   have HE:=aA (xZ hI (by omega) hlt jD.out yC.out HQ.out (Below.refl W.heap.size W) cT 4 0)
   have bY:=yC.out.old (Below.next (Below.refl W.heap.size W) cT (Below.refl W.heap.size W).size)
   have a0:w4.cell? ⟨w.heap.size+1+1,0,none⟩=some (.int .i64 0):=bY.cell_of rfl
   have a1:w4.cell? ⟨w.heap.size+1+1,1,none⟩=some (.int .i64 0):=bY.cell_of rfl
   have f0:=bY.frozen 0
   have f1:=bY.frozen 1
   clear bY cT
   go_wp2_with fail
   have q1:=HE.out.1.cell_of (i:=0) rfl
   have q2:=HE.out.1.cell_of (i:=1) rfl
   exact bodyPost_ret (v:=.tuple #[.pointer p,.agg #[.int .i64 4,.int .i64 0]]) (by simp [results,Tryz.results365,go_sem,q1,q2]) rfl ⟨_,rfl,HE.out.2.1,HE.out.2.2⟩
end
def pT:M.Plain (List Int) where
 first:=[]
 apply s o:=if o.c=1 then (s++[o.a],⟨1,((s.length+1:Nat):Int)⟩) else if o.c=2 then (s.tail,if s=[] then ⟨2,0⟩ else ⟨1,s.headD 0⟩) else (s,⟨4,0⟩)
def wE (I:Nat→Prop) (w:World) (s:List Int) (p1 p2:Option Addr):Prop:=∃ f g:List Int,s=f++g.reverse∧iY I w f p1∧iY I w g p2
theorem wE.stay {I I':Nat→Prop} {w w':World} (hk:∀ k,I k→k<w.heap.size→I' k∧w'.heap[k]?=w.heap[k]?) {s:List Int} {p1 p2:Option Addr} (h:wE I w s p1 p2):wE I' w' s p1 p2:=by
 obtain ⟨f,g,e,h1,h2⟩:=h
 exact ⟨f,g,e,h1.stay hk,h2.stay hk⟩
theorem XK {I:Nat→Prop} {n0 N:Nat} {w3 w':World} (hI:∀ k,I k→k<n0) (hn:n0≤N) (hk:∀ k,k<n0∨N≤k→k<w3.heap.size→w'.heap[k]?=w3.heap[k]?) (hz:w3.heap.size≤w'.heap.size) (k:Nat) (h:KB I N w3 k) (hl:k<w3.heap.size):KB I n0 w' k∧w'.heap[k]?=w3.heap[k]?:=by
 rcases h with h|h
 ·exact ⟨.inl h,hk k (.inl (hI k h)) hl⟩
 ·exact ⟨.inr ⟨by omega,by omega⟩,hk k (.inr h.1) hl⟩
theorem vU {w':World} {b c d:Nat} {vs:List Value} {a1 a2 a3 a4:Nat} {o1 o2 o3 o4:Nat} {v1 v2 v3 v4:Value} (h:w'.there c 0 2∧w'.there d 0 2∧w'.cell? ⟨a1,o1,none⟩=some v1∧w'.cell? ⟨a2,o2,none⟩=some v2∧w'.cell? ⟨a3,o3,none⟩=some v3∧w'.cell? ⟨a4,o4,none⟩=some v4) (n1:a1≠b) (n2:a2≠b) (n3:a3≠b) (n4:a4≠b) :
  (w'.setCells b 0 vs).there c 0 2∧(w'.setCells b 0 vs).there d 0 2∧(w'.setCells b 0 vs).cell? ⟨a1,o1,none⟩=some v1∧(w'.setCells b 0 vs).cell? ⟨a2,o2,none⟩=some v2∧(w'.setCells b 0 vs).cell? ⟨a3,o3,none⟩=some v3∧(w'.setCells b 0 vs).cell? ⟨a4,o4,none⟩=some v4:=by
 have e:∀ k,k≠b→(w'.setCells b 0 vs).heap[k]?=w'.heap[k]?:=fun k hk=>lW vs 0 w' k hk
 exact ⟨World.there_setCells h.1 _ _ _,World.there_setCells h.2.1 _ _ _,oP h.2.2.1 (e _ n1),oP h.2.2.2.1 (e _ n2),oP h.2.2.2.2.1 (e _ n3),oP h.2.2.2.2.2 (e _ n4)⟩
theorem vO {I:Nat→Prop} {w w2:World} {N b6 b7:Nat} {s:List Int} {p1 p2:Option Addr} (hI:∀ k,I k→k<w.heap.size) (h6:w.heap.size≤b6) (h7:w.heap.size≤b7) (l6:b6<N) (l7:b7<N) (hB2:Below w.heap.size w w2) (q:wE (KB I N w2) w2 s p1 p2) (vs us:List Value) {w3:World} (cE:Below w2.heap.size w2 w3) :
  wE (KB I w.heap.size ((w3.setCells b6 0 vs).setCells b7 0 us)) ((w3.setCells b6 0 vs).setCells b7 0 us) s p1 p2∧Below w.heap.size w ((w3.setCells b6 0 vs).setCells b7 0 us):=by
 have z2:=hB2.size
 have z3:=cE.size
 have hB:Below w.heap.size w ((w3.setCells b6 0 vs).setCells b7 0 us):=eI h7 _ _ _ (eI h6 _ _ _ (Below.next hB2 cE z2))
 refine ⟨q.stay (XK hI (by omega) (fun k hk hl=>?_) ?_),hB⟩
 ·rw [lW us 0 _ k (by omega),lW vs 0 _ k (by omega)]
  exact cE.block k hl
 ·have h1:∀ (vs:List Value) (b o:Nat) (W:World),W.heap.size≤(W.setCells b o vs).heap.size:=fun vs b o W=>(eI (B:=0) (Nat.zero_le b) vs o W (Below.refl _ _)).size
  exact Nat.le_trans z3 (Nat.le_trans (h1 vs b6 0 w3) (h1 us b7 0 _))
def BF (I:Nat→Prop) (w:World) (s:List Int) (x y:Int) (e:Ending) (w':World):Prop:=∃ p1 p2,e = .returned (.tuple #[.agg #[.pointer p1,.pointer p2],.agg #[.int .i64 x,.int .i64 y]])∧wE (KB I w.heap.size w') w' s p1 p2∧Below w.heap.size w w'
section
variable {I:Nat→Prop} {w:World} {p1 p2:Option Addr} {s f g:List Int}
theorem OU {x:Int} (q1:iY I w (x::f) p1) (q2:iY I w g p2) (hI:∀ k,I k→k<w.heap.size) :
  Calls Tryz.prog 184 #[.agg #[.pointer p1,.pointer p2]] w (BF I w (f++g.reverse) 1 x):=by
 go_enter Tryz.func184,Tryz.ntmps184
 go_upto_region 1 with fail
 generalize hW:World.alloc (World.alloc (World.alloc w _) _) _=W
 have hb0:Below w.heap.size w W:=by rw [←hW];exact ((aB w _).alloc (by simp) _).alloc (by simp;omega) _
 have r1:Row W w.heap.size 146 [.pointer p1,.pointer p2]:=by rw [←hW];exact ((Row.new' rfl).alloc _).alloc _
 have r2:Row W (w.heap.size+1) 146 [.pointer none,.pointer none]:=by rw [←hW];exact (Row.new' (by simp)).alloc _
 have r3:Row W (w.heap.size+1+1) 94 [.int .i64 0,.int .i64 0]:=by rw [←hW];exact Row.new' (by simp)
 have c0:=r1.cell_of (i:=0) rfl
 have c1:=r1.cell_of (i:=1) rfl
 have hlt:=r3.lt
 have jD:=aA hb0
 have t2:W.there (w.heap.size+1) 0 2:=r2.there (by simp)
 have t3:W.there (w.heap.size+1+1) 0 2:=r3.there (by simp)
 obtain ⟨b1,p',rfl,XI,pV,q3⟩:=q1
 have d0:=(pV.old hb0).cell_of (i:=0) rfl
 have d1:=(pV.old hb0).cell_of (i:=1) rfl
 have kS:=hI b1 XI
 have HQ:=aA (show wE (KB I W.heap.size W) W (f++g.reverse) p' p2 from ⟨f,g,rfl,q3.stay fun k hk hl=>⟨.inl hk,hb0.block k hl⟩,q2.stay fun k hk hl=>⟨.inl hk,hb0.block k hl⟩⟩)
 clear hW hb0 r1 r2 r3 pV q3 q2 XI
 go_upto_region 5 with fail
 refine fR (S:=(fun w'=>w'.there (w.heap.size+1) 0 2∧w'.there (w.heap.size+1+1) 0 2∧w'.cell? ⟨w.heap.size,0,none⟩=some (.pointer (some ⟨b1,0,none⟩))∧w'.cell? ⟨w.heap.size,1,none⟩=some (.pointer p2)∧w'.cell? ⟨b1,0,none⟩=some (.int .i64 x)∧w'.cell? ⟨b1,1,none⟩=some (.pointer p'))) 16 rfl (by kernel_rfl) ?_ (fun hHeld=>?_)
 ·exact ⟨t2,t3,c0,c1,d0,d1⟩
 iterate 13 (refine tk 15 (by rfl) (by kernel_rfl) (by exact fun _ _ _ h=>h) (.inl ⟨by rfl,fun w hS=>by (try dsimp only at hS);go_simp;(try with_reducible rfl)⟩) (by assumption) ?_;try go_frame)
 refine bQ 13 (by rfl) (by kernel_rfl) (fun K hK=>?_)
 go_simp
 refine (rA _ _).mono ?_
 rintro e w2 ⟨rfl,aZ⟩
 have QX:=aA (Below.bR aZ)
 go_wp2_with fail
 refine hK.out _ _ ?_ (fun hHeld=>?_)
 ·exact ⟨aT aZ hHeld.1,aT aZ hHeld.2.1,cell_later aZ hHeld.2.2.1,cell_later aZ hHeld.2.2.2.1,cell_later aZ hHeld.2.2.2.2.1,cell_later aZ hHeld.2.2.2.2.2⟩
 clear hK K
 (try go_frame)
 refine bQ 14 (by rfl) (by kernel_rfl) (fun K hK=>?_)
 rw [if_pos (by rfl)]
 have e1:=World.rangeAt_setCells_same _ (w.heap.size+1) 0 [.pointer p',.pointer p2] hHeld.1
 refine wp_store_mid _ _ _ rfl _ 0 #[.pointer p',.pointer p2] rfl rfl hHeld.1 (by kernel_rfl) (by simp [Value.oneCell']) ?_
 refine hK.out _ _ ?_ (fun hHeld=>?_)
 ·exact vU hHeld (by omega) (by omega) (by omega) (by omega)
 clear hK K
 (try go_frame)
 refine bQ 15 (by rfl) (by kernel_rfl) (fun K hK=>?_)
 rw [if_pos (by rfl)]
 have e2:=World.rangeAt_setCells_same _ (w.heap.size+1+1) 0 [.int .i64 1,.int .i64 x] hHeld.2.1
 have e3:=World.rangeAt_setCells_apart e1 (w.heap.size+1+1) 0 [.int .i64 1,.int .i64 x] (.inl (by omega))
 refine wp_store_mid _ _ _ rfl _ 0 #[.int .i64 1,.int .i64 x] rfl rfl hHeld.2.1 (by kernel_rfl) (by simp [Value.oneCell']) ?_
 refine hK.out _ _ ?_ (fun hHeld=>?_)
 ·exact vU hHeld (by omega) (by omega) (by omega) (by omega)
 clear hK K
 (try go_frame)
 refine wpAnyH_done (by kernel_rfl) ?_ _
 have q1:=e3 0 _ rfl
 have q2:=e3 1 _ rfl
 have q3:=e2 0 _ rfl
 have q4:=e2 1 _ rfl
 have HE:=aA (vO (b6:=w.heap.size+1) (b7:=w.heap.size+1+1) hI (by omega) (by omega) (by omega) hlt jD.out HQ.out [.pointer p',.pointer p2] [.int .i64 1,.int .i64 x] QX.out)
 clear hHeld e1 e2 e3
 go_wp2_with fail
 exact bodyPost_ret (v:=.tuple #[.agg #[.pointer p',.pointer p2],.agg #[.int .i64 1,.int .i64 x]]) (by simp [results,Tryz.results184,go_sem,q1,q2,q3,q4]) rfl ⟨_,_,rfl,HE.out.1,HE.out.2⟩
theorem SV {s':List Int} {x' y':Int} (q2:iY I w g p2) (hI:∀ k,I k→k<w.heap.size) (hz:g.length≤1000000000000) (h1:s'=g.reverse.tail) (h2:x'=if g.reverse=[] then 2 else 1) (h3:y'=g.reverse.headD 0) :
  Calls Tryz.prog 184 #[.agg #[.pointer none,.pointer p2]] w (BF I w s' x' y'):=by
 have HEQ:=aA (And.intro h1 (And.intro h2 h3))
 clear h1 h2 h3
 go_enter Tryz.func184,Tryz.ntmps184
 go_upto_region 1 with fail
 generalize hW:World.alloc (World.alloc (World.alloc w _) _) _=W
 have hb0:Below w.heap.size w W:=by rw [←hW];exact ((aB w _).alloc (by simp) _).alloc (by simp;omega) _
 have r1:Row W w.heap.size 146 [.pointer none,.pointer p2]:=by rw [←hW];exact ((Row.new' rfl).alloc _).alloc _
 have r2:Row W (w.heap.size+1) 146 [.pointer none,.pointer none]:=by rw [←hW];exact (Row.new' (by simp)).alloc _
 have r3:Row W (w.heap.size+1+1) 94 [.int .i64 0,.int .i64 0]:=by rw [←hW];exact Row.new' (by simp)
 have c0:=r1.cell_of (i:=0) rfl
 have c1:=r1.cell_of (i:=1) rfl
 have hlt:=r3.lt
 have jD:=aA hb0
 have CG:=aA r1
 have ZL:=aA r2
 have HR3:=aA r3
 have HQ2:=aA (show iY (KB I W.heap.size W) W g p2 from q2.stay fun k hk hl=>⟨.inl hk,hb0.block k hl⟩)
 clear hW hb0 r1 r2 r3 q2
 go_wp2_with fail
 refine (DU (I:=I) (B:=W.heap.size) HQ2.out (Nat.le_refl _) hz).mono ?_
 rintro e w2 ⟨p',rfl,t2,aZ⟩
 have m1:=CG.out.old aZ
 have y0:=m1.cell_of (i:=0) rfl
 have y1:=m1.cell_of (i:=1) rfl
 have z0:=m1.frozen 0
 have z1:=m1.frozen 1
 have EB:=aZ.size
 have IC:=aA (m1.set 0 (.pointer p') |>.set 1 (.pointer none))
 have yG:=aA t2
 have QX:=aA aZ
 clear m1 t2 aZ c0 c1
 go_upto_region 3 with fail
 generalize oG:World.setCell (World.setCell w2 _ _) _ _=W3
 have r1:Row W3 w.heap.size 146 [.pointer p',.pointer none]:=by rw [←oG];exact IC.out
 have JX:∀ k,k≠w.heap.size→W3.heap[k]?=w2.heap[k]?:=fun k hk=>by rw [←oG,Below.heap_setCell _ _ _ k hk,Below.heap_setCell _ _ _ k hk]
 have hz3:W3.heap.size=w2.heap.size:=by rw [←oG];simp [World.setCell]
 have tH:=aA (show Below w.heap.size w W3 by rw [←oG];exact ((Below.next jD.out QX.out jD.out.size).setCell (by simp) _).setCell (by simp) _)
 have t2:W3.there (w.heap.size+1) 0 2:=((ZL.out.old QX.out).of_block (JX _ (by omega))).there (by simp)
 have t3:W3.there (w.heap.size+1+1) 0 2:=((HR3.out.old QX.out).of_block (JX _ (by omega))).there (by simp)
 have tD:=aA (show iY (KB I W.heap.size W3) W3 g.reverse p' from yG.out.stay fun k hk hl=>⟨by
  rcases hk with hk|hk
  ·exact .inl hk
  ·exact .inr ⟨hk.1,by omega⟩,JX k (by
  rcases hk with hk|hk
  ·have:=hI k hk;omega
  ·omega)⟩)
 have c0:=r1.cell_of (i:=0) rfl
 have c1:=r1.cell_of (i:=1) rfl
 have HZ3:=aA hz3
 clear oG r1 JX y0 y1 z0 z1 yG hz3
 generalize g.reverse=gr at *
 cases gr with
 |nil =>
  have hp:p'=none:=tD.out
  subst hp
  obtain ⟨rfl,rfl,rfl⟩:s'=[]∧x'=2∧y'=0:=by simpa using HEQ.out
  have HQ:=aA (show wE (KB I W.heap.size W3) W3 [] none none from ⟨[],[],rfl,rfl,rfl⟩)
  go_upto_region 4 with fail
  refine fR (S:=(fun w'=>w'.there (w.heap.size+1) 0 2∧w'.there (w.heap.size+1+1) 0 2∧w'.cell? ⟨w.heap.size,0,none⟩=some (.pointer none)∧w'.cell? ⟨w.heap.size,1,none⟩=some (.pointer none)∧w'.cell? ⟨w.heap.size,0,none⟩=some (.pointer none)∧w'.cell? ⟨w.heap.size,1,none⟩=some (.pointer none))) 4 rfl (by kernel_rfl) ?_ (fun hHeld=>?_)
  ·exact ⟨t2,t3,c0,c1,c0,c1⟩
  iterate 1 (refine tk 3 (by rfl) (by kernel_rfl) (by exact fun _ _ _ h=>h) (.inl ⟨by rfl,fun w hS=>by (try dsimp only at hS);go_simp;(try with_reducible rfl)⟩) (by assumption) ?_;try go_frame)
  refine bQ 1 (by rfl) (by kernel_rfl) (fun K hK=>?_)
  go_simp
  refine (QY _).mono ?_
  rintro e w4 ⟨rfl,cT⟩
  have XJ:=aA (Below.bR cT)
  go_wp2_with fail
  refine hK.out _ _ ?_ (fun hHeld=>?_)
  ·exact ⟨aT cT hHeld.1,aT cT hHeld.2.1,cell_later cT hHeld.2.2.1,cell_later cT hHeld.2.2.2.1,cell_later cT hHeld.2.2.2.2.1,cell_later cT hHeld.2.2.2.2.2⟩
  clear hK K
  (try go_frame)
  refine bQ 2 (by rfl) (by kernel_rfl) (fun K hK=>?_)
  rw [if_pos (by rfl)]
  have e1:=World.rangeAt_setCells_same _ (w.heap.size+1) 0 [.pointer none,.pointer none] hHeld.1
  refine wp_store_mid _ _ _ rfl _ 0 #[.pointer none,.pointer none] rfl rfl hHeld.1 (by kernel_rfl) (by simp [Value.oneCell']) ?_
  refine hK.out _ _ ?_ (fun hHeld=>?_)
  ·exact vU hHeld (by omega) (by omega) (by omega) (by omega)
  clear hK K
  (try go_frame)
  refine bQ 3 (by rfl) (by kernel_rfl) (fun K hK=>?_)
  rw [if_pos (by rfl)]
  have e2:=World.rangeAt_setCells_same _ (w.heap.size+1+1) 0 [.int .i64 2,.int .i64 0] hHeld.2.1
  have e3:=World.rangeAt_setCells_apart e1 (w.heap.size+1+1) 0 [.int .i64 2,.int .i64 0] (.inl (by omega))
  refine wp_store_mid _ _ _ rfl _ 0 #[.int .i64 2,.int .i64 0] rfl rfl hHeld.2.1 (by kernel_rfl) (by simp [Value.oneCell']) ?_
  refine hK.out _ _ ?_ (fun hHeld=>?_)
  ·exact vU hHeld (by omega) (by omega) (by omega) (by omega)
  clear hK K
  (try go_frame)
  refine wpAnyH_done (by kernel_rfl) ?_ _
  have q1:=e3 0 _ rfl
  have q2:=e3 1 _ rfl
  have q3:=e2 0 _ rfl
  have q4:=e2 1 _ rfl
  have HE:=aA (vO (N:=W.heap.size) (b6:=w.heap.size+1) (b7:=w.heap.size+1+1) hI (by omega) (by omega) (by omega) hlt tH.out HQ.out [.pointer none,.pointer none] [.int .i64 2,.int .i64 0] XJ.out)
  clear hHeld e1 e2 e3
  go_wp2_with fail
  exact bodyPost_ret (v:=.tuple #[.agg #[.pointer none,.pointer none],.agg #[.int .i64 2,.int .i64 0]]) (by simp [results,Tryz.results184,go_sem,q1,q2,q3,q4]) rfl ⟨_,_,rfl,HE.out.1,HE.out.2⟩
 |cons x f =>
  obtain ⟨b1,p3,rfl,XI,pV,q3⟩:=tD.out
  obtain ⟨rfl,rfl,rfl⟩:s'=f∧x'=1∧y'=x:=by simpa using HEQ.out
  have d0:=pV.cell_of (i:=0) rfl
  have d1:=pV.cell_of (i:=1) rfl
  have kS:b1<w.heap.size∨W.heap.size≤b1:=by
   rcases XI with h|h
   ·exact .inl (hI b1 h)
   ·exact .inr h.1
  have HQ:=aA (show wE (KB I W.heap.size W3) W3 s' p3 none from ⟨s',[],by simp,q3,rfl⟩)
  clear pV q3 XI
  go_upto_region 5 with fail
  refine fR (S:=(fun w'=>w'.there (w.heap.size+1) 0 2∧w'.there (w.heap.size+1+1) 0 2∧w'.cell? ⟨w.heap.size,0,none⟩=some (.pointer (some ⟨b1,0,none⟩))∧w'.cell? ⟨w.heap.size,1,none⟩=some (.pointer none)∧w'.cell? ⟨b1,0,none⟩=some (.int .i64 y')∧w'.cell? ⟨b1,1,none⟩=some (.pointer p3))) 16 rfl (by kernel_rfl) ?_ (fun hHeld=>?_)
  ·exact ⟨t2,t3,c0,c1,d0,d1⟩
  iterate 13 (refine tk 15 (by rfl) (by kernel_rfl) (by exact fun _ _ _ h=>h) (.inl ⟨by rfl,fun w hS=>by (try dsimp only at hS);go_simp;(try with_reducible rfl)⟩) (by assumption) ?_;try go_frame)
  refine bQ 13 (by rfl) (by kernel_rfl) (fun K hK=>?_)
  go_simp
  refine (rA _ _).mono ?_
  rintro e w4 ⟨rfl,cT⟩
  have XJ:=aA (Below.bR cT)
  go_wp2_with fail
  refine hK.out _ _ ?_ (fun hHeld=>?_)
  ·exact ⟨aT cT hHeld.1,aT cT hHeld.2.1,cell_later cT hHeld.2.2.1,cell_later cT hHeld.2.2.2.1,cell_later cT hHeld.2.2.2.2.1,cell_later cT hHeld.2.2.2.2.2⟩
  clear hK K
  (try go_frame)
  refine bQ 14 (by rfl) (by kernel_rfl) (fun K hK=>?_)
  rw [if_pos (by rfl)]
  have e1:=World.rangeAt_setCells_same _ (w.heap.size+1) 0 [.pointer p3,.pointer none] hHeld.1
  refine wp_store_mid _ _ _ rfl _ 0 #[.pointer p3,.pointer none] rfl rfl hHeld.1 (by kernel_rfl) (by simp [Value.oneCell']) ?_
  refine hK.out _ _ ?_ (fun hHeld=>?_)
  ·exact vU hHeld (by omega) (by omega) (by omega) (by omega)
  clear hK K
  (try go_frame)
  refine bQ 15 (by rfl) (by kernel_rfl) (fun K hK=>?_)
  rw [if_pos (by rfl)]
  have e2:=World.rangeAt_setCells_same _ (w.heap.size+1+1) 0 [.int .i64 1,.int .i64 y'] hHeld.2.1
  have e3:=World.rangeAt_setCells_apart e1 (w.heap.size+1+1) 0 [.int .i64 1,.int .i64 y'] (.inl (by omega))
  refine wp_store_mid _ _ _ rfl _ 0 #[.int .i64 1,.int .i64 y'] rfl rfl hHeld.2.1 (by kernel_rfl) (by simp [Value.oneCell']) ?_
  refine hK.out _ _ ?_ (fun hHeld=>?_)
  ·exact vU hHeld (by omega) (by omega) (by omega) (by omega)
  clear hK K
  (try go_frame)
  refine wpAnyH_done (by kernel_rfl) ?_ _
  have q1:=e3 0 _ rfl
  have q2:=e3 1 _ rfl
  have q3:=e2 0 _ rfl
  have q4:=e2 1 _ rfl
  have HE:=aA (vO (N:=W.heap.size) (b6:=w.heap.size+1) (b7:=w.heap.size+1+1) hI (by omega) (by omega) (by omega) hlt tH.out HQ.out [.pointer p3,.pointer none] [.int .i64 1,.int .i64 y'] XJ.out)
  clear hHeld e1 e2 e3
  go_wp2_with fail
  exact bodyPost_ret (v:=.tuple #[.agg #[.pointer p3,.pointer none],.agg #[.int .i64 1,.int .i64 y']]) (by simp [results,Tryz.results184,go_sem,q1,q2,q3,q4]) rfl ⟨_,_,rfl,HE.out.1,HE.out.2⟩
end
end Go.Proofs.YtefjhnhdagolhaaGreat
