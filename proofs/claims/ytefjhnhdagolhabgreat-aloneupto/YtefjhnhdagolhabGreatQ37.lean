import Derived.Test.YtefjhnhdagolhabGreatQ35
set_option maxHeartbeats 4000000
set_option maxRecDepth 20000
namespace Go.Proofs.YtefjhnhdagolhabGreat
open Go.RowKit
attribute [local go_sem ↓] Go.wp_at_zero Go.wp_at_succ
theorem PU (w:World):Calls Tryz.prog 280 #[] w fun e w'=>e = .returned (.agg #[.int .i64 2,.int .i64 0])∧Below w.heap.size w w':=by
 go_enter Tryz.func280,Tryz.ntmps280
 go_wp2
 exact bodyPost_ret (v:=.agg #[.int .i64 2,.int .i64 0]) (by simp [results,Tryz.results280,go_sem]) rfl ⟨rfl,aB _ _⟩
def kA:M.Plain (List Int) where
 first:=[]
 apply s o:=if o.c=1 then (o.a::s,⟨1,((s.length+1:Nat):Int)⟩) else if o.c=2 then (s.tail,if s=[] then ⟨2,0⟩ else ⟨1,s.headD 0⟩) else (s,⟨4,0⟩)
theorem iQ {b:Nat}:∀ (vs:List Value) (o:Nat) (W:World) (k:Nat),k≠b→(W.setCells b o vs).heap[k]?=W.heap[k]?
 |[],_,_,_,_=>rfl
 |v::vs,o,W,k,hk=>by
  show ((W.setCell ⟨b,o,none⟩ v).setCells b (o+1) vs).heap[k]?=_
  rw [iQ vs (o+1) _ k hk,Below.heap_setCell _ _ _ k hk]
theorem aDv {W w':World} {b b1:Nat} {vs:List Value} {v0 v1:Value} (h:w'.there b 0 2∧(∀ k,k<W.heap.size→k≠b→w'.heap[k]?=W.heap[k]?)∧w'.cell? ⟨b1,0,none⟩=some v0∧w'.cell? ⟨b1,1,none⟩=some v1) (hne:b1≠b) :
  (w'.setCells b 0 vs).there b 0 2∧(∀ k,k<W.heap.size→k≠b→(w'.setCells b 0 vs).heap[k]?=W.heap[k]?)∧(w'.setCells b 0 vs).cell? ⟨b1,0,none⟩=some v0∧(w'.setCells b 0 vs).cell? ⟨b1,1,none⟩=some v1:=by
 have e:∀ k,k≠b→(w'.setCells b 0 vs).heap[k]?=w'.heap[k]?:=fun k hk=>iQ vs 0 w' k hk
 exact ⟨World.there_setCells h.1 _ _ _,fun k hk hn=>(e k hn).trans (h.2.1 k hk hn),fW h.2.2.1 (e b1 hne),fW h.2.2.2 (e b1 hne)⟩
section
variable {I:Nat→Prop} {w:World} {p:Option Addr} {s:List Int} {c a b:Int}
def RO (I:Nat→Prop) (w:World) (s:List Int) (x y:Int) (e:Ending) (w':World):Prop:=∃ p,e = .returned (.tuple #[.pointer p,.agg #[.int .i64 x,.int .i64 y]])∧iP (KB I w.heap.size w') w' s p∧Below w.heap.size w w'
theorem xE {W w3 w4:World} {b7:Nat} {p3:Option Addr} {s3:List Int} {v0 v1:Value} (hI:∀ k,I k→k<w.heap.size) (h7:w.heap.size≤b7) (hlt:b7<W.heap.size) (YV:Below w.heap.size w W) (hR:Row W b7 38 [v0,v1]) (t3:iP (KB I W.heap.size w3) w3 s3 p3) (cH:Below W.heap.size W w3) (cR:Below w3.heap.size w3 w4) (x y:Int) :
  Row ((w4.setCell ⟨b7,0,none⟩ (.int .i64 x)).setCell ⟨b7,1,none⟩ (.int .i64 y)) b7 38 [.int .i64 x,.int .i64 y]∧iP (KB I w.heap.size ((w4.setCell ⟨b7,0,none⟩ (.int .i64 x)).setCell ⟨b7,1,none⟩ (.int .i64 y))) ((w4.setCell ⟨b7,0,none⟩ (.int .i64 x)).setCell ⟨b7,1,none⟩ (.int .i64 y)) s3 p3 ∧
   Below w.heap.size w ((w4.setCell ⟨b7,0,none⟩ (.int .i64 x)).setCell ⟨b7,1,none⟩ (.int .i64 y)):=by
 have z0:=YV.size
 have z3:=cH.size
 have z4:=cR.size
 refine ⟨((hR.old (Below.next cH cR z3)).set 0 _).set 1 _,t3.stay fun k hk JM=>⟨?_,?_⟩,(((Below.next (Below.next YV cH z0) cR (by omega)).setCell (by simpa using h7) _).setCell (by simpa using h7) _)⟩
 ·rcases hk with hk|hk
  ·exact .inl hk
  ·refine .inr ⟨by omega,?_⟩
   simp [World.setCell]
   omega
 ·have hne:k≠b7:=by
   rcases hk with hk|hk
   ·have:=hI k hk;omega
   ·omega
  rw [Below.heap_setCell _ _ _ k hne,Below.heap_setCell _ _ _ k hne]
  exact cR.block k JM
theorem II (q:iP I w s p) (hI:∀ k,I k→k<w.heap.size) (hz:s.length≤1000000000000) :
  Calls Tryz.prog 277 #[.agg #[],.pointer p,.agg #[.int .i64 c,.int .i64 a,.int .i64 b]] w (RO I w (kA.apply s ⟨c,a,b⟩).1 (kA.apply s ⟨c,a,b⟩).2.s (kA.apply s ⟨c,a,b⟩).2.v):=by
 obtain ⟨r,hr⟩:∃ r,r=kA.apply s ⟨c,a,b⟩:=⟨_,rfl⟩
 rw [←hr]
 have lX:=aA hr
 clear hr
 go_enter Tryz.func277,Tryz.ntmps277
 go_upto_region 1 with fail
 generalize hW:World.alloc (World.alloc (World.alloc w _) _) _=W
 have hb0:Below w.heap.size w W:=by rw [←hW];exact ((aB w _).alloc (by simp) _).alloc (by simp;omega) _
 have r5:Row W (w.heap.size+1) 46 [.int .i64 c,.int .i64 a,.int .i64 b]:=by rw [←hW];exact (Row.new' (by simp)).alloc _
 have r7:Row W (w.heap.size+1+1) 38 [.int .i64 0,.int .i64 0]:=by rw [←hW];exact Row.new' (by simp)
 have o0:=r5.cell_of (i:=0) rfl
 have o1:=r5.cell_of (i:=1) rfl
 have hlt:=r7.lt
 have gH:=aA hb0
 have vE:=aA r7
 have HQ:=aA (show iP (KB I W.heap.size W) W s p from q.stay fun k hk hl=>⟨.inl hk,hb0.block k hl⟩)
 clear hW hb0 r5 r7 q
 by_cases c1:c=1
 ·subst c1
  have e:r=(a::s,⟨1,((s.length+1:Nat):Int)⟩):=by rw [lX.out];simp [kA]
  subst e
  clear lX
  obtain ⟨n1,yS⟩:∃ n:Nat,n=s.length+1:=⟨_,rfl⟩
  rw [←yS]
  go_wp2_with fail
  refine (NP (I:=I) (B:=W.heap.size) (x:=a) HQ.out (Nat.le_refl _) (by omega)).mono ?_
  rintro e w3 ⟨p3,rfl,t3,cH⟩
  have pL:=aA t3
  have sW:=aA cH
  have HSZ:=aA (CX t3)
  rw [show (a::s).length=n1 from yS.symm] at HSZ
  have HN1:=aA yS
  clear t3 cH yS
  go_wp2_with fail
  refine HSZ.out.mono ?_
  rintro e w5 ⟨rfl,rfl⟩
  go_wp2_with fail
  refine (qK _ _).mono ?_
  rintro e w4 ⟨rfl,cR⟩
  have HE:=aA (xE hI (by omega) hlt gH.out vE.out pL.out sW.out cR 1 (n1:Int))
  have bZ:=vE.out.old (Below.next sW.out cR sW.out.size)
  have a0:w4.cell? ⟨w.heap.size+1+1,0,none⟩=some (.int .i64 0):=bZ.cell_of rfl
  have a1:w4.cell? ⟨w.heap.size+1+1,1,none⟩=some (.int .i64 0):=bZ.cell_of rfl
  have f0:=bZ.frozen 0
  have f1:=bZ.frozen 1
  clear bZ cR
  go_wp2_with fail
  have q1:=HE.out.1.cell_of (i:=0) rfl
  have q2:=HE.out.1.cell_of (i:=1) rfl
  exact bodyPost_ret (v:=.tuple #[.pointer (some ⟨p3,0,none⟩),.agg #[.int .i64 1,.int .i64 (n1:Int)]]) (by simp [results,Tryz.results277,go_sem,q1,q2]) rfl ⟨_,by rw [HN1.out],HE.out.2.1,HE.out.2.2⟩
 ·by_cases c2:c=2
  ·subst c2
   cases s with
   |nil =>
    have e:r=([],⟨2,0⟩):=by rw [lX.out];simp [kA]
    subst e
    clear lX
    have hp:p=none:=HQ.out
    subst hp
    go_wp2_with fail
    refine (PU _).mono ?_
    rintro e w4 ⟨rfl,cR⟩
    have HE:=aA (xE hI (by omega) hlt gH.out vE.out HQ.out (Below.refl W.heap.size W) cR 2 0)
    have bZ:=vE.out.old (Below.next (Below.refl W.heap.size W) cR (Below.refl W.heap.size W).size)
    have a0:w4.cell? ⟨w.heap.size+1+1,0,none⟩=some (.int .i64 0):=bZ.cell_of rfl
    have a1:w4.cell? ⟨w.heap.size+1+1,1,none⟩=some (.int .i64 0):=bZ.cell_of rfl
    have f0:=bZ.frozen 0
    have f1:=bZ.frozen 1
    clear bZ cR
    go_wp2_with fail
    have q1:=HE.out.1.cell_of (i:=0) rfl
    have q2:=HE.out.1.cell_of (i:=1) rfl
    exact bodyPost_ret (v:=.tuple #[.pointer none,.agg #[.int .i64 2,.int .i64 0]]) (by simp [results,Tryz.results277,go_sem,q1,q2]) rfl ⟨_,rfl,HE.out.2.1,HE.out.2.2⟩
   |cons x s =>
    have e:r=(s,⟨1,x⟩):=by rw [lX.out];simp [kA]
    subst e
    clear lX
    obtain ⟨b1,p',rfl,VS,pK,q1⟩:=HQ.out
    have d0:=pK.cell_of (i:=0) rfl
    have d1:=pK.cell_of (i:=1) rfl
    have HQ1:=aA q1
    have OT:W.there (w.heap.size+1+1) 0 2:=vE.out.there (by simp)
    have lW:=pK.lt
    have hne:b1≠w.heap.size+1+1:=by
     rcases VS with h|h
     ·have:=hI b1 h;omega
     ·omega
    clear pK q1 VS
    go_upto_region 8 with fail
    refine fQ (S:=(fun w'=>w'.there (w.heap.size+1+1) 0 2∧(∀ k,k<W.heap.size→k≠w.heap.size+1+1→w'.heap[k]?=W.heap[k]?)∧w'.cell? ⟨b1,0,none⟩=some (.int .i64 x)∧w'.cell? ⟨b1,1,none⟩=some (.pointer p'))) 11 rfl (by kernel_rfl) ?_ (fun hHeld=>?_)
    ·exact ⟨OT,fun _ _ _=>rfl,d0,d1⟩
    iterate 8 (refine tk 10 (by rfl) (by kernel_rfl) (by exact fun _ _ _ h=>h) (.inl ⟨by rfl,fun w hS=>by (try dsimp only at hS);go_simp;(try with_reducible rfl)⟩) (by assumption) ?_;try go_frame)
    refine bK 8 (by rfl) (by kernel_rfl) (fun K hK=>?_)
    go_simp
    refine (qK _ _).mono ?_
    rintro e w2 ⟨rfl,bA⟩
    have DT:=aA (Below.bU bA)
    go_wp2_with fail
    refine hK.out _ _ ?_ (fun hHeld=>?_)
    ·exact ⟨aU bA hHeld.1,fun k hk hn=>(bA.block k hk).trans (hHeld.2.1 k hk hn),cell_later bA hHeld.2.2.1,cell_later bA hHeld.2.2.2⟩
    clear hK K
    (try go_frame)
    iterate 1 (refine tk 10 (by rfl) (by kernel_rfl) (by exact fun _ _ _ h=>h) (.inl ⟨by rfl,fun w hS=>by (try dsimp only at hS);go_simp;(try with_reducible rfl)⟩) (by assumption) ?_;try go_frame)
    refine bK 10 (by rfl) (by kernel_rfl) (fun K hK=>?_)
    rw [if_pos (by rfl)]
    refine wp_store_mid _ _ _ rfl _ 0 #[.int .i64 1,.int .i64 x] rfl rfl hHeld.1 (by kernel_rfl) (by simp [Value.oneCell']) ?_
    refine hK.out _ _ ?_ (fun hHeld=>?_)
    ·exact aDv hHeld hne
    clear hK K
    (try go_frame)
    refine wpAnyH_done (by kernel_rfl) ?_ _
    have HE:=aA (xE hI (by omega) hlt gH.out vE.out HQ1.out (Below.refl W.heap.size W) DT.out 1 x)
    clear hHeld
    go_wp2_with fail
    have q1:=HE.out.1.cell_of (i:=0) rfl
    have q2:=HE.out.1.cell_of (i:=1) rfl
    exact bodyPost_ret (v:=.tuple #[.pointer p',.agg #[.int .i64 1,.int .i64 x]]) (by simp [results,Tryz.results277,go_sem,World.setCells,q1,q2]) rfl ⟨_,rfl,HE.out.2.1,HE.out.2.2⟩
  ·have e:r=(s,⟨4,0⟩):=by rw [lX.out];simp [kA,c1,c2]
   subst e
   clear lX
   go_wp2_with fail
   refine (wC _).mono ?_
   rintro e w4 ⟨rfl,cR⟩
   have HE:=aA (xE hI (by omega) hlt gH.out vE.out HQ.out (Below.refl W.heap.size W) cR 4 0)
   have bZ:=vE.out.old (Below.next (Below.refl W.heap.size W) cR (Below.refl W.heap.size W).size)
   have a0:w4.cell? ⟨w.heap.size+1+1,0,none⟩=some (.int .i64 0):=bZ.cell_of rfl
   have a1:w4.cell? ⟨w.heap.size+1+1,1,none⟩=some (.int .i64 0):=bZ.cell_of rfl
   have f0:=bZ.frozen 0
   have f1:=bZ.frozen 1
   clear bZ cR
   go_wp2_with fail
   have q1:=HE.out.1.cell_of (i:=0) rfl
   have q2:=HE.out.1.cell_of (i:=1) rfl
   exact bodyPost_ret (v:=.tuple #[.pointer p,.agg #[.int .i64 4,.int .i64 0]]) (by simp [results,Tryz.results277,go_sem,q1,q2]) rfl ⟨_,rfl,HE.out.2.1,HE.out.2.2⟩
end
def lV:M.Plain (List Int) where
 first:=[]
 apply s o:=if o.c=1 then (s++[o.a],⟨1,((s.length+1:Nat):Int)⟩) else if o.c=2 then (s.tail,if s=[] then ⟨2,0⟩ else ⟨1,s.headD 0⟩) else (s,⟨4,0⟩)
def vQ (I:Nat→Prop) (w:World) (s:List Int) (p1 p2:Option Addr):Prop:=∃ f g:List Int,s=f++g.reverse∧iP I w f p1∧iP I w g p2
theorem vQ.stay {I I':Nat→Prop} {w w':World} (hk:∀ k,I k→k<w.heap.size→I' k∧w'.heap[k]?=w.heap[k]?) {s:List Int} {p1 p2:Option Addr} (h:vQ I w s p1 p2):vQ I' w' s p1 p2:=by
 obtain ⟨f,g,e,h1,h2⟩:=h
 exact ⟨f,g,e,h1.stay hk,h2.stay hk⟩
theorem VU {I:Nat→Prop} {n0 N:Nat} {w3 w':World} (hI:∀ k,I k→k<n0) (hn:n0≤N) (hk:∀ k,k<n0∨N≤k→k<w3.heap.size→w'.heap[k]?=w3.heap[k]?) (hz:w3.heap.size≤w'.heap.size) (k:Nat) (h:KB I N w3 k) (hl:k<w3.heap.size):KB I n0 w' k∧w'.heap[k]?=w3.heap[k]?:=by
 rcases h with h|h
 ·exact ⟨.inl h,hk k (.inl (hI k h)) hl⟩
 ·exact ⟨.inr ⟨by omega,by omega⟩,hk k (.inr h.1) hl⟩
theorem vF {w':World} {b c d:Nat} {vs:List Value} {a1 a2 a3 a4:Nat} {o1 o2 o3 o4:Nat} {v1 v2 v3 v4:Value} (h:w'.there c 0 2∧w'.there d 0 2∧w'.cell? ⟨a1,o1,none⟩=some v1∧w'.cell? ⟨a2,o2,none⟩=some v2∧w'.cell? ⟨a3,o3,none⟩=some v3∧w'.cell? ⟨a4,o4,none⟩=some v4) (n1:a1≠b) (n2:a2≠b) (n3:a3≠b) (n4:a4≠b) :
  (w'.setCells b 0 vs).there c 0 2∧(w'.setCells b 0 vs).there d 0 2∧(w'.setCells b 0 vs).cell? ⟨a1,o1,none⟩=some v1∧(w'.setCells b 0 vs).cell? ⟨a2,o2,none⟩=some v2∧(w'.setCells b 0 vs).cell? ⟨a3,o3,none⟩=some v3∧(w'.setCells b 0 vs).cell? ⟨a4,o4,none⟩=some v4:=by
 have e:∀ k,k≠b→(w'.setCells b 0 vs).heap[k]?=w'.heap[k]?:=fun k hk=>iQ vs 0 w' k hk
 exact ⟨World.there_setCells h.1 _ _ _,World.there_setCells h.2.1 _ _ _,fW h.2.2.1 (e _ n1),fW h.2.2.2.1 (e _ n2),fW h.2.2.2.2.1 (e _ n3),fW h.2.2.2.2.2 (e _ n4)⟩
theorem uV {I:Nat→Prop} {w w2:World} {N b6 b7:Nat} {s:List Int} {p1 p2:Option Addr} (hI:∀ k,I k→k<w.heap.size) (h6:w.heap.size≤b6) (h7:w.heap.size≤b7) (l6:b6<N) (l7:b7<N) (hB2:Below w.heap.size w w2) (q:vQ (KB I N w2) w2 s p1 p2) (vs us:List Value) {w3:World} (cH:Below w2.heap.size w2 w3) :
  vQ (KB I w.heap.size ((w3.setCells b6 0 vs).setCells b7 0 us)) ((w3.setCells b6 0 vs).setCells b7 0 us) s p1 p2∧Below w.heap.size w ((w3.setCells b6 0 vs).setCells b7 0 us):=by
 have z2:=hB2.size
 have z3:=cH.size
 have hB:Below w.heap.size w ((w3.setCells b6 0 vs).setCells b7 0 us):=dS h7 _ _ _ (dS h6 _ _ _ (Below.next hB2 cH z2))
 refine ⟨q.stay (VU hI (by omega) (fun k hk hl=>?_) ?_),hB⟩
 ·rw [iQ us 0 _ k (by omega),iQ vs 0 _ k (by omega)]
  exact cH.block k hl
 ·have h1:∀ (vs:List Value) (b o:Nat) (W:World),W.heap.size≤(W.setCells b o vs).heap.size:=fun vs b o W=>(dS (B:=0) (Nat.zero_le b) vs o W (Below.refl _ _)).size
  exact Nat.le_trans z3 (Nat.le_trans (h1 vs b6 0 w3) (h1 us b7 0 _))
def AV (I:Nat→Prop) (w:World) (s:List Int) (x y:Int) (e:Ending) (w':World):Prop:=∃ p1 p2,e = .returned (.tuple #[.agg #[.pointer p1,.pointer p2],.agg #[.int .i64 x,.int .i64 y]])∧vQ (KB I w.heap.size w') w' s p1 p2∧Below w.heap.size w w'
section
variable {I:Nat→Prop} {w:World} {p1 p2:Option Addr} {s f g:List Int}
theorem NT {x:Int} (q1:iP I w (x::f) p1) (q2:iP I w g p2) (hI:∀ k,I k→k<w.heap.size) :
  Calls Tryz.prog 96 #[.agg #[.pointer p1,.pointer p2]] w (AV I w (f++g.reverse) 1 x):=by
 go_enter Tryz.func96,Tryz.ntmps96
 go_upto_region 1 with fail
 generalize hW:World.alloc (World.alloc (World.alloc w _) _) _=W
 have hb0:Below w.heap.size w W:=by rw [←hW];exact ((aB w _).alloc (by simp) _).alloc (by simp;omega) _
 have r1:Row W w.heap.size 68 [.pointer p1,.pointer p2]:=by rw [←hW];exact ((Row.new' rfl).alloc _).alloc _
 have r2:Row W (w.heap.size+1) 68 [.pointer none,.pointer none]:=by rw [←hW];exact (Row.new' (by simp)).alloc _
 have r3:Row W (w.heap.size+1+1) 38 [.int .i64 0,.int .i64 0]:=by rw [←hW];exact Row.new' (by simp)
 have c0:=r1.cell_of (i:=0) rfl
 have c1:=r1.cell_of (i:=1) rfl
 have hlt:=r3.lt
 have gH:=aA hb0
 have t2:W.there (w.heap.size+1) 0 2:=r2.there (by simp)
 have t3:W.there (w.heap.size+1+1) 0 2:=r3.there (by simp)
 obtain ⟨b1,p',rfl,VS,pK,q3⟩:=q1
 have d0:=(pK.old hb0).cell_of (i:=0) rfl
 have d1:=(pK.old hb0).cell_of (i:=1) rfl
 have lW:=hI b1 VS
 have HQ:=aA (show vQ (KB I W.heap.size W) W (f++g.reverse) p' p2 from ⟨f,g,rfl,q3.stay fun k hk hl=>⟨.inl hk,hb0.block k hl⟩,q2.stay fun k hk hl=>⟨.inl hk,hb0.block k hl⟩⟩)
 clear hW hb0 r1 r2 r3 pK q3 q2 VS
 go_upto_region 5 with fail
 refine fQ (S:=(fun w'=>w'.there (w.heap.size+1) 0 2∧w'.there (w.heap.size+1+1) 0 2∧w'.cell? ⟨w.heap.size,0,none⟩=some (.pointer (some ⟨b1,0,none⟩))∧w'.cell? ⟨w.heap.size,1,none⟩=some (.pointer p2)∧w'.cell? ⟨b1,0,none⟩=some (.int .i64 x)∧w'.cell? ⟨b1,1,none⟩=some (.pointer p'))) 16 rfl (by kernel_rfl) ?_ (fun hHeld=>?_)
 ·exact ⟨t2,t3,c0,c1,d0,d1⟩
 iterate 13 (refine tk 15 (by rfl) (by kernel_rfl) (by exact fun _ _ _ h=>h) (.inl ⟨by rfl,fun w hS=>by (try dsimp only at hS);go_simp;(try with_reducible rfl)⟩) (by assumption) ?_;try go_frame)
 refine bK 13 (by rfl) (by kernel_rfl) (fun K hK=>?_)
 go_simp
 refine (qK _ _).mono ?_
 rintro e w2 ⟨rfl,bA⟩
 have DT:=aA (Below.bU bA)
 go_wp2_with fail
 refine hK.out _ _ ?_ (fun hHeld=>?_)
 ·exact ⟨aU bA hHeld.1,aU bA hHeld.2.1,cell_later bA hHeld.2.2.1,cell_later bA hHeld.2.2.2.1,cell_later bA hHeld.2.2.2.2.1,cell_later bA hHeld.2.2.2.2.2⟩
 clear hK K
 (try go_frame)
 refine bK 14 (by rfl) (by kernel_rfl) (fun K hK=>?_)
 rw [if_pos (by rfl)]
 have e1:=World.rangeAt_setCells_same _ (w.heap.size+1) 0 [.pointer p',.pointer p2] hHeld.1
 refine wp_store_mid _ _ _ rfl _ 0 #[.pointer p',.pointer p2] rfl rfl hHeld.1 (by kernel_rfl) (by simp [Value.oneCell']) ?_
 refine hK.out _ _ ?_ (fun hHeld=>?_)
 ·exact vF hHeld (by omega) (by omega) (by omega) (by omega)
 clear hK K
 (try go_frame)
 refine bK 15 (by rfl) (by kernel_rfl) (fun K hK=>?_)
 rw [if_pos (by rfl)]
 have e2:=World.rangeAt_setCells_same _ (w.heap.size+1+1) 0 [.int .i64 1,.int .i64 x] hHeld.2.1
 have e3:=World.rangeAt_setCells_apart e1 (w.heap.size+1+1) 0 [.int .i64 1,.int .i64 x] (.inl (by omega))
 refine wp_store_mid _ _ _ rfl _ 0 #[.int .i64 1,.int .i64 x] rfl rfl hHeld.2.1 (by kernel_rfl) (by simp [Value.oneCell']) ?_
 refine hK.out _ _ ?_ (fun hHeld=>?_)
 ·exact vF hHeld (by omega) (by omega) (by omega) (by omega)
 clear hK K
 (try go_frame)
 refine wpAnyH_done (by kernel_rfl) ?_ _
 have q1:=e3 0 _ rfl
 have q2:=e3 1 _ rfl
 have q3:=e2 0 _ rfl
 have q4:=e2 1 _ rfl
 have HE:=aA (uV (b6:=w.heap.size+1) (b7:=w.heap.size+1+1) hI (by omega) (by omega) (by omega) hlt gH.out HQ.out [.pointer p',.pointer p2] [.int .i64 1,.int .i64 x] DT.out)
 clear hHeld e1 e2 e3
 go_wp2_with fail
 exact bodyPost_ret (v:=.tuple #[.agg #[.pointer p',.pointer p2],.agg #[.int .i64 1,.int .i64 x]]) (by simp [results,Tryz.results96,go_sem,q1,q2,q3,q4]) rfl ⟨_,_,rfl,HE.out.1,HE.out.2⟩
theorem RP {s':List Int} {x' y':Int} (q2:iP I w g p2) (hI:∀ k,I k→k<w.heap.size) (hz:g.length≤1000000000000) (h1:s'=g.reverse.tail) (h2:x'=if g.reverse=[] then 2 else 1) (h3:y'=g.reverse.headD 0) :
  Calls Tryz.prog 96 #[.agg #[.pointer none,.pointer p2]] w (AV I w s' x' y'):=by
 have HEQ:=aA (And.intro h1 (And.intro h2 h3))
 clear h1 h2 h3
 go_enter Tryz.func96,Tryz.ntmps96
 go_upto_region 1 with fail
 generalize hW:World.alloc (World.alloc (World.alloc w _) _) _=W
 have hb0:Below w.heap.size w W:=by rw [←hW];exact ((aB w _).alloc (by simp) _).alloc (by simp;omega) _
 have r1:Row W w.heap.size 68 [.pointer none,.pointer p2]:=by rw [←hW];exact ((Row.new' rfl).alloc _).alloc _
 have r2:Row W (w.heap.size+1) 68 [.pointer none,.pointer none]:=by rw [←hW];exact (Row.new' (by simp)).alloc _
 have r3:Row W (w.heap.size+1+1) 38 [.int .i64 0,.int .i64 0]:=by rw [←hW];exact Row.new' (by simp)
 have c0:=r1.cell_of (i:=0) rfl
 have c1:=r1.cell_of (i:=1) rfl
 have hlt:=r3.lt
 have gH:=aA hb0
 have uX:=aA r1
 have HR2:=aA r2
 have HR3:=aA r3
 have HQ2:=aA (show iP (KB I W.heap.size W) W g p2 from q2.stay fun k hk hl=>⟨.inl hk,hb0.block k hl⟩)
 clear hW hb0 r1 r2 r3 q2
 go_wp2_with fail
 refine (CY (I:=I) (B:=W.heap.size) HQ2.out (Nat.le_refl _) hz).mono ?_
 rintro e w2 ⟨p',rfl,t2,bA⟩
 have m1:=uX.out.old bA
 have y0:=m1.cell_of (i:=0) rfl
 have y1:=m1.cell_of (i:=1) rfl
 have z0:=m1.frozen 0
 have z1:=m1.frozen 1
 have JJ:=bA.size
 have uT:=aA (m1.set 0 (.pointer p') |>.set 1 (.pointer none))
 have sU:=aA t2
 have DT:=aA bA
 clear m1 t2 bA c0 c1
 go_upto_region 3 with fail
 generalize nT:World.setCell (World.setCell w2 _ _) _ _=W3
 have r1:Row W3 w.heap.size 68 [.pointer p',.pointer none]:=by rw [←nT];exact uT.out
 have JM:∀ k,k≠w.heap.size→W3.heap[k]?=w2.heap[k]?:=fun k hk=>by rw [←nT,Below.heap_setCell _ _ _ k hk,Below.heap_setCell _ _ _ k hk]
 have hz3:W3.heap.size=w2.heap.size:=by rw [←nT];simp [World.setCell]
 have sW:=aA (show Below w.heap.size w W3 by rw [←nT];exact ((Below.next gH.out DT.out gH.out.size).setCell (by simp) _).setCell (by simp) _)
 have t2:W3.there (w.heap.size+1) 0 2:=((HR2.out.old DT.out).of_block (JM _ (by omega))).there (by simp)
 have t3:W3.there (w.heap.size+1+1) 0 2:=((HR3.out.old DT.out).of_block (JM _ (by omega))).there (by simp)
 have pL:=aA (show iP (KB I W.heap.size W3) W3 g.reverse p' from sU.out.stay fun k hk hl=>⟨by
  rcases hk with hk|hk
  ·exact .inl hk
  ·exact .inr ⟨hk.1,by omega⟩,JM k (by
  rcases hk with hk|hk
  ·have:=hI k hk;omega
  ·omega)⟩)
 have c0:=r1.cell_of (i:=0) rfl
 have c1:=r1.cell_of (i:=1) rfl
 have HZ3:=aA hz3
 clear nT r1 JM y0 y1 z0 z1 sU hz3
 generalize g.reverse=gr at *
 cases gr with
 |nil =>
  have hp:p'=none:=pL.out
  subst hp
  obtain ⟨rfl,rfl,rfl⟩:s'=[]∧x'=2∧y'=0:=by simpa using HEQ.out
  have HQ:=aA (show vQ (KB I W.heap.size W3) W3 [] none none from ⟨[],[],rfl,rfl,rfl⟩)
  go_upto_region 4 with fail
  refine fQ (S:=(fun w'=>w'.there (w.heap.size+1) 0 2∧w'.there (w.heap.size+1+1) 0 2∧w'.cell? ⟨w.heap.size,0,none⟩=some (.pointer none)∧w'.cell? ⟨w.heap.size,1,none⟩=some (.pointer none)∧w'.cell? ⟨w.heap.size,0,none⟩=some (.pointer none)∧w'.cell? ⟨w.heap.size,1,none⟩=some (.pointer none))) 4 rfl (by kernel_rfl) ?_ (fun hHeld=>?_)
  ·exact ⟨t2,t3,c0,c1,c0,c1⟩
  iterate 1 (refine tk 3 (by rfl) (by kernel_rfl) (by exact fun _ _ _ h=>h) (.inl ⟨by rfl,fun w hS=>by (try dsimp only at hS);go_simp;(try with_reducible rfl)⟩) (by assumption) ?_;try go_frame)
  refine bK 1 (by rfl) (by kernel_rfl) (fun K hK=>?_)
  go_simp
  refine (PU _).mono ?_
  rintro e w4 ⟨rfl,cR⟩
  have VT:=aA (Below.bU cR)
  go_wp2_with fail
  refine hK.out _ _ ?_ (fun hHeld=>?_)
  ·exact ⟨aU cR hHeld.1,aU cR hHeld.2.1,cell_later cR hHeld.2.2.1,cell_later cR hHeld.2.2.2.1,cell_later cR hHeld.2.2.2.2.1,cell_later cR hHeld.2.2.2.2.2⟩
  clear hK K
  (try go_frame)
  refine bK 2 (by rfl) (by kernel_rfl) (fun K hK=>?_)
  rw [if_pos (by rfl)]
  have e1:=World.rangeAt_setCells_same _ (w.heap.size+1) 0 [.pointer none,.pointer none] hHeld.1
  refine wp_store_mid _ _ _ rfl _ 0 #[.pointer none,.pointer none] rfl rfl hHeld.1 (by kernel_rfl) (by simp [Value.oneCell']) ?_
  refine hK.out _ _ ?_ (fun hHeld=>?_)
  ·exact vF hHeld (by omega) (by omega) (by omega) (by omega)
  clear hK K
  (try go_frame)
  refine bK 3 (by rfl) (by kernel_rfl) (fun K hK=>?_)
  rw [if_pos (by rfl)]
  have e2:=World.rangeAt_setCells_same _ (w.heap.size+1+1) 0 [.int .i64 2,.int .i64 0] hHeld.2.1
  have e3:=World.rangeAt_setCells_apart e1 (w.heap.size+1+1) 0 [.int .i64 2,.int .i64 0] (.inl (by omega))
  refine wp_store_mid _ _ _ rfl _ 0 #[.int .i64 2,.int .i64 0] rfl rfl hHeld.2.1 (by kernel_rfl) (by simp [Value.oneCell']) ?_
  refine hK.out _ _ ?_ (fun hHeld=>?_)
  ·exact vF hHeld (by omega) (by omega) (by omega) (by omega)
  clear hK K
  (try go_frame)
  refine wpAnyH_done (by kernel_rfl) ?_ _
  have q1:=e3 0 _ rfl
  have q2:=e3 1 _ rfl
  have q3:=e2 0 _ rfl
  have q4:=e2 1 _ rfl
  have HE:=aA (uV (N:=W.heap.size) (b6:=w.heap.size+1) (b7:=w.heap.size+1+1) hI (by omega) (by omega) (by omega) hlt sW.out HQ.out [.pointer none,.pointer none] [.int .i64 2,.int .i64 0] VT.out)
  clear hHeld e1 e2 e3
  go_wp2_with fail
  exact bodyPost_ret (v:=.tuple #[.agg #[.pointer none,.pointer none],.agg #[.int .i64 2,.int .i64 0]]) (by simp [results,Tryz.results96,go_sem,q1,q2,q3,q4]) rfl ⟨_,_,rfl,HE.out.1,HE.out.2⟩
 |cons x f =>
  obtain ⟨b1,p3,rfl,VS,pK,q3⟩:=pL.out
  obtain ⟨rfl,rfl,rfl⟩:s'=f∧x'=1∧y'=x:=by simpa using HEQ.out
  have d0:=pK.cell_of (i:=0) rfl
  have d1:=pK.cell_of (i:=1) rfl
  have lW:b1<w.heap.size∨W.heap.size≤b1:=by
   rcases VS with h|h
   ·exact .inl (hI b1 h)
   ·exact .inr h.1
  have HQ:=aA (show vQ (KB I W.heap.size W3) W3 s' p3 none from ⟨s',[],by simp,q3,rfl⟩)
  clear pK q3 VS
  go_upto_region 5 with fail
  refine fQ (S:=(fun w'=>w'.there (w.heap.size+1) 0 2∧w'.there (w.heap.size+1+1) 0 2∧w'.cell? ⟨w.heap.size,0,none⟩=some (.pointer (some ⟨b1,0,none⟩))∧w'.cell? ⟨w.heap.size,1,none⟩=some (.pointer none)∧w'.cell? ⟨b1,0,none⟩=some (.int .i64 y')∧w'.cell? ⟨b1,1,none⟩=some (.pointer p3))) 16 rfl (by kernel_rfl) ?_ (fun hHeld=>?_)
  ·exact ⟨t2,t3,c0,c1,d0,d1⟩
  iterate 13 (refine tk 15 (by rfl) (by kernel_rfl) (by exact fun _ _ _ h=>h) (.inl ⟨by rfl,fun w hS=>by (try dsimp only at hS);go_simp;(try with_reducible rfl)⟩) (by assumption) ?_;try go_frame)
  refine bK 13 (by rfl) (by kernel_rfl) (fun K hK=>?_)
  go_simp
  refine (qK _ _).mono ?_
  rintro e w4 ⟨rfl,cR⟩
  have VT:=aA (Below.bU cR)
  go_wp2_with fail
  refine hK.out _ _ ?_ (fun hHeld=>?_)
  ·exact ⟨aU cR hHeld.1,aU cR hHeld.2.1,cell_later cR hHeld.2.2.1,cell_later cR hHeld.2.2.2.1,cell_later cR hHeld.2.2.2.2.1,cell_later cR hHeld.2.2.2.2.2⟩
  clear hK K
  (try go_frame)
  refine bK 14 (by rfl) (by kernel_rfl) (fun K hK=>?_)
  rw [if_pos (by rfl)]
  have e1:=World.rangeAt_setCells_same _ (w.heap.size+1) 0 [.pointer p3,.pointer none] hHeld.1
  refine wp_store_mid _ _ _ rfl _ 0 #[.pointer p3,.pointer none] rfl rfl hHeld.1 (by kernel_rfl) (by simp [Value.oneCell']) ?_
  refine hK.out _ _ ?_ (fun hHeld=>?_)
  ·exact vF hHeld (by omega) (by omega) (by omega) (by omega)
  clear hK K
  (try go_frame)
  refine bK 15 (by rfl) (by kernel_rfl) (fun K hK=>?_)
  rw [if_pos (by rfl)]
  have e2:=World.rangeAt_setCells_same _ (w.heap.size+1+1) 0 [.int .i64 1,.int .i64 y'] hHeld.2.1
  have e3:=World.rangeAt_setCells_apart e1 (w.heap.size+1+1) 0 [.int .i64 1,.int .i64 y'] (.inl (by omega))
  refine wp_store_mid _ _ _ rfl _ 0 #[.int .i64 1,.int .i64 y'] rfl rfl hHeld.2.1 (by kernel_rfl) (by simp [Value.oneCell']) ?_
  refine hK.out _ _ ?_ (fun hHeld=>?_)
  ·exact vF hHeld (by omega) (by omega) (by omega) (by omega)
  clear hK K
  (try go_frame)
  refine wpAnyH_done (by kernel_rfl) ?_ _
  have q1:=e3 0 _ rfl
  have q2:=e3 1 _ rfl
  have q3:=e2 0 _ rfl
  have q4:=e2 1 _ rfl
  have HE:=aA (uV (N:=W.heap.size) (b6:=w.heap.size+1) (b7:=w.heap.size+1+1) hI (by omega) (by omega) (by omega) hlt sW.out HQ.out [.pointer p3,.pointer none] [.int .i64 1,.int .i64 y'] VT.out)
  clear hHeld e1 e2 e3
  go_wp2_with fail
  exact bodyPost_ret (v:=.tuple #[.agg #[.pointer p3,.pointer none],.agg #[.int .i64 1,.int .i64 y']]) (by simp [results,Tryz.results96,go_sem,q1,q2,q3,q4]) rfl ⟨_,_,rfl,HE.out.1,HE.out.2⟩
end
end Go.Proofs.YtefjhnhdagolhabGreat
