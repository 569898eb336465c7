import Derived.Test.YtefjhnhdagolhaaGreatQ02
import Derived.Test.YtefjhnhdagolhaaGreatQ01
set_option maxHeartbeats 400000
namespace Go.Proofs.YtefjhnhdagolhaaGreat
open Go.RowKit
theorem FA (b o:Nat) (x:Int) (w:World) (hc:w.cell? ⟨b,o,none⟩=some (.int .i64 x)) :
  Calls Tryz.prog 239 #[.pointer (some ⟨b,o,none⟩)] w fun e w'=>e = .returned (.int .i64 x)∧w'=w:=by
 have hld:=run_call_load (P:=Tryz.prog) Tryz.func246 (by kernel_rfl) (by kernel_rfl) (by kernel_rfl) .i64 (by kernel_rfl) hc
 clear hc
 go_enter Tryz.func239,Tryz.ntmps239
 go_wp2
 go_ret
 exact ⟨rfl,rfl⟩
theorem uL (b o:Nat) (x:Int) (w:World) (hc:w.cell? ⟨b,o,none⟩=some (.int .i64 x)) :
  Calls Tryz.prog 218 #[.pointer (some ⟨b,o,none⟩)] w fun e w'=>e = .returned (.int .i64 x)∧w'=w:=by
 have HC:=aA hc
 clear hc
 go_enter Tryz.func218,Tryz.ntmps218
 go_wp2_with fail
 refine (FA b o x _ HC.out).mono ?_
 rintro e w1 ⟨rfl,rfl⟩
 go_wp2_with fail
 go_ret
 exact ⟨rfl,rfl⟩
theorem rN (x:Int) (w:World) (h0:0≤x) (h1:x≤9223372036854775807) :
  Calls Tryz.prog 223 #[.int .i64 x] w fun e w'=>e = .returned (.int .i64 (x % 129))∧w'=w:=by
 go_enter Tryz.func223,Tryz.ntmps223
 go_wp2
 go_ret
 exact ⟨rfl,rfl⟩
theorem rO (x:Int) (w:World) (h0:0≤x) (h1:x≤9223372036854775807) :
  Calls Tryz.prog 226 #[.int .i64 x] w fun e w'=>e = .returned (.int .i64 (x / 129))∧w'=w:=by
 go_enter Tryz.func226,Tryz.ntmps226
 go_wp2
 go_ret
 exact ⟨rfl,rfl⟩
theorem uM (n:Int) (w:World) (h0:1≤n) (h1:n≤64) :
  Calls Tryz.prog 199 #[.agg #[.int .i64 n]] w fun e w'=>e = .returned (.int .i64 ((n+15) / 16+2*n+1))∧Below w.heap.size w w':=by
 go_enter Tryz.func199,Tryz.ntmps199
 go_wp2_with fail
 refine (nH n _ h0 h1).mono ?_
 rintro e w1 ⟨rfl,kS⟩
 go_wp2_with fail
 go_ret
 exact ⟨rfl,Below.next (aB _ _) kS (by simp)⟩
end Go.Proofs.YtefjhnhdagolhaaGreat
namespace Go.Proofs.YtefjhnhdagolhaaGreat.M
section
variable {σ:Type} {P:Plain σ} {n cap:Nat}
theorem eU.eH {V:View σ} {t u:Nat} {e:aS σ} {x:bA} (h:eU P n cap V t e x) (hu:u≠t) (hq:cnt V.bs u=V.aM u) (f:Nat→Int):eU P n cap {V with eH:=aI V.eH u f} t e x:=by
 refine {h with RG:=?_,yE:=?_,JU:=?_}
 ·intro h1 i hi
  show aI V.eH u f t i=_
  rw [aD _ _ (Ne.symm hu)]
  exact h.RG h1 i hi
 ·intro h1 i hi
  show aI V.eH u f t i=_
  rw [aD _ _ (Ne.symm hu)]
  exact h.yE h1 i hi
 ·intro h1 h2
  obtain ⟨a1,a2,a3,a4⟩:=h.JU h1 h2
  refine ⟨a1,a2,a3,fun q hq'=>?_⟩
  show _=aI V.eH u f _ q
  rw [a4 q hq',aD]
  rintro rfl
  obtain ⟨b1,b2,b3,b4⟩:=h.h8 (by omega) (by omega)
  obtain ⟨c1,c2⟩:=h.p3 (by omega) (by omega)
  have hl:x.len n x.part=3*x.aJ.length:=by rw [h1];simp [bA.len]
  rw [hl,←b1] at c1
  have hlt:e.past / 3<e.aJ.length:=by omega
  have hm:e.aJ.getD (e.past / 3) 0∈e.aJ:=by
   rw [List.getD_eq_getElem?_getD,List.getElem?_eq_getElem hlt]
   exact List.getElem_mem hlt
  generalize e.aJ.getD (e.past / 3) 0=k at *
  rw [b2,List.mem_filter] at hm
  obtain ⟨m1,m2⟩:=hm
  have m1:=List.mem_range.1 m1
  have m2:=of_decide_eq_true m2
  have hsc:=((h.t7 (by omega) (by omega)).2 k m1 (by unfold tw;omega)).2.1
  have ha:V.at e.stamp k=cnt V.bs k:=rY _ (by rw [h2];exact Nat.le_refl _) k
  omega
theorem tA.count {V:View σ} {s t:Nat} {p:List Nat} {fd:Nat→Nat} (h:tA n V s t p fd) (k:Nat):p.count k=if k∈p then 1 else 0:=by
 have hn:p.Nodup:=by rw [h.1];exact List.nodup_range.filter _
 exact hn.count
theorem tA.mem {V:View σ} {s t:Nat} {p:List Nat} {fd:Nat→Nat} (h:tA n V s t p fd) {k:Nat}:k∈p↔k<n∧fd k=V.at s k+1:=by
 rw [h.1,List.mem_filter]
 simp
theorem nI (V:View σ) {s:Nat} (hs:s=V.N) (k:Nat):V.at s k=cnt V.bs k:=rY _ (by rw [hs];exact Nat.le_refl _) k
theorem yZ {k:Nat} (hk:k<n):k / 16<tw n:=by unfold tw;omega
def View.flip (V:View σ) (u:Nat) (g:Nat→Int):View σ:={V with aM:=aI V.aM u (V.aM u+1),bC:=g,nf:=aI V.nf u V.N}
theorem BQ {V:View σ} {u:Nat} {g:Nat→Int} {s k:Nat} (hq:cnt V.bs u=V.aM u) (h:(V.flip u g).quiet s k):V.quiet s k:=by
 obtain ⟨h1,h2⟩:=h
 by_cases e:k=u
 ·subst e
  simp only [View.flip,aC] at h1
  omega
 ·simp only [View.flip,aD _ _ e] at h1
  exact ⟨h1,h2⟩
theorem zA {V:View σ} {u:Nat} {g:Nat→Int} {s c:Nat} {dw:Nat→Int} (hq:cnt V.bs u=V.aM u) (h:kP P n V s c dw):kP P n (V.flip u g) s c dw :=
 fun k hk hqk=>h k hk (BQ hq hqk)
theorem wO {V:View σ} {u t:Nat} (hu:t≠u) {g:Nat→Int} {s c:Nat} {tg:Nat→Int} {fd:Nat→Nat} (hs:s≤V.N) (h:kJ n V t s c tg fd):kJ n (V.flip u g) t s c tg fd:=by
 refine ⟨h.1,fun k hk hc=>?_⟩
 obtain ⟨h1,h2,h3⟩:=h.2 k hk hc
 refine ⟨h1,?_,?_⟩
 ·show fd k≤aI V.aM u (V.aM u+1) k
  by_cases e:k=u
  ·subst e;rw [aC];omega
  ·rw [aD _ _ e];exact h2
 ·show k=t∨aI V.nf u V.N k<s→fd k=aI V.aM u (V.aM u+1) k
  by_cases e:k=u
  ·subst e;rw [aC];omega
  ·rw [aD _ _ e,aD _ _ e];exact h3
theorem eU.flip {V:View σ} {t u:Nat} {e:aS σ} {x:bA} (h:eU P n cap V t e x) (hu:t≠u) (hq:cnt V.bs u=V.aM u) (g:Nat→Int):eU P n cap (V.flip u g) t e x:=by
 have hf:(V.flip u g).aM t=V.aM t:=aD _ _ hu
 have hn:(V.flip u g).nf t=V.nf t:=aD _ _ hu
 refine {h with xf:=?_,wK:=?_,c0:=?_,c1:=?_,c3:=?_,vS:=?_,tn:=?_,s1:=?_,d5:=?_,d6:=?_,t6:=?_,t7:=?_}
 ·rw [hf];exact h.xf
 ·rw [hf];exact h.wK
 ·rw [hf];exact h.c0
 ·rw [hf];exact h.c1
 ·rw [hf];exact h.c3
 ·rw [hf];exact h.vS
 ·rw [hn];exact h.tn
 ·rw [hn];exact h.s1
 ·exact fun h1=>⟨zA hq (h.d5 h1).1,(h.d5 h1).2⟩
 ·exact fun h1 h2=>⟨zA hq (h.d6 h1 h2).1,(h.d6 h1 h2).2⟩
 ·exact fun h1=>wO hu (h.s1 (by omega) (by omega)).2.1 (h.t6 h1)
 ·exact fun h1 h2=>wO hu (h.s1 (by omega) (by omega)).2.1 (h.t7 h1 h2)
theorem eU.word {V:View σ} {t r:Nat} {e:aS σ} {x:bA} (h:eU P n cap V t e x) (hp:r≠V.prec) (hr:e.spare≠r) (f:Nat→Int):eU P n cap {V with rw:=aI V.rw r f} t e x:=by
 have h1:aI V.rw r f V.prec=V.rw V.prec:=aD _ _ (Ne.symm hp)
 have h2:aI V.rw r f e.spare=V.rw e.spare:=aD _ _ hr
 refine {h with d5:=?_,d7:=?_,w9:=?_,MC:=?_}
 ·intro q
  refine ⟨(h.d5 q).1,?_⟩
  show _→∀ i,_→_→e.dw i=aI V.rw r f V.prec i
  rw [h1]
  exact (h.d5 q).2
 ·intro q q2
  show (∀ i,_→e.dw i=aI V.rw r f V.prec i)∧_
  rw [h1]
  exact h.d7 q q2
 ·intro q
  show ∀ i,_→_→aI V.rw r f e.spare i=_
  rw [h2]
  exact h.w9 q
 ·intro q
  show (∀ i,_→aI V.rw r f e.spare i=_)∧_
  rw [h2]
  exact h.MC q
theorem eU.state {V:View σ} {t r:Nat} {e:aS σ} {x:bA} (h:eU P n cap V t e x) (hr:e.spare≠r) (s:Option (cY σ×cY σ)) (hs:s.isSome):eU P n cap {V with eX:=aI V.eX r s} t e x:=by
 refine {h with s1:=?_,MC:=?_}
 ·intro h1 h2
  obtain ⟨a1,a2,a3,a4,a5,a6,a7,a8⟩:=h.s1 h1 h2
  refine ⟨a1,a2,a3,a4,a5,a6,a7,?_⟩
  show (aI V.eX r s e.aR).isSome=true
  unfold aI
  split
  ·exact hs
  ·exact a8
 ·intro q
  show _∧aI V.eX r s e.spare=_
  rw [aD _ _ hr]
  exact h.MC q
def View.cK (V:View σ) (r:Nat) (p:List Nat):View σ:={V with bs:=V.bs++[p],prec:=r,pb:=aI V.pb r (V.N+1)}
structure Good (n:Nat) (V:View σ) (p:List Nat):Prop where
 cn:∀ k,p.count k=if k∈p then 1 else 0
 lt:∀ k,k∈p→k<n
 fl:∀ k,k∈p→V.aM k=cnt V.bs k+1
theorem tA.good {V:View σ} {s t:Nat} {p:List Nat} {tg:Nat→Int} {fd:Nat→Nat} (h:tA n V s t p fd) (hs:s=V.N) (hc:kJ n V t s (tw n) tg fd) (hG:gO P n V):Good n V p:=by
 refine ⟨h.count,fun k hk=>(h.mem.1 hk).1,fun k hk=>?_⟩
 obtain ⟨h1,h2⟩:=h.mem.1 hk
 have h3:=(hc.2 k h1 (yZ h1)).2.1
 have h4:=hG.fl k h1
 rw [nI V hs] at h2
 omega
section
variable {V:View σ} {r:Nat} {p:List Nat}
theorem wP:(V.cK r p).N=V.N+1:=by simp [View.cK,View.N]
theorem wQ (hp:Good n V p) (k:Nat):cnt (V.cK r p).bs k=cnt V.bs k+if k∈p then 1 else 0:=by
 show cnt (V.bs++[p]) k=_
 rw [MM,hp.cn]
theorem GL {s:Nat} (hs:s≤V.N) (k:Nat):(V.cK r p).at s k=V.at s k:=by
 show cnt ((V.bs++[p]).take s) k=_
 rw [BG _ _ hs]
 rfl
theorem NC:(V.cK r p).rp P=(V.rp P).run P V.op p:=EG P V.op V.bs p
theorem PW {k:Nat} (hk:k ∉ p):(V.cK r p).A P k=V.A P k:=by
 unfold View.A
 rw [NC,MO P V.op k p _ hk]
theorem FB (hp:Good n V p) {s k:Nat} (hs:s≤V.N) (h:(V.cK r p).quiet s k):V.quiet s k∧k ∉ p:=by
 obtain ⟨h1,h2⟩:=h
 rw [GL hs,wQ hp] at h2
 rw [wQ hp] at h1
 have h3:=pY V.bs s k
 have h4:V.at s k=cnt (V.bs.take s) k:=rfl
 by_cases hk:k∈p
 ·rw [if_pos hk] at h2;omega
 ·rw [if_neg hk] at h1 h2
  exact ⟨⟨h1,h2⟩,hk⟩
theorem BR (hp:Good n V p) {s c:Nat} {dw:Nat→Int} (hs:s≤V.N) (h:kP P n V s c dw):kP P n (V.cK r p) s c dw:=by
 intro k hk hq
 obtain ⟨h1,h2⟩:=FB hp hs hq
 rw [PW h2]
 exact h k hk h1
theorem zB {t s c:Nat} {tg:Nat→Int} {fd:Nat→Nat} (hs:s≤V.N) (h:kJ n V t s c tg fd):kJ n (V.cK r p) t s c tg fd:=by
 refine ⟨h.1,fun k hk hc=>?_⟩
 rw [GL hs]
 exact h.2 k hk hc
theorem RJ {s t:Nat} {q:List Nat} {fd:Nat→Nat} (hs:s≤V.N) (h:tA n V s t q fd):tA n (V.cK r p) s t q fd:=by
 unfold tA
 simp only [GL hs]
 exact h
theorem eU.cK {t:Nat} {e:aS σ} {x:bA} (h:eU P n cap V t e x) (hp:Good n V p) (hG:gO P n V) (hr:e.spare≠r):eU P n cap (V.cK r p) t e x:=by
 have hst:∀ {s:Nat},s≤V.N→s=(V.cK r p).N→False:=fun h1 h2=>by rw [wP] at h2;omega
 have hs:5≤x.part→x.part≤10→e.stamp≤V.N:=fun h1 h2=>(h.s1 h1 h2).2.1
 have hnp:cnt V.bs t=V.aM t→t ∉ p:=fun h1 h2=>by have:=hp.fl t h2;omega
 have RI:cnt V.bs t=V.aM t→cnt (V.cK r p).bs t=cnt V.bs t:=fun h1=>by rw [wQ hp,if_neg (hnp h1)];rfl
 refine {h with c0:=?_,c1:=?_,vS:=?_,wL:=hr,a0:=?_,a1:=?_,fd:=?_,tn:=?_,s1:=?_,d5:=?_,d6:=?_,d7:=?_,t6:=?_,t7:=?_,h8:=?_,JU:=?_,h9:=?_}
 ·intro h1
  obtain ⟨a,b,c⟩:=h.c0 h1
  exact ⟨a,b,(RI c).trans c⟩
 ·intro h1
  obtain ⟨a,b,c⟩:=h.c1 h1
  exact ⟨a,b,(RI c).trans c⟩
 ·intro h1
  exact (RI (h.vS h1)).trans (h.vS h1)
 ·intro h1
  rw [PW (hnp (h.c0 h1).2.2)]
  exact h.a0 h1
 ·intro h1
  rw [PW (hnp (h.vS h1))]
  exact h.a1 h1
 ·intro h1 h2
  rw [RI (h.vS h1)]
  show (V.cK r p).at (aI V.pb r (V.N+1) e.found) t=_
  by_cases q:e.found=r
  ·rw [q,aC]
   show cnt ((V.cK r p).bs.take _) t=_
   rw [rY _ (by rw [←wP (r:=r) (p:=p)];exact Nat.le_refl _)]
   exact RI (h.vS h1)
  ·rw [aD _ _ q,GL (hG.pbN _)]
   exact h.fd h1 h2
 ·intro h1 h2
  rw [wP]
  exact Nat.lt_succ_of_lt (h.tn h1 h2)
 ·intro h1 h2
  obtain ⟨a1,a2,a3,a4,a5,a6,a7,a8⟩:=h.s1 h1 h2
  refine ⟨a1,by rw [wP];omega,?_,fun q=>(hst a2 q).elim,a5,a6,?_,a8⟩
  ·show _≤aI V.pb r (V.N+1) e.aR
   unfold aI
   split<;>omega
  ·show aI V.pb r (V.N+1) e.spare≤_
   rw [aD _ _ hr]
   exact a7
 ·exact fun h1=>⟨BR hp (hs (by omega) (by omega)) (h.d5 h1).1,fun q=>(hst (hs (by omega) (by omega)) q).elim⟩
 ·exact fun h1 h2=>⟨BR hp (hs (by omega) h2) (h.d6 h1 h2).1,(h.d6 h1 h2).2⟩
 ·exact fun h1 q=>(hst (hs (by omega) (by omega)) q).elim
 ·exact fun h1=>zB (hs (by omega) (by omega)) (h.t6 h1)
 ·exact fun h1 h2=>zB (hs (by omega) (by omega)) (h.t7 h1 h2)
 ·exact fun h1 h2=>⟨(h.h8 h1 h2).1,RJ (hs (by omega) (by omega)) (h.h8 h1 h2).2⟩
 ·exact fun h1 q=>(hst (hs (by omega) (by omega)) q).elim
 ·exact fun h1 q=>(hst (hs (by omega) (by omega)) q).elim
end
def View.more (V:View σ) (u:Nat) (o:Op):View σ:={V with ops:=aI V.ops u (V.ops u++[o])}
section
variable {V:View σ} {u:Nat} {o:Op}
theorem GM {k i:Nat} (hi:i<(V.ops k).length):(V.more u o).op k i=V.op k i:=by
 show (aI V.ops u (V.ops u++[o]) k).getD i _=_
 by_cases e:k=u
 ·subst e
  rw [aC]
  simp [View.op,List.getD_eq_getElem?_getD,List.getElem?_append_left hi]
 ·rw [aD _ _ e]
  rfl
theorem ZB (hG:gO P n V) {k:Nat} (hk:¬k<n):cnt V.bs k=0:=by
 unfold cnt
 rw [List.count_eq_zero]
 intro hm
 obtain ⟨b,hb,hkb⟩:=List.mem_flatten.1 hm
 exact hk (hG.mem b hb k hkb)
theorem PX (hG:gO P n V) {k i:Nat} (hi:i<cnt V.bs k):i<(V.ops k).length:=by
 by_cases hk:k<n
 ·have:=hG.XT k hk;have:=(hG.fl k hk).1;omega
 ·rw [ZB hG hk] at hi;omega
theorem wR (hG:gO P n V):(V.more u o).rp P=V.rp P:=FZ P fun _ _ hi=>GM (PX hG hi)
theorem UJ (hG:gO P n V) (k:Nat):(V.more u o).A P k=V.A P k:=by unfold View.A;rw [wR hG]
theorem KH (hG:gO P n V) {p:List Nat} (hp:Good n V p) {q:List Nat} (hq:∀ k,q.count k≤p.count k):(V.rp P).run P (V.more u o).op q=(V.rp P).run P V.op q:=by
 refine uJ P q _ fun k i hi=>GM ?_
 rw [show (V.rp P).c k=cnt V.bs k from BH P V.op V.bs k] at hi
 have h1:=hq k
 rw [hp.cn k] at h1
 by_cases hk:k∈p
 ·rw [if_pos hk] at h1
  have:=hp.fl k hk
  have:=hG.XT k (hp.lt k hk)
  omega
 ·rw [if_neg hk] at h1
  exact PX hG (by omega)
theorem eU.more {t:Nat} {e:aS σ} {x:bA} (h:eU P n cap V t e x) (hG:gO P n V) (hu:t≠u):eU P n cap (V.more u o) t e x:=by
 have ho:(V.more u o).ops t=V.ops t:=aD _ _ hu
 have hop:∀ i,(V.more u o).op t i=V.op t i:=fun i=>by show ((V.more u o).ops t).getD i _=_;rw [ho];rfl
 have hA:∀ k,(V.more u o).A P k=V.A P k:=UJ hG
 have hD:∀ {s c:Nat} {dw:Nat→Int},kP P n V s c dw→kP P n (V.more u o) s c dw:=fun h k hk hq=>by rw [hA];exact h k hk hq
 refine {h with xo:=?_,yD:=?_,c0:=?_,c1:=?_,c3:=?_,a0:=?_,a1:=?_,d5:=?_,d6:=?_,d7:=?_,JU:=?_,h9:=?_}
 ·rw [ho];exact h.xo
 ·rw [ho,hop];exact h.yD
 ·rw [ho];exact h.c0
 ·rw [ho];exact h.c1
 ·rw [ho];exact h.c3
 ·rw [hA];exact h.a0
 ·rw [hA];exact h.a1
 ·exact fun h1=>⟨hD (h.d5 h1).1,(h.d5 h1).2⟩
 ·exact fun h1 h2=>⟨hD (h.d6 h1 h2).1,(h.d6 h1 h2).2⟩
 ·intro h1 h2
  rw [wR hG]
  exact h.d7 h1 h2
 ·intro h1 h2
  rw [wR hG,KH hG ((h.h8 (by omega) (by omega)).2.good h2 (h.t7 (by omega) (by omega)) hG) (fun k=>(List.take_sublist _ _).count_le k)]
  exact h.JU h1 h2
 ·intro h1 h2
  rw [wR hG,KH hG ((h.h8 (by omega) (by omega)).2.good h2 (h.t7 (by omega) (by omega)) hG) (fun k=>Nat.le_refl _)]
  exact h.h9 h1 h2
end
end
section
variable {σ:Type} {P:Plain σ} {n cap:Nat} {V:View σ}
theorem gO.eH (h:gO P n V) {u:Nat} (hq:cnt V.bs u=V.aM u) (f:Nat→Int):gO P n {V with eH:=aI V.eH u f}:=by
 refine {h with UD:=?_}
 intro t ht hc i hi
 show aI V.eH u f t i=_
 rw [aD]
 ·exact h.UD t ht hc i hi
 ·rintro rfl
  have MR:cnt V.bs t<V.aM t:=hc
  omega
theorem gO.more (h:gO P n V) {u:Nat} (o:Op):gO P n (V.more u o):=by
 have hA:∀ k,(V.more u o).A P k=V.A P k:=UJ h
 have hl:∀ t,(V.ops t).length≤((V.more u o).ops t).length:=fun t=>by
  show _≤(aI V.ops u (V.ops u++[o]) t).length
  by_cases e:t=u
  ·subst e;rw [aC];simp
  ·rw [aD _ _ e];exact Nat.le_refl _
 refine {h with XT:=?_,UD:=?_,MP:=?_,zJ:=?_,recs:=?_}
 ·exact fun t ht=>Nat.le_trans (h.XT t ht) (hl t)
 ·intro t ht hc i hi
  show V.eH t i=((V.more u o).op t (cnt V.bs t)).w i
  have MR:cnt V.bs t<V.aM t:=hc
  rw [GM (by have:=h.XT t ht;omega)]
  exact h.UD t ht hc i hi
 ·intro t ht;rw [hA];exact h.MP t ht
 ·rw [wR h];exact h.zJ
 ·intro r t ht hq;rw [hA];exact h.recs r t ht hq
theorem gO.flip (h:gO P n V) {u:Nat} (hu:u<n) (hq:cnt V.bs u=V.aM u) (hl:(V.ops u).length=V.aM u+1) (ha:∀ i,i<3→V.eH u i=(V.op u (V.aM u)).w i) :
  gO P n (V.flip u (aI V.bC (u / 16) (V.bC (u / 16)+(if V.aM u % 2=1 then -(2 ^ (u % 16)) else 2 ^ (u % 16))))):=by
 generalize hg:aI V.bC (u / 16) (V.bC (u / 16)+(if V.aM u % 2=1 then -(2 ^ (u % 16)) else 2 ^ (u % 16)))=g
 have hf:∀ t,t≠u→(V.flip u g).aM t=V.aM t:=fun t ht=>aD _ _ ht
 have hfu:(V.flip u g).aM u=V.aM u+1:=aC _ _ _
 refine {h with fl:=?_,XT:=?_,UD:=?_,bC:=?_,recs:=?_,nfN:=?_,RF:=?_}
 ·intro t ht
  by_cases e:t=u
  ·subst e;rw [hfu];show cnt V.bs t≤_∧_≤cnt V.bs t+1;omega
  ·rw [hf t e];exact h.fl t ht
 ·intro t ht
  by_cases e:t=u
  ·subst e;rw [hfu];show _≤(V.ops t).length;omega
  ·rw [hf t e];exact h.XT t ht
 ·intro t ht hc i hi
  by_cases e:t=u
  ·subst e
   show V.eH t i=(V.op t (cnt V.bs t)).w i
   rw [hq]
   exact ha i hi
  ·rw [hf t e] at hc;exact h.UD t ht hc i hi
 ·intro w hw
  show g w=bits n (aI V.aM u (V.aM u+1)) w
  rw [←hg]
  by_cases e:w=u / 16
  ·subst e
   rw [aC,RA n V.aM u hu,h.bC _ hw]
  ·rw [aD _ _ e,ML _ _ _ _ _ e]
   exact h.bC w hw
 ·exact fun r t ht hqt=>h.recs r t ht (BQ hq hqt)
 ·intro t
  show aI V.nf u V.N t≤V.N
  unfold aI
  split
  ·exact Nat.le_refl _
  ·exact h.nfN t
 ·intro t ht hn
  have hn':aI V.nf u V.N t+2≤V.N:=hn
  by_cases e:t=u
  ·subst e;rw [aC] at hn';omega
  ·rw [aD _ _ e] at hn'
   rw [hf t e]
   exact h.RF t ht hn'
theorem quiet_mono {s s' k:Nat} (hs:s≤s') (h:V.quiet s k):V.quiet s' k:=by
 obtain ⟨h1,h2⟩:=h
 refine ⟨h1,?_⟩
 have a:=EF V.bs hs k
 have b:=pY V.bs s' k
 show cnt (V.bs.take s') k=_
 have c:cnt (V.bs.take s) k=cnt V.bs k:=h2
 omega
theorem gO.word (h:gO P n V) {r i s:Nat} {dw:Nat→Int} (hr:r≠V.prec) (hs:V.pb r≤s) (hd:kP P n V s (aQ n) dw):gO P n {V with rw:=aI V.rw r (aI (V.rw r) i (dw i))}:=by
 have hp:aI V.rw r (aI (V.rw r) i (dw i)) V.prec=V.rw V.prec:=aD _ _ (Ne.symm hr)
 refine {h with RD:=?_,MP:=?_,recs:=?_}
 ·intro w hw
  show aI V.rw r (aI (V.rw r) i (dw i)) V.prec w=_
  rw [hp]
  exact h.RD w hw
 ·intro t ht
  show aI V.rw r (aI (V.rw r) i (dw i)) V.prec _=_∧aI V.rw r (aI (V.rw r) i (dw i)) V.prec _=_
  rw [hp]
  exact h.MP t ht
 ·intro r' t ht hq
  show aI V.rw r (aI (V.rw r) i (dw i)) r' _=_∧aI V.rw r (aI (V.rw r) i (dw i)) r' _=_
  by_cases e:r'=r
  ·subst e
   rw [aC]
   have old:=h.recs r' t ht hq
   obtain ⟨d1,d2⟩:=hd t ht (quiet_mono hs hq)
   have RK:aL n t<aQ n:=by unfold aL aQ;omega
   have hl2:aN n t<aQ n:=by unfold aN aQ;omega
   constructor
   ·unfold aI
    split
    ·rename_i q;rw [←q];exact d1 RK
    ·exact old.1
   ·unfold aI
    split
    ·rename_i q;rw [←q];exact d2 hl2
    ·exact old.2
  ·rw [aD _ _ e]
   exact h.recs r' t ht hq
theorem gO.state (h:gO P n V) {r:Nat} (hr:r≠V.prec) (s:Option (cY σ×cY σ)):gO P n {V with eX:=aI V.eX r s}:=by
 refine {h with zJ:=?_}
 show ∃ f,aI V.eX r s V.prec=_
 rw [aD _ _ (Ne.symm hr)]
 exact h.zJ
theorem gO.cK (h:gO P n V) {r s t:Nat} {p:List Nat} {tg:Nat→Int} {fd:Nat→Nat} {v f:cY σ} {dw:Nat→Int} (hs:s=V.N) (hsc:kJ n V t s (tw n) tg fd) (EM:tA n V s t p fd) (hrw:∀ i,i<aQ n→V.rw r i=dw i) (hrs:V.eX r=some (v,f))
  (hv:v=⟨((V.rp P).run P V.op p).st,num (V.bs++[p])⟩) (ha:oV n ((V.rp P).run P V.op p) dw) (hw:∀ w,w<tw n→dw w=bits n fd w):gO P n (V.cK r p):=by
 have hp:=EM.good hs hsc h
 have hA:∀ k,(V.cK r p).A P k=((V.rp P).run P V.op p).an k:=fun k=>by unfold View.A;rw [NC]
 have aC6:∀ k,k<n→V.rw r (aL n k)=((V.cK r p).A P k).s∧V.rw r (aN n k)=((V.cK r p).A P k).v:=by
  intro k hk
  rw [hA,hrw _ (by unfold aL aQ;omega),hrw _ (by unfold aN aQ;omega)]
  exact ha k hk
 have RI:∀ k,cnt (V.cK r p).bs k=cnt V.bs k+if k∈p then 1 else 0:=wQ hp
 refine {h with fl:=?_,UD:=?_,mem:=?_,RD:=?_,MP:=aC6,zJ:=?_,recs:=?_,pbN:=?_,pbc:=?_,nfN:=?_,RF:=?_}
 ·intro k hk
  show _≤V.aM k∧V.aM k≤_
  rw [RI]
  have:=h.fl k hk
  split
  ·rename_i hm;have:=hp.fl k hm;omega
  ·omega
 ·intro k hk hc i hi
  have MR:cnt (V.cK r p).bs k<V.aM k:=hc
  have hkp:k ∉ p:=fun hm=>by rw [RI,if_pos hm] at MR;have:=hp.fl k hm;omega
  show V.eH k i=(V.op k (cnt (V.cK r p).bs k)).w i
  rw [RI,if_neg hkp] at MR ⊢
  exact h.UD k hk MR i hi
 ·intro b hb k hk
  have hb':b∈V.bs++[p]:=hb
  rcases List.mem_append.1 hb' with hb'|hb'
  ·exact h.mem b hb' k hk
  ·rw [List.mem_singleton.1 hb'] at hk;exact hp.lt k hk
 ·intro w hw'
  show V.rw r w=bits n (cnt (V.cK r p).bs) w
  rw [hrw w (by unfold aQ;omega),hw w hw']
  apply rX
  intro k _ hk
  rw [RI]
  obtain ⟨b1,b2,-⟩:=hsc.2 k hk (yZ hk)
  have b3:=EM.2.2 k hk
  rw [nI V hs] at b1 b3
  split
  ·rename_i hm
   have:=(EM.mem.1 hm).2
   rw [nI V hs] at this
   rw [this]
  ·rename_i hm
   have:fd k≠cnt V.bs k+1:=fun q=>hm (EM.mem.2 ⟨hk,by rw [nI V hs];exact q⟩)
   rw [show fd k=cnt V.bs k by omega]
   rfl
 ·refine ⟨f,?_⟩
  show V.eX r=_
  rw [hrs,hv,NC]
  rfl
 ·intro r' k hk hq
  by_cases e:r'=r
  ·subst e;exact aC6 k hk
  ·have hq':(V.cK r p).quiet (aI V.pb r (V.N+1) r') k:=hq
   rw [aD _ _ e] at hq'
   obtain ⟨q1,q2⟩:=FB hp (h.pbN r') hq'
   rw [PW q2]
   exact h.recs r' k hk q1
 ·intro r'
  rw [wP]
  show aI V.pb r (V.N+1) r'≤_
  unfold aI
  split
  ·exact Nat.le_refl _
  ·exact Nat.le_succ_of_le (h.pbN r')
 ·rw [wP]
  exact aC _ _ _
 ·intro k
  rw [wP]
  exact Nat.le_succ_of_le (h.nfN k)
 ·intro k hk hn
  rw [wP] at hn
  have hn':V.nf k+2≤V.N+1:=hn
  show V.aM k=_
  rw [RI]
  have b1:=(hsc.2 k hk (yZ hk)).2.2 (.inr (by omega))
  have b2:=h.fl k hk
  split
  ·rename_i hm;exact hp.fl k hm
  ·rename_i hm
   have:fd k≠cnt V.bs k+1:=fun q=>hm (EM.mem.2 ⟨hk,by rw [nI V hs];exact q⟩)
   omega
end
section
variable {σ:Type} {P:Plain σ} {n cap:Nat} {V:View σ} {t:Nat} {e:aS σ} {x:bA}
structure pZ (P:Plain σ) (n cap:Nat) (V:View σ) (t:Nat) (e:aS σ) (x:bA):Prop where
 xo:x.ops=V.ops t
 xf:x.aM=V.aM t
 bk:e.aG=x.aG
 bc:x.aG≤cap
 ag:e.again=decide (x.tries=2)
 wK:e.cQ=decide (V.aM t % 2=1)
 yD:(V.ops t).length≠0∧e.op=V.op t ((V.ops t).length-1)
 c3:(V.ops t).length=V.aM t∧x.ended+1=V.aM t
 yE:∀ i,i<3→V.eH t i=e.op.w i
 sp:(e.spare=2*t+1∧e.kept=2*t+2)∨(e.spare=2*t+2∧e.kept=2*t+1)
 wL:e.spare≠V.prec
 en:e.ended=decide (0<x.ended)
 tr:x.tries=1∨x.tries=2
 tn:x.tries=2→V.nf t<V.N
theorem eU.base (h:eU P n cap V t e x) (h3:3≤x.part):pZ P n cap V t e x :=
 ⟨h.xo,h.xf,h.bk,h.bc,h.ag (by omega),h.wK,h.yD (by omega),h.c3 h3,h.yE (by omega),h.sp,h.wL,h.en,h.tr h3,h.tn h3⟩
structure XV (P:Plain σ) (n:Nat) (V:View σ) (t:Nat) (e:aS σ) (x:bA):Prop where
 st:x.stamp=e.stamp
 le:e.stamp≤V.N
 pb:e.stamp≤V.pb e.aR
 cur:e.stamp=V.N→e.aR=V.prec
 nf:V.nf t≤e.stamp
 nf2:x.tries=2→V.nf t<e.stamp
 spb:V.pb e.spare≤e.stamp
 some:(V.eX e.aR).isSome
theorem eU.vR (h:eU P n cap V t e x) (h5:5≤x.part) (MD:x.part≤10):XV P n V t e x:=by
 obtain ⟨a1,a2,a3,a4,a5,a6,a7,a8⟩:=h.s1 h5 MD
 exact ⟨a1,a2,a3,a4,a5,a6,a7,a8⟩
theorem XV.all (h:XV P n V t e x):x.stamp=e.stamp∧e.stamp≤V.N∧e.stamp≤V.pb e.aR∧(e.stamp=V.N→e.aR=V.prec)∧V.nf t≤e.stamp∧(x.tries=2→V.nf t<e.stamp)∧V.pb e.spare≤e.stamp∧(V.eX e.aR).isSome :=
 ⟨h.st,h.le,h.pb,h.cur,h.nf,h.nf2,h.spb,h.some⟩
theorem eU.ZC (b:pZ P n cap V t e x) (h:x.part=3∨x.part=4) (hp:e.phase=x.part) (hl:e.past+x.left=x.len n x.part∧0<x.left):eU P n cap V t e x :=
 {xo:=b.xo,xf:=b.xf,bk:=b.bk,bc:=b.bc,ag:=fun _=>b.ag,wK:=b.wK,yD:=fun _=>b.yD,c3:=fun _=>b.c3,yE:=fun _=>b.yE,sp:=b.sp,wL:=b.wL,en:=b.en,tr:=fun _=>b.tr,tn:=fun _=>b.tn,
  p1:=(by intros;(try dsimp only at *);omega),p2:=fun _=>hp,p3:=fun _ _=>hl,p4:=(by intros;(try dsimp only at *);omega),c0:=(by intros;(try dsimp only at *);omega),t0:=(by intros;(try dsimp only at *);omega),c1:=(by intros;(try dsimp only at *);omega),vS:=(by intros;(try dsimp only at *);omega),RG:=(by intros;(try dsimp only at *);omega),a0:=(by intros;(try dsimp only at *);omega),a1:=(by intros;(try dsimp only at *);omega),fd:=(by intros;(try dsimp only at *);omega),s1:=(by intros;(try dsimp only at *);omega),d5:=(by intros;(try dsimp only at *);omega),d6:=(by intros;(try dsimp only at *);omega),d7:=(by intros;(try dsimp only at *);omega),t6:=(by intros;(try dsimp only at *);omega),t7:=(by intros;(try dsimp only at *);omega),h8:=(by intros;(try dsimp only at *);omega),JU:=(by intros;(try dsimp only at *);omega),h9:=(by intros;(try dsimp only at *);omega),w9:=(by intros;(try dsimp only at *);omega),MC:=(by intros;(try dsimp only at *);omega)}
theorem eU.UK (b:pZ P n cap V t e x) (h:x.part=11) (hp:1≤x.left∧x.left≤3∧e.phase=14-x.left) (hc:cnt V.bs t=V.aM t) (ha:x.left=1→e.yA=(V.A P t).s) (hf:x.left≤2→V.at (V.pb e.found) t=cnt V.bs t):eU P n cap V t e x :=
 {xo:=b.xo,xf:=b.xf,bk:=b.bk,bc:=b.bc,ag:=fun _=>b.ag,wK:=b.wK,yD:=fun _=>b.yD,c3:=fun _=>b.c3,yE:=fun _=>b.yE,sp:=b.sp,wL:=b.wL,en:=b.en,tr:=fun _=>b.tr,tn:=fun _=>b.tn,
  p1:=(by intros;(try dsimp only at *);omega),p2:=(by intros;(try dsimp only at *);omega),p3:=(by intros;(try dsimp only at *);omega),p4:=fun _=>hp,c0:=(by intros;(try dsimp only at *);omega),t0:=(by intros;(try dsimp only at *);omega),c1:=(by intros;(try dsimp only at *);omega),vS:=fun _=>hc,RG:=(by intros;(try dsimp only at *);omega),a0:=(by intros;(try dsimp only at *);omega),a1:=fun _=>ha,fd:=fun _=>hf,s1:=(by intros;(try dsimp only at *);omega),d5:=(by intros;(try dsimp only at *);omega),d6:=(by intros;(try dsimp only at *);omega),d7:=(by intros;(try dsimp only at *);omega),t6:=(by intros;(try dsimp only at *);omega),t7:=(by intros;(try dsimp only at *);omega),h8:=(by intros;(try dsimp only at *);omega),JU:=(by intros;(try dsimp only at *);omega),h9:=(by intros;(try dsimp only at *);omega),w9:=(by intros;(try dsimp only at *);omega),MC:=(by intros;(try dsimp only at *);omega)}
theorem eU.mk5 (b:pZ P n cap V t e x) (a:XV P n V t e x) (h:x.part=5) (hp:e.phase=5) (hl:e.past+x.left=aQ n+1∧0<x.left) (hd:kP P n V e.stamp e.past e.dw∧(e.stamp=V.N→∀ i,i<e.past→i<aQ n→e.dw i=V.rw V.prec i)):eU P n cap V t e x :=
 {xo:=b.xo,xf:=b.xf,bk:=b.bk,bc:=b.bc,ag:=fun _=>b.ag,wK:=b.wK,yD:=fun _=>b.yD,c3:=fun _=>b.c3,yE:=fun _=>b.yE,sp:=b.sp,wL:=b.wL,en:=b.en,tr:=fun _=>b.tr,tn:=fun _=>b.tn,
  p1:=(by intros;(try dsimp only at *);omega),p2:=fun _=>by omega,p3:=fun _ _=>by rw [h];exact hl,p4:=(by intros;(try dsimp only at *);omega),c0:=(by intros;(try dsimp only at *);omega),t0:=(by intros;(try dsimp only at *);omega),c1:=(by intros;(try dsimp only at *);omega),vS:=(by intros;(try dsimp only at *);omega),RG:=(by intros;(try dsimp only at *);omega),a0:=(by intros;(try dsimp only at *);omega),a1:=(by intros;(try dsimp only at *);omega),fd:=(by intros;(try dsimp only at *);omega),s1:=fun _ _=>a.all,d5:=fun _=>hd,d6:=(by intros;(try dsimp only at *);omega),d7:=(by intros;(try dsimp only at *);omega),t6:=(by intros;(try dsimp only at *);omega),t7:=(by intros;(try dsimp only at *);omega),h8:=(by intros;(try dsimp only at *);omega),JU:=(by intros;(try dsimp only at *);omega),h9:=(by intros;(try dsimp only at *);omega),w9:=(by intros;(try dsimp only at *);omega),MC:=(by intros;(try dsimp only at *);omega)}
structure Cop (P:Plain σ) (n:Nat) (V:View σ) (e:aS σ):Prop where
 d:kP P n V e.stamp (aQ n) e.dw
 now:e.now.isSome
 cD:e.cD.isSome
theorem eU.aBa (b:pZ P n cap V t e x) (a:XV P n V t e x) (c:Cop P n V e) (h:(x.part=6∧kJ n V t e.stamp e.past e.tg x.flipped)∨(x.part=7∧kJ n V t e.stamp (tw n) e.tg x.flipped)) (hp:e.phase=x.part) (hl:e.past+x.left=x.len n x.part∧0<x.left)
  (hd:e.stamp=V.N→(∀ i,i<aQ n→e.dw i=V.rw V.prec i)∧e.now=some ⟨(V.rp P).st,num V.bs⟩∧e.cD=some ⟨(V.rp P).st,num V.bs⟩):eU P n cap V t e x :=
 {xo:=b.xo,xf:=b.xf,bk:=b.bk,bc:=b.bc,ag:=fun _=>b.ag,wK:=b.wK,yD:=fun _=>b.yD,c3:=fun _=>b.c3,yE:=fun _=>b.yE,sp:=b.sp,wL:=b.wL,en:=b.en,tr:=fun _=>b.tr,tn:=fun _=>b.tn,
  p1:=(by intros;(try dsimp only at *);omega),p2:=fun _=>hp,p3:=fun _ _=>hl,p4:=(by intros;(try dsimp only at *);omega),c0:=(by intros;(try dsimp only at *);omega),t0:=(by intros;(try dsimp only at *);omega),c1:=(by intros;(try dsimp only at *);omega),vS:=(by intros;(try dsimp only at *);omega),RG:=(by intros;(try dsimp only at *);omega),a0:=(by intros;(try dsimp only at *);omega),a1:=(by intros;(try dsimp only at *);omega),fd:=(by intros;(try dsimp only at *);omega),s1:=fun _ _=>a.all,d5:=(by intros;(try dsimp only at *);omega),d6:=fun _ _=>⟨c.d,c.now,c.cD⟩,d7:=fun _=>hd,
  t6:=fun q=>(by rcases h with h|h;exact h.2;omega),t7:=fun q _=>(by rcases h with h|h;omega;exact h.2),h8:=(by intros;(try dsimp only at *);omega),JU:=(by intros;(try dsimp only at *);omega),h9:=(by intros;(try dsimp only at *);omega),w9:=(by intros;(try dsimp only at *);omega),MC:=(by intros;(try dsimp only at *);omega)}
theorem eU.mk8 (b:pZ P n cap V t e x) (a:XV P n V t e x) (c:Cop P n V e) (s:kJ n V t e.stamp (tw n) e.tg x.flipped) (q:e.aJ=x.aJ∧tA n V e.stamp t e.aJ x.flipped) (h:8≤x.part∧x.part≤10) (hp:e.phase=x.part) (hl:e.past+x.left=x.len n x.part∧0<x.left)
  (JU:x.part=8→e.stamp=V.N→e.cD=some ⟨(V.rp P).st,num V.bs⟩∧e.now=some ⟨((V.rp P).run P V.op (e.aJ.take (e.past / 3))).st,num V.bs⟩∧oV n ((V.rp P).run P V.op (e.aJ.take (e.past / 3))) e.dw∧∀ q,q<e.past % 3→e.heard q=V.eH (e.aJ.getD (e.past / 3) 0) q)
  (h9:x.part=9∨x.part=10→e.stamp=V.N→e.now=some ⟨((V.rp P).run P V.op e.aJ).st,num (V.bs++[e.aJ])⟩∧oV n ((V.rp P).run P V.op e.aJ) e.dw∧∀ w,w<tw n→e.dw w=bits n x.flipped w)
  (w9:x.part=9→∀ i,i<e.past→i<aQ n→V.rw e.spare i=e.dw i) (MC:x.part=10→(∀ i,i<aQ n→V.rw e.spare i=e.dw i)∧V.eX e.spare=e.now.bind fun v=>e.cD.map fun f=>(v,f)):eU P n cap V t e x :=
 {xo:=b.xo,xf:=b.xf,bk:=b.bk,bc:=b.bc,ag:=fun _=>b.ag,wK:=b.wK,yD:=fun _=>b.yD,c3:=fun _=>b.c3,yE:=fun _=>b.yE,sp:=b.sp,wL:=b.wL,en:=b.en,tr:=fun _=>b.tr,tn:=fun _=>b.tn,
  p1:=(by intros;(try dsimp only at *);omega),p2:=fun _=>hp,p3:=fun _ _=>hl,p4:=(by intros;(try dsimp only at *);omega),c0:=(by intros;(try dsimp only at *);omega),t0:=(by intros;(try dsimp only at *);omega),c1:=(by intros;(try dsimp only at *);omega),vS:=(by intros;(try dsimp only at *);omega),RG:=(by intros;(try dsimp only at *);omega),a0:=(by intros;(try dsimp only at *);omega),a1:=(by intros;(try dsimp only at *);omega),fd:=(by intros;(try dsimp only at *);omega),s1:=fun _ _=>a.all,d5:=(by intros;(try dsimp only at *);omega),d6:=fun _ _=>⟨c.d,c.now,c.cD⟩,d7:=(by intros;(try dsimp only at *);omega),t6:=(by intros;(try dsimp only at *);omega),t7:=fun _ _=>s,h8:=fun _ _=>q,JU:=JU,h9:=h9,w9:=w9,MC:=MC}
theorem pZ.with {e':aS σ} {x':bA} (b:pZ P n cap V t e x) (h1:x'.ops=x.ops) (h2:x'.aM=x.aM) (h3:e'.aG=x'.aG) (h4:x'.aG≤cap) (h5:e'.again=decide (x'.tries=2)) (h6:e'.cQ=e.cQ) (h7:e'.op=e.op) (h8:x'.ended=x.ended) (h9:e'.spare=e.spare) (MD:e'.kept=e.kept) (XW:e'.ended=e.ended)
  (h12:x'.tries=1∨x'.tries=2) (h13:x'.tries=2→V.nf t<V.N):pZ P n cap V t e' x' :=
 ⟨h1.trans b.xo,h2.trans b.xf,h3,h4,h5,h6.trans b.wK,⟨b.yD.1,h7.trans b.yD.2⟩,by rw [h8];exact b.c3,by rw [h7];exact b.yE,by rw [h9,MD];exact b.sp,by rw [h9];exact b.wL,by rw [h8,XW];exact b.en,h12,h13⟩
theorem eU.bK {e1:aS σ} {x1:bA} (b:pZ P n cap V t e1 x1):eU P n cap V t e1.bK (x1.enter n 3):=by
 by_cases h:x1.aG=0
 ·have e2:x1.enter n 3 = {x1 with part:=4,left:=1}:=by simp [bA.enter,bA.len,h]
  have e3:e1.bK=e1.enter 4:=by unfold aS.bK;rw [if_neg (by rw [b.bk];omega)]
  rw [e2,e3]
  refine eU.ZC ⟨b.xo,b.xf,b.bk,b.bc,b.ag,b.wK,b.yD,b.c3,b.yE,b.sp,b.wL,b.en,b.tr,b.tn⟩ (.inr rfl) rfl ⟨rfl,(by intros;(try dsimp only at *);omega)⟩
 ·have e2:x1.enter n 3 = {x1 with part:=3,left:=x1.aG}:=by simp [bA.enter,bA.len,h]
  have e3:e1.bK=e1.enter 3:=by unfold aS.bK;rw [if_pos (by rw [b.bk];omega)]
  rw [e2,e3]
  refine eU.ZC ⟨b.xo,b.xf,b.bk,b.bc,b.ag,b.wK,b.yD,b.c3,b.yE,b.sp,b.wL,b.en,b.tr,b.tn⟩ (.inl rfl) rfl ⟨?_,by show 0<x1.aG;omega⟩
  show 0+x1.aG=_
  simp [bA.len]
theorem eU.failed (b:pZ P n cap V t e x) (a:XV P n V t e x) (hG:gO P n V) (ht:t<n) (hs:e.stamp≠V.N):eU P n cap V t (e.fail cap) (x.fail n cap):=by
 have hN:V.nf t<V.N:=by have:=a.le;have:=a.nf;omega
 unfold aS.fail bA.fail
 rw [b.ag]
 by_cases h:x.tries=2
 ·rw [if_pos h,if_pos (by simpa using h)]
  have e2:bA.enter n {x with aG:=min (2*x.aG+1) cap} 11 = {x with aG:=min (2*x.aG+1) cap,part:=11,left:=3}:=by simp [bA.enter,bA.len]
  rw [e2]
  have hc:V.aM t=cnt V.bs t:=hG.RF t ht (by have:=a.nf2 h;have:=a.le;omega)
  refine eU.UK (b.with rfl rfl (by show min _ _=min _ _;rw [b.bk]) (Nat.min_le_right _ _) rfl rfl rfl rfl rfl rfl rfl b.tr b.tn) rfl ⟨(by intros;(try dsimp only at *);omega),(by intros;(try dsimp only at *);omega),rfl⟩ hc.symm (by intros;(try dsimp only at *);omega) (by intros;(try dsimp only at *);omega)
 ·rw [if_neg h,if_neg (by simpa using h)]
  exact eU.bK (b.with rfl rfl (by show min _ _=min _ _;rw [b.bk]) (Nat.min_le_right _ _) rfl rfl rfl rfl rfl rfl rfl (.inr rfl) (fun _=>hN))
end
end Go.Proofs.YtefjhnhdagolhaaGreat.M
