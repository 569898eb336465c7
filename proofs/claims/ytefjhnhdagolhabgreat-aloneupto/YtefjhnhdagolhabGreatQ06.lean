import Derived.Test.YtefjhnhdagolhabGreatQ02
import Derived.Test.YtefjhnhdagolhabGreatQ01
set_option maxHeartbeats 400000
namespace Go.Proofs.YtefjhnhdagolhabGreat
open Go.RowKit
theorem EN (b o:Nat) (x:Int) (w:World) (hc:w.cell? ⟨b,o,none⟩=some (.int .i64 x)) :
  Calls Tryz.prog 151 #[.pointer (some ⟨b,o,none⟩)] w fun e w'=>e = .returned (.int .i64 x)∧w'=w:=by
 have hld:=run_call_load (P:=Tryz.prog) Tryz.func158 (by kernel_rfl) (by kernel_rfl) (by kernel_rfl) .i64 (by kernel_rfl) hc
 clear hc
 go_enter Tryz.func151,Tryz.ntmps151
 go_wp2
 go_ret
 exact ⟨rfl,rfl⟩
theorem tU (b o:Nat) (x:Int) (w:World) (hc:w.cell? ⟨b,o,none⟩=some (.int .i64 x)) :
  Calls Tryz.prog 129 #[.pointer (some ⟨b,o,none⟩)] w fun e w'=>e = .returned (.int .i64 x)∧w'=w:=by
 have HC:=aA hc
 clear hc
 go_enter Tryz.func129,Tryz.ntmps129
 go_wp2_with fail
 refine (EN b o x _ HC.out).mono ?_
 rintro e w1 ⟨rfl,rfl⟩
 go_wp2_with fail
 go_ret
 exact ⟨rfl,rfl⟩
theorem rA (x:Int) (w:World) (h0:0≤x) (h1:x≤9223372036854775807) :
  Calls Tryz.prog 134 #[.int .i64 x] w fun e w'=>e = .returned (.int .i64 (x % 129))∧w'=w:=by
 go_enter Tryz.func134,Tryz.ntmps134
 go_wp2
 go_ret
 exact ⟨rfl,rfl⟩
theorem rC (x:Int) (w:World) (h0:0≤x) (h1:x≤9223372036854775807) :
  Calls Tryz.prog 138 #[.int .i64 x] w fun e w'=>e = .returned (.int .i64 (x / 129))∧w'=w:=by
 go_enter Tryz.func138,Tryz.ntmps138
 go_wp2
 go_ret
 exact ⟨rfl,rfl⟩
theorem xM (n:Int) (w:World) (h0:1≤n) (h1:n≤64) :
  Calls Tryz.prog 136 #[.agg #[.int .i64 n]] w fun e w'=>e = .returned (.int .i64 ((n+15) / 16+2*n+1))∧Below w.heap.size w w':=by
 go_enter Tryz.func136,Tryz.ntmps136
 go_wp2_with fail
 refine (nA n _ h0 h1).mono ?_
 rintro e w1 ⟨rfl,lW⟩
 go_wp2_with fail
 go_ret
 exact ⟨rfl,Below.next (aB _ _) lW (by simp)⟩
end Go.Proofs.YtefjhnhdagolhabGreat
namespace Go.Proofs.YtefjhnhdagolhabGreat.M
section
variable {σ:Type} {P:Plain σ} {n cap:Nat}
theorem eT.eJ {V:View σ} {t u:Nat} {e:aS σ} {x:bJ} (h:eT P n cap V t e x) (hu:u≠t) (hq:cnt V.bs u=V.aN u) (f:Nat→Int):eT P n cap {V with eJ:=aH V.eJ u f} t e x:=by
 refine {h with QC:=?_,xJ:=?_,JH:=?_}
 ·intro h1 i hi
  show aH V.eJ u f t i=_
  rw [aE _ _ (Ne.symm hu)]
  exact h.QC h1 i hi
 ·intro h1 i hi
  show aH V.eJ u f t i=_
  rw [aE _ _ (Ne.symm hu)]
  exact h.xJ h1 i hi
 ·intro h1 h2
  obtain ⟨a1,a2,a3,a4⟩:=h.JH h1 h2
  refine ⟨a1,a2,a3,fun q hq'=>?_⟩
  show _=aH V.eJ u f _ q
  rw [a4 q hq',aE]
  rintro rfl
  obtain ⟨b1,b2,b3,b4⟩:=h.h8 (by omega) (by omega)
  obtain ⟨c1,c2⟩:=h.p3 (by omega) (by omega)
  have hl:x.len n x.part=3*x.aI.length:=by rw [h1];simp [bJ.len]
  rw [hl,←b1] at c1
  have hlt:e.past / 3<e.aI.length:=by omega
  have hm:e.aI.getD (e.past / 3) 0∈e.aI:=by
   rw [List.getD_eq_getElem?_getD,List.getElem?_eq_getElem hlt]
   exact List.getElem_mem hlt
  generalize e.aI.getD (e.past / 3) 0=k at *
  rw [b2,List.mem_filter] at hm
  obtain ⟨m1,m2⟩:=hm
  have m1:=List.mem_range.1 m1
  have m2:=of_decide_eq_true m2
  have hsc:=((h.t7 (by omega) (by omega)).2 k m1 (by unfold tw;omega)).2.1
  have ha:V.at e.stamp k=cnt V.bs k:=rN _ (by rw [h2];exact Nat.le_refl _) k
  omega
theorem sP.count {V:View σ} {s t:Nat} {p:List Nat} {fd:Nat→Nat} (h:sP n V s t p fd) (k:Nat):p.count k=if k∈p then 1 else 0:=by
 have hn:p.Nodup:=by rw [h.1];exact List.nodup_range.filter _
 exact hn.count
theorem sP.mem {V:View σ} {s t:Nat} {p:List Nat} {fd:Nat→Nat} (h:sP n V s t p fd) {k:Nat}:k∈p↔k<n∧fd k=V.at s k+1:=by
 rw [h.1,List.mem_filter]
 simp
theorem nB (V:View σ) {s:Nat} (hs:s=V.N) (k:Nat):V.at s k=cnt V.bs k:=rN _ (by rw [hs];exact Nat.le_refl _) k
theorem yK {k:Nat} (hk:k<n):k / 16<tw n:=by unfold tw;omega
def View.flip (V:View σ) (u:Nat) (g:Nat→Int):View σ:={V with aN:=aH V.aN u (V.aN u+1),bD:=g,nf:=aH V.nf u V.N}
theorem BK {V:View σ} {u:Nat} {g:Nat→Int} {s k:Nat} (hq:cnt V.bs u=V.aN u) (h:(V.flip u g).quiet s k):V.quiet s k:=by
 obtain ⟨h1,h2⟩:=h
 by_cases e:k=u
 ·subst e
  simp only [View.flip,aC] at h1
  omega
 ·simp only [View.flip,aE _ _ e] at h1
  exact ⟨h1,h2⟩
theorem yL {V:View σ} {u:Nat} {g:Nat→Int} {s c:Nat} {dw:Nat→Int} (hq:cnt V.bs u=V.aN u) (h:kM P n V s c dw):kM P n (V.flip u g) s c dw :=
 fun k hk hqk=>h k hk (BK hq hqk)
theorem vW {V:View σ} {u t:Nat} (hu:t≠u) {g:Nat→Int} {s c:Nat} {tg:Nat→Int} {fd:Nat→Nat} (hs:s≤V.N) (h:kG n V t s c tg fd):kG n (V.flip u g) t s c tg fd:=by
 refine ⟨h.1,fun k hk hc=>?_⟩
 obtain ⟨h1,h2,h3⟩:=h.2 k hk hc
 refine ⟨h1,?_,?_⟩
 ·show fd k≤aH V.aN u (V.aN u+1) k
  by_cases e:k=u
  ·subst e;rw [aC];omega
  ·rw [aE _ _ e];exact h2
 ·show k=t∨aH V.nf u V.N k<s→fd k=aH V.aN u (V.aN u+1) k
  by_cases e:k=u
  ·subst e;rw [aC];omega
  ·rw [aE _ _ e,aE _ _ e];exact h3
theorem eT.flip {V:View σ} {t u:Nat} {e:aS σ} {x:bJ} (h:eT P n cap V t e x) (hu:t≠u) (hq:cnt V.bs u=V.aN u) (g:Nat→Int):eT P n cap (V.flip u g) t e x:=by
 have hf:(V.flip u g).aN t=V.aN t:=aE _ _ hu
 have hn:(V.flip u g).nf t=V.nf t:=aE _ _ hu
 refine {h with xf:=?_,vT:=?_,c0:=?_,c1:=?_,c3:=?_,vA:=?_,tn:=?_,s1:=?_,d5:=?_,d6:=?_,t6:=?_,t7:=?_}
 ·rw [hf];exact h.xf
 ·rw [hf];exact h.vT
 ·rw [hf];exact h.c0
 ·rw [hf];exact h.c1
 ·rw [hf];exact h.c3
 ·rw [hf];exact h.vA
 ·rw [hn];exact h.tn
 ·rw [hn];exact h.s1
 ·exact fun h1=>⟨yL hq (h.d5 h1).1,(h.d5 h1).2⟩
 ·exact fun h1 h2=>⟨yL hq (h.d6 h1 h2).1,(h.d6 h1 h2).2⟩
 ·exact fun h1=>vW hu (h.s1 (by omega) (by omega)).2.1 (h.t6 h1)
 ·exact fun h1 h2=>vW hu (h.s1 (by omega) (by omega)).2.1 (h.t7 h1 h2)
theorem eT.word {V:View σ} {t r:Nat} {e:aS σ} {x:bJ} (h:eT P n cap V t e x) (hp:r≠V.prec) (hr:e.spare≠r) (f:Nat→Int):eT P n cap {V with rw:=aH V.rw r f} t e x:=by
 have h1:aH V.rw r f V.prec=V.rw V.prec:=aE _ _ (Ne.symm hp)
 have h2:aH V.rw r f e.spare=V.rw e.spare:=aE _ _ hr
 refine {h with d5:=?_,d7:=?_,w9:=?_,JI:=?_}
 ·intro q
  refine ⟨(h.d5 q).1,?_⟩
  show _→∀ i,_→_→e.dw i=aH V.rw r f V.prec i
  rw [h1]
  exact (h.d5 q).2
 ·intro q q2
  show (∀ i,_→e.dw i=aH V.rw r f V.prec i)∧_
  rw [h1]
  exact h.d7 q q2
 ·intro q
  show ∀ i,_→_→aH V.rw r f e.spare i=_
  rw [h2]
  exact h.w9 q
 ·intro q
  show (∀ i,_→aH V.rw r f e.spare i=_)∧_
  rw [h2]
  exact h.JI q
theorem eT.state {V:View σ} {t r:Nat} {e:aS σ} {x:bJ} (h:eT P n cap V t e x) (hr:e.spare≠r) (s:Option (cY σ×cY σ)) (hs:s.isSome):eT P n cap {V with eV:=aH V.eV r s} t e x:=by
 refine {h with s1:=?_,JI:=?_}
 ·intro h1 h2
  obtain ⟨a1,a2,a3,a4,a5,a6,a7,a8⟩:=h.s1 h1 h2
  refine ⟨a1,a2,a3,a4,a5,a6,a7,?_⟩
  show (aH V.eV r s e.aQ).isSome=true
  unfold aH
  split
  ·exact hs
  ·exact a8
 ·intro q
  show _∧aH V.eV r s e.spare=_
  rw [aE _ _ hr]
  exact h.JI q
def View.cK (V:View σ) (r:Nat) (p:List Nat):View σ:={V with bs:=V.bs++[p],prec:=r,pb:=aH V.pb r (V.N+1)}
structure Good (n:Nat) (V:View σ) (p:List Nat):Prop where
 cn:∀ k,p.count k=if k∈p then 1 else 0
 lt:∀ k,k∈p→k<n
 fl:∀ k,k∈p→V.aN k=cnt V.bs k+1
theorem sP.good {V:View σ} {s t:Nat} {p:List Nat} {tg:Nat→Int} {fd:Nat→Nat} (h:sP n V s t p fd) (hs:s=V.N) (hc:kG n V t s (tw n) tg fd) (hG:gK P n V):Good n V p:=by
 refine ⟨h.count,fun k hk=>(h.mem.1 hk).1,fun k hk=>?_⟩
 obtain ⟨h1,h2⟩:=h.mem.1 hk
 have h3:=(hc.2 k h1 (yK h1)).2.1
 have h4:=hG.fl k h1
 rw [nB V hs] at h2
 omega
section
variable {V:View σ} {r:Nat} {p:List Nat}
theorem vX:(V.cK r p).N=V.N+1:=by simp [View.cK,View.N]
theorem vY (hp:Good n V p) (k:Nat):cnt (V.cK r p).bs k=cnt V.bs k+if k∈p then 1 else 0:=by
 show cnt (V.bs++[p]) k=_
 rw [MB,hp.cn]
theorem FM {s:Nat} (hs:s≤V.N) (k:Nat):(V.cK r p).at s k=V.at s k:=by
 show cnt ((V.bs++[p]).take s) k=_
 rw [AX _ _ hs]
 rfl
theorem MQ:(V.cK r p).rp P=(V.rp P).run P V.op p:=uZ P V.op V.bs p
theorem OU {k:Nat} (hk:k ∉ p):(V.cK r p).A P k=V.A P k:=by
 unfold View.A
 rw [MQ,SY P V.op k p _ hk]
theorem EO (hp:Good n V p) {s k:Nat} (hs:s≤V.N) (h:(V.cK r p).quiet s k):V.quiet s k∧k ∉ p:=by
 obtain ⟨h1,h2⟩:=h
 rw [FM hs,vY hp] at h2
 rw [vY hp] at h1
 have h3:=pP V.bs s k
 have h4:V.at s k=cnt (V.bs.take s) k:=rfl
 by_cases hk:k∈p
 ·rw [if_pos hk] at h2;omega
 ·rw [if_neg hk] at h1 h2
  exact ⟨⟨h1,h2⟩,hk⟩
theorem BL (hp:Good n V p) {s c:Nat} {dw:Nat→Int} (hs:s≤V.N) (h:kM P n V s c dw):kM P n (V.cK r p) s c dw:=by
 intro k hk hq
 obtain ⟨h1,h2⟩:=EO hp hs hq
 rw [OU h2]
 exact h k hk h1
theorem yM {t s c:Nat} {tg:Nat→Int} {fd:Nat→Nat} (hs:s≤V.N) (h:kG n V t s c tg fd):kG n (V.cK r p) t s c tg fd:=by
 refine ⟨h.1,fun k hk hc=>?_⟩
 rw [FM hs]
 exact h.2 k hk hc
theorem QF {s t:Nat} {q:List Nat} {fd:Nat→Nat} (hs:s≤V.N) (h:sP n V s t q fd):sP n (V.cK r p) s t q fd:=by
 unfold sP
 simp only [FM hs]
 exact h
theorem eT.cK {t:Nat} {e:aS σ} {x:bJ} (h:eT P n cap V t e x) (hp:Good n V p) (hG:gK P n V) (hr:e.spare≠r):eT P n cap (V.cK r p) t e x:=by
 have hst:∀ {s:Nat},s≤V.N→s=(V.cK r p).N→False:=fun h1 h2=>by rw [vX] at h2;omega
 have hs:5≤x.part→x.part≤10→e.stamp≤V.N:=fun h1 h2=>(h.s1 h1 h2).2.1
 have hnp:cnt V.bs t=V.aN t→t ∉ p:=fun h1 h2=>by have:=hp.fl t h2;omega
 have QE:cnt V.bs t=V.aN t→cnt (V.cK r p).bs t=cnt V.bs t:=fun h1=>by rw [vY hp,if_neg (hnp h1)];rfl
 refine {h with c0:=?_,c1:=?_,vA:=?_,vU:=hr,a0:=?_,a1:=?_,fd:=?_,tn:=?_,s1:=?_,d5:=?_,d6:=?_,d7:=?_,t6:=?_,t7:=?_,h8:=?_,JH:=?_,h9:=?_}
 ·intro h1
  obtain ⟨a,b,c⟩:=h.c0 h1
  exact ⟨a,b,(QE c).trans c⟩
 ·intro h1
  obtain ⟨a,b,c⟩:=h.c1 h1
  exact ⟨a,b,(QE c).trans c⟩
 ·intro h1
  exact (QE (h.vA h1)).trans (h.vA h1)
 ·intro h1
  rw [OU (hnp (h.c0 h1).2.2)]
  exact h.a0 h1
 ·intro h1
  rw [OU (hnp (h.vA h1))]
  exact h.a1 h1
 ·intro h1 h2
  rw [QE (h.vA h1)]
  show (V.cK r p).at (aH V.pb r (V.N+1) e.found) t=_
  by_cases q:e.found=r
  ·rw [q,aC]
   show cnt ((V.cK r p).bs.take _) t=_
   rw [rN _ (by rw [←vX (r:=r) (p:=p)];exact Nat.le_refl _)]
   exact QE (h.vA h1)
  ·rw [aE _ _ q,FM (hG.pbN _)]
   exact h.fd h1 h2
 ·intro h1 h2
  rw [vX]
  exact Nat.lt_succ_of_lt (h.tn h1 h2)
 ·intro h1 h2
  obtain ⟨a1,a2,a3,a4,a5,a6,a7,a8⟩:=h.s1 h1 h2
  refine ⟨a1,by rw [vX];omega,?_,fun q=>(hst a2 q).elim,a5,a6,?_,a8⟩
  ·show _≤aH V.pb r (V.N+1) e.aQ
   unfold aH
   split<;>omega
  ·show aH V.pb r (V.N+1) e.spare≤_
   rw [aE _ _ hr]
   exact a7
 ·exact fun h1=>⟨BL hp (hs (by omega) (by omega)) (h.d5 h1).1,fun q=>(hst (hs (by omega) (by omega)) q).elim⟩
 ·exact fun h1 h2=>⟨BL hp (hs (by omega) h2) (h.d6 h1 h2).1,(h.d6 h1 h2).2⟩
 ·exact fun h1 q=>(hst (hs (by omega) (by omega)) q).elim
 ·exact fun h1=>yM (hs (by omega) (by omega)) (h.t6 h1)
 ·exact fun h1 h2=>yM (hs (by omega) (by omega)) (h.t7 h1 h2)
 ·exact fun h1 h2=>⟨(h.h8 h1 h2).1,QF (hs (by omega) (by omega)) (h.h8 h1 h2).2⟩
 ·exact fun h1 q=>(hst (hs (by omega) (by omega)) q).elim
 ·exact fun h1 q=>(hst (hs (by omega) (by omega)) q).elim
end
def View.more (V:View σ) (u:Nat) (o:Op):View σ:={V with ops:=aH V.ops u (V.ops u++[o])}
section
variable {V:View σ} {u:Nat} {o:Op}
theorem FN {k i:Nat} (hi:i<(V.ops k).length):(V.more u o).op k i=V.op k i:=by
 show (aH V.ops u (V.ops u++[o]) k).getD i _=_
 by_cases e:k=u
 ·subst e
  rw [aC]
  simp [View.op,List.getD_eq_getElem?_getD,List.getElem?_append_left hi]
 ·rw [aE _ _ e]
  rfl
theorem XQ (hG:gK P n V) {k:Nat} (hk:¬k<n):cnt V.bs k=0:=by
 unfold cnt
 rw [List.count_eq_zero]
 intro hm
 obtain ⟨b,hb,hkb⟩:=List.mem_flatten.1 hm
 exact hk (hG.mem b hb k hkb)
theorem OV (hG:gK P n V) {k i:Nat} (hi:i<cnt V.bs k):i<(V.ops k).length:=by
 by_cases hk:k<n
 ·have:=hG.WM k hk;have:=(hG.fl k hk).1;omega
 ·rw [XQ hG hk] at hi;omega
theorem vZ (hG:gK P n V):(V.more u o).rp P=V.rp P:=FF P fun _ _ hi=>FN (OV hG hi)
theorem TK (hG:gK P n V) (k:Nat):(V.more u o).A P k=V.A P k:=by unfold View.A;rw [vZ hG]
theorem JV (hG:gK P n V) {p:List Nat} (hp:Good n V p) {q:List Nat} (hq:∀ k,q.count k≤p.count k):(V.rp P).run P (V.more u o).op q=(V.rp P).run P V.op q:=by
 refine tR P q _ fun k i hi=>FN ?_
 rw [show (V.rp P).c k=cnt V.bs k from AZ P V.op V.bs k] at hi
 have h1:=hq k
 rw [hp.cn k] at h1
 by_cases hk:k∈p
 ·rw [if_pos hk] at h1
  have:=hp.fl k hk
  have:=hG.WM k (hp.lt k hk)
  omega
 ·rw [if_neg hk] at h1
  exact OV hG (by omega)
theorem eT.more {t:Nat} {e:aS σ} {x:bJ} (h:eT P n cap V t e x) (hG:gK P n V) (hu:t≠u):eT P n cap (V.more u o) t e x:=by
 have ho:(V.more u o).ops t=V.ops t:=aE _ _ hu
 have hop:∀ i,(V.more u o).op t i=V.op t i:=fun i=>by show ((V.more u o).ops t).getD i _=_;rw [ho];rfl
 have hA:∀ k,(V.more u o).A P k=V.A P k:=TK hG
 have hD:∀ {s c:Nat} {dw:Nat→Int},kM P n V s c dw→kM P n (V.more u o) s c dw:=fun h k hk hq=>by rw [hA];exact h k hk hq
 refine {h with xo:=?_,xI:=?_,c0:=?_,c1:=?_,c3:=?_,a0:=?_,a1:=?_,d5:=?_,d6:=?_,d7:=?_,JH:=?_,h9:=?_}
 ·rw [ho];exact h.xo
 ·rw [ho,hop];exact h.xI
 ·rw [ho];exact h.c0
 ·rw [ho];exact h.c1
 ·rw [ho];exact h.c3
 ·rw [hA];exact h.a0
 ·rw [hA];exact h.a1
 ·exact fun h1=>⟨hD (h.d5 h1).1,(h.d5 h1).2⟩
 ·exact fun h1 h2=>⟨hD (h.d6 h1 h2).1,(h.d6 h1 h2).2⟩
 ·intro h1 h2
  rw [vZ hG]
  exact h.d7 h1 h2
 ·intro h1 h2
  rw [vZ hG,JV hG ((h.h8 (by omega) (by omega)).2.good h2 (h.t7 (by omega) (by omega)) hG) (fun k=>(List.take_sublist _ _).count_le k)]
  exact h.JH h1 h2
 ·intro h1 h2
  rw [vZ hG,JV hG ((h.h8 (by omega) (by omega)).2.good h2 (h.t7 (by omega) (by omega)) hG) (fun k=>Nat.le_refl _)]
  exact h.h9 h1 h2
end
end
section
variable {σ:Type} {P:Plain σ} {n cap:Nat} {V:View σ}
theorem gK.eJ (h:gK P n V) {u:Nat} (hq:cnt V.bs u=V.aN u) (f:Nat→Int):gK P n {V with eJ:=aH V.eJ u f}:=by
 refine {h with TC:=?_}
 intro t ht hc i hi
 show aH V.eJ u f t i=_
 rw [aE]
 ·exact h.TC t ht hc i hi
 ·rintro rfl
  have LQ:cnt V.bs t<V.aN t:=hc
  omega
theorem gK.more (h:gK P n V) {u:Nat} (o:Op):gK P n (V.more u o):=by
 have hA:∀ k,(V.more u o).A P k=V.A P k:=TK h
 have hl:∀ t,(V.ops t).length≤((V.more u o).ops t).length:=fun t=>by
  show _≤(aH V.ops u (V.ops u++[o]) t).length
  by_cases e:t=u
  ·subst e;rw [aC];simp
  ·rw [aE _ _ e];exact Nat.le_refl _
 refine {h with WM:=?_,TC:=?_,MC:=?_,zC:=?_,recs:=?_}
 ·exact fun t ht=>Nat.le_trans (h.WM t ht) (hl t)
 ·intro t ht hc i hi
  show V.eJ t i=((V.more u o).op t (cnt V.bs t)).w i
  have LQ:cnt V.bs t<V.aN t:=hc
  rw [FN (by have:=h.WM t ht;omega)]
  exact h.TC t ht hc i hi
 ·intro t ht;rw [hA];exact h.MC t ht
 ·rw [vZ h];exact h.zC
 ·intro r t ht hq;rw [hA];exact h.recs r t ht hq
theorem gK.flip (h:gK P n V) {u:Nat} (hu:u<n) (hq:cnt V.bs u=V.aN u) (hl:(V.ops u).length=V.aN u+1) (ha:∀ i,i<3→V.eJ u i=(V.op u (V.aN u)).w i) :
  gK P n (V.flip u (aH V.bD (u / 16) (V.bD (u / 16)+(if V.aN u % 2=1 then -(2 ^ (u % 16)) else 2 ^ (u % 16))))):=by
 generalize hg:aH V.bD (u / 16) (V.bD (u / 16)+(if V.aN u % 2=1 then -(2 ^ (u % 16)) else 2 ^ (u % 16)))=g
 have hf:∀ t,t≠u→(V.flip u g).aN t=V.aN t:=fun t ht=>aE _ _ ht
 have hfu:(V.flip u g).aN u=V.aN u+1:=aC _ _ _
 refine {h with fl:=?_,WM:=?_,TC:=?_,bD:=?_,recs:=?_,nfN:=?_,TD:=?_}
 ·intro t ht
  by_cases e:t=u
  ·subst e;rw [hfu];show cnt V.bs t≤_∧_≤cnt V.bs t+1;omega
  ·rw [hf t e];exact h.fl t ht
 ·intro t ht
  by_cases e:t=u
  ·subst e;rw [hfu];show _≤(V.ops t).length;omega
  ·rw [hf t e];exact h.WM t ht
 ·intro t ht hc i hi
  by_cases e:t=u
  ·subst e
   show V.eJ t i=(V.op t (cnt V.bs t)).w i
   rw [hq]
   exact ha i hi
  ·rw [hf t e] at hc;exact h.TC t ht hc i hi
 ·intro w hw
  show g w=bits n (aH V.aN u (V.aN u+1)) w
  rw [←hg]
  by_cases e:w=u / 16
  ·subst e
   rw [aC,PZ n V.aN u hu,h.bD _ hw]
  ·rw [aE _ _ e,MA _ _ _ _ _ e]
   exact h.bD w hw
 ·exact fun r t ht hqt=>h.recs r t ht (BK hq hqt)
 ·intro t
  show aH V.nf u V.N t≤V.N
  unfold aH
  split
  ·exact Nat.le_refl _
  ·exact h.nfN t
 ·intro t ht hn
  have hn':aH V.nf u V.N t+2≤V.N:=hn
  by_cases e:t=u
  ·subst e;rw [aC] at hn';omega
  ·rw [aE _ _ e] at hn'
   rw [hf t e]
   exact h.TD t ht hn'
theorem quiet_mono {s s' k:Nat} (hs:s≤s') (h:V.quiet s k):V.quiet s' k:=by
 obtain ⟨h1,h2⟩:=h
 refine ⟨h1,?_⟩
 have a:=DU V.bs hs k
 have b:=pP V.bs s' k
 show cnt (V.bs.take s') k=_
 have c:cnt (V.bs.take s) k=cnt V.bs k:=h2
 omega
theorem gK.word (h:gK P n V) {r i s:Nat} {dw:Nat→Int} (hr:r≠V.prec) (hs:V.pb r≤s) (hd:kM P n V s (aR n) dw):gK P n {V with rw:=aH V.rw r (aH (V.rw r) i (dw i))}:=by
 have hp:aH V.rw r (aH (V.rw r) i (dw i)) V.prec=V.rw V.prec:=aE _ _ (Ne.symm hr)
 refine {h with QB:=?_,MC:=?_,recs:=?_}
 ·intro w hw
  show aH V.rw r (aH (V.rw r) i (dw i)) V.prec w=_
  rw [hp]
  exact h.QB w hw
 ·intro t ht
  show aH V.rw r (aH (V.rw r) i (dw i)) V.prec _=_∧aH V.rw r (aH (V.rw r) i (dw i)) V.prec _=_
  rw [hp]
  exact h.MC t ht
 ·intro r' t ht hq
  show aH V.rw r (aH (V.rw r) i (dw i)) r' _=_∧aH V.rw r (aH (V.rw r) i (dw i)) r' _=_
  by_cases e:r'=r
  ·subst e
   rw [aC]
   have old:=h.recs r' t ht hq
   obtain ⟨d1,d2⟩:=hd t ht (quiet_mono hs hq)
   have JW:aL n t<aR n:=by unfold aL aR;omega
   have hl2:aM n t<aR n:=by unfold aM aR;omega
   constructor
   ·unfold aH
    split
    ·rename_i q;rw [←q];exact d1 JW
    ·exact old.1
   ·unfold aH
    split
    ·rename_i q;rw [←q];exact d2 hl2
    ·exact old.2
  ·rw [aE _ _ e]
   exact h.recs r' t ht hq
theorem gK.state (h:gK P n V) {r:Nat} (hr:r≠V.prec) (s:Option (cY σ×cY σ)):gK P n {V with eV:=aH V.eV r s}:=by
 refine {h with zC:=?_}
 show ∃ f,aH V.eV r s V.prec=_
 rw [aE _ _ (Ne.symm hr)]
 exact h.zC
theorem gK.cK (h:gK P n V) {r s t:Nat} {p:List Nat} {tg:Nat→Int} {fd:Nat→Nat} {v f:cY σ} {dw:Nat→Int} (hs:s=V.N) (hsc:kG n V t s (tw n) tg fd) (ZI:sP n V s t p fd) (hrw:∀ i,i<aR n→V.rw r i=dw i) (hrs:V.eV r=some (v,f))
  (hv:v=⟨((V.rp P).run P V.op p).st,num (V.bs++[p])⟩) (ha:oK n ((V.rp P).run P V.op p) dw) (hw:∀ w,w<tw n→dw w=bits n fd w):gK P n (V.cK r p):=by
 have hp:=ZI.good hs hsc h
 have hA:∀ k,(V.cK r p).A P k=((V.rp P).run P V.op p).an k:=fun k=>by unfold View.A;rw [MQ]
 have aCb:∀ k,k<n→V.rw r (aL n k)=((V.cK r p).A P k).s∧V.rw r (aM n k)=((V.cK r p).A P k).v:=by
  intro k hk
  rw [hA,hrw _ (by unfold aL aR;omega),hrw _ (by unfold aM aR;omega)]
  exact ha k hk
 have QE:∀ k,cnt (V.cK r p).bs k=cnt V.bs k+if k∈p then 1 else 0:=vY hp
 refine {h with fl:=?_,TC:=?_,mem:=?_,QB:=?_,MC:=aCb,zC:=?_,recs:=?_,pbN:=?_,pbc:=?_,nfN:=?_,TD:=?_}
 ·intro k hk
  show _≤V.aN k∧V.aN k≤_
  rw [QE]
  have:=h.fl k hk
  split
  ·rename_i hm;have:=hp.fl k hm;omega
  ·omega
 ·intro k hk hc i hi
  have LQ:cnt (V.cK r p).bs k<V.aN k:=hc
  have hkp:k ∉ p:=fun hm=>by rw [QE,if_pos hm] at LQ;have:=hp.fl k hm;omega
  show V.eJ k i=(V.op k (cnt (V.cK r p).bs k)).w i
  rw [QE,if_neg hkp] at LQ ⊢
  exact h.TC k hk LQ i hi
 ·intro b hb k hk
  have hb':b∈V.bs++[p]:=hb
  rcases List.mem_append.1 hb' with hb'|hb'
  ·exact h.mem b hb' k hk
  ·rw [List.mem_singleton.1 hb'] at hk;exact hp.lt k hk
 ·intro w hw'
  show V.rw r w=bits n (cnt (V.cK r p).bs) w
  rw [hrw w (by unfold aR;omega),hw w hw']
  apply rM
  intro k _ hk
  rw [QE]
  obtain ⟨b1,b2,-⟩:=hsc.2 k hk (yK hk)
  have b3:=ZI.2.2 k hk
  rw [nB V hs] at b1 b3
  split
  ·rename_i hm
   have:=(ZI.mem.1 hm).2
   rw [nB V hs] at this
   rw [this]
  ·rename_i hm
   have:fd k≠cnt V.bs k+1:=fun q=>hm (ZI.mem.2 ⟨hk,by rw [nB V hs];exact q⟩)
   rw [show fd k=cnt V.bs k by omega]
   rfl
 ·refine ⟨f,?_⟩
  show V.eV r=_
  rw [hrs,hv,MQ]
  rfl
 ·intro r' k hk hq
  by_cases e:r'=r
  ·subst e;exact aCb k hk
  ·have hq':(V.cK r p).quiet (aH V.pb r (V.N+1) r') k:=hq
   rw [aE _ _ e] at hq'
   obtain ⟨q1,q2⟩:=EO hp (h.pbN r') hq'
   rw [OU q2]
   exact h.recs r' k hk q1
 ·intro r'
  rw [vX]
  show aH V.pb r (V.N+1) r'≤_
  unfold aH
  split
  ·exact Nat.le_refl _
  ·exact Nat.le_succ_of_le (h.pbN r')
 ·rw [vX]
  exact aC _ _ _
 ·intro k
  rw [vX]
  exact Nat.le_succ_of_le (h.nfN k)
 ·intro k hk hn
  rw [vX] at hn
  have hn':V.nf k+2≤V.N+1:=hn
  show V.aN k=_
  rw [QE]
  have b1:=(hsc.2 k hk (yK hk)).2.2 (.inr (by omega))
  have b2:=h.fl k hk
  split
  ·rename_i hm;exact hp.fl k hm
  ·rename_i hm
   have:fd k≠cnt V.bs k+1:=fun q=>hm (ZI.mem.2 ⟨hk,by rw [nB V hs];exact q⟩)
   omega
end
section
variable {σ:Type} {P:Plain σ} {n cap:Nat} {V:View σ} {t:Nat} {e:aS σ} {x:bJ}
structure pQ (P:Plain σ) (n cap:Nat) (V:View σ) (t:Nat) (e:aS σ) (x:bJ):Prop where
 xo:x.ops=V.ops t
 xf:x.aN=V.aN t
 bk:e.aG=x.aG
 bc:x.aG≤cap
 ag:e.again=decide (x.tries=2)
 vT:e.cP=decide (V.aN t % 2=1)
 xI:(V.ops t).length≠0∧e.op=V.op t ((V.ops t).length-1)
 c3:(V.ops t).length=V.aN t∧x.ended+1=V.aN t
 xJ:∀ i,i<3→V.eJ t i=e.op.w i
 sp:(e.spare=2*t+1∧e.kept=2*t+2)∨(e.spare=2*t+2∧e.kept=2*t+1)
 vU:e.spare≠V.prec
 en:e.ended=decide (0<x.ended)
 tr:x.tries=1∨x.tries=2
 tn:x.tries=2→V.nf t<V.N
theorem eT.base (h:eT P n cap V t e x) (h3:3≤x.part):pQ P n cap V t e x :=
 ⟨h.xo,h.xf,h.bk,h.bc,h.ag (by omega),h.vT,h.xI (by omega),h.c3 h3,h.xJ (by omega),h.sp,h.vU,h.en,h.tr h3,h.tn h3⟩
structure WO (P:Plain σ) (n:Nat) (V:View σ) (t:Nat) (e:aS σ) (x:bJ):Prop where
 st:x.stamp=e.stamp
 le:e.stamp≤V.N
 pb:e.stamp≤V.pb e.aQ
 cur:e.stamp=V.N→e.aQ=V.prec
 nf:V.nf t≤e.stamp
 nf2:x.tries=2→V.nf t<e.stamp
 spb:V.pb e.spare≤e.stamp
 some:(V.eV e.aQ).isSome
theorem eT.vI (h:eT P n cap V t e x) (h5:5≤x.part) (SG:x.part≤10):WO P n V t e x:=by
 obtain ⟨a1,a2,a3,a4,a5,a6,a7,a8⟩:=h.s1 h5 SG
 exact ⟨a1,a2,a3,a4,a5,a6,a7,a8⟩
theorem WO.all (h:WO P n V t e x):x.stamp=e.stamp∧e.stamp≤V.N∧e.stamp≤V.pb e.aQ∧(e.stamp=V.N→e.aQ=V.prec)∧V.nf t≤e.stamp∧(x.tries=2→V.nf t<e.stamp)∧V.pb e.spare≤e.stamp∧(V.eV e.aQ).isSome :=
 ⟨h.st,h.le,h.pb,h.cur,h.nf,h.nf2,h.spb,h.some⟩
theorem eT.XR (b:pQ P n cap V t e x) (h:x.part=3∨x.part=4) (hp:e.phase=x.part) (hl:e.past+x.left=x.len n x.part∧0<x.left):eT P n cap V t e x :=
 {xo:=b.xo,xf:=b.xf,bk:=b.bk,bc:=b.bc,ag:=fun _=>b.ag,vT:=b.vT,xI:=fun _=>b.xI,c3:=fun _=>b.c3,xJ:=fun _=>b.xJ,sp:=b.sp,vU:=b.vU,en:=b.en,tr:=fun _=>b.tr,tn:=fun _=>b.tn,
  p1:=(by intros;(try dsimp only at *);omega),p2:=fun _=>hp,p3:=fun _ _=>hl,p4:=(by intros;(try dsimp only at *);omega),c0:=(by intros;(try dsimp only at *);omega),t0:=(by intros;(try dsimp only at *);omega),c1:=(by intros;(try dsimp only at *);omega),vA:=(by intros;(try dsimp only at *);omega),QC:=(by intros;(try dsimp only at *);omega),a0:=(by intros;(try dsimp only at *);omega),a1:=(by intros;(try dsimp only at *);omega),fd:=(by intros;(try dsimp only at *);omega),s1:=(by intros;(try dsimp only at *);omega),d5:=(by intros;(try dsimp only at *);omega),d6:=(by intros;(try dsimp only at *);omega),d7:=(by intros;(try dsimp only at *);omega),t6:=(by intros;(try dsimp only at *);omega),t7:=(by intros;(try dsimp only at *);omega),h8:=(by intros;(try dsimp only at *);omega),JH:=(by intros;(try dsimp only at *);omega),h9:=(by intros;(try dsimp only at *);omega),w9:=(by intros;(try dsimp only at *);omega),JI:=(by intros;(try dsimp only at *);omega)}
theorem eT.TL (b:pQ P n cap V t e x) (h:x.part=11) (hp:1≤x.left∧x.left≤3∧e.phase=14-x.left) (hc:cnt V.bs t=V.aN t) (ha:x.left=1→e.xG=(V.A P t).s) (hf:x.left≤2→V.at (V.pb e.found) t=cnt V.bs t):eT P n cap V t e x :=
 {xo:=b.xo,xf:=b.xf,bk:=b.bk,bc:=b.bc,ag:=fun _=>b.ag,vT:=b.vT,xI:=fun _=>b.xI,c3:=fun _=>b.c3,xJ:=fun _=>b.xJ,sp:=b.sp,vU:=b.vU,en:=b.en,tr:=fun _=>b.tr,tn:=fun _=>b.tn,
  p1:=(by intros;(try dsimp only at *);omega),p2:=(by intros;(try dsimp only at *);omega),p3:=(by intros;(try dsimp only at *);omega),p4:=fun _=>hp,c0:=(by intros;(try dsimp only at *);omega),t0:=(by intros;(try dsimp only at *);omega),c1:=(by intros;(try dsimp only at *);omega),vA:=fun _=>hc,QC:=(by intros;(try dsimp only at *);omega),a0:=(by intros;(try dsimp only at *);omega),a1:=fun _=>ha,fd:=fun _=>hf,s1:=(by intros;(try dsimp only at *);omega),d5:=(by intros;(try dsimp only at *);omega),d6:=(by intros;(try dsimp only at *);omega),d7:=(by intros;(try dsimp only at *);omega),t6:=(by intros;(try dsimp only at *);omega),t7:=(by intros;(try dsimp only at *);omega),h8:=(by intros;(try dsimp only at *);omega),JH:=(by intros;(try dsimp only at *);omega),h9:=(by intros;(try dsimp only at *);omega),w9:=(by intros;(try dsimp only at *);omega),JI:=(by intros;(try dsimp only at *);omega)}
theorem eT.mk5 (b:pQ P n cap V t e x) (a:WO P n V t e x) (h:x.part=5) (hp:e.phase=5) (hl:e.past+x.left=aR n+1∧0<x.left) (hd:kM P n V e.stamp e.past e.dw∧(e.stamp=V.N→∀ i,i<e.past→i<aR n→e.dw i=V.rw V.prec i)):eT P n cap V t e x :=
 {xo:=b.xo,xf:=b.xf,bk:=b.bk,bc:=b.bc,ag:=fun _=>b.ag,vT:=b.vT,xI:=fun _=>b.xI,c3:=fun _=>b.c3,xJ:=fun _=>b.xJ,sp:=b.sp,vU:=b.vU,en:=b.en,tr:=fun _=>b.tr,tn:=fun _=>b.tn,
  p1:=(by intros;(try dsimp only at *);omega),p2:=fun _=>by omega,p3:=fun _ _=>by rw [h];exact hl,p4:=(by intros;(try dsimp only at *);omega),c0:=(by intros;(try dsimp only at *);omega),t0:=(by intros;(try dsimp only at *);omega),c1:=(by intros;(try dsimp only at *);omega),vA:=(by intros;(try dsimp only at *);omega),QC:=(by intros;(try dsimp only at *);omega),a0:=(by intros;(try dsimp only at *);omega),a1:=(by intros;(try dsimp only at *);omega),fd:=(by intros;(try dsimp only at *);omega),s1:=fun _ _=>a.all,d5:=fun _=>hd,d6:=(by intros;(try dsimp only at *);omega),d7:=(by intros;(try dsimp only at *);omega),t6:=(by intros;(try dsimp only at *);omega),t7:=(by intros;(try dsimp only at *);omega),h8:=(by intros;(try dsimp only at *);omega),JH:=(by intros;(try dsimp only at *);omega),h9:=(by intros;(try dsimp only at *);omega),w9:=(by intros;(try dsimp only at *);omega),JI:=(by intros;(try dsimp only at *);omega)}
structure Cop (P:Plain σ) (n:Nat) (V:View σ) (e:aS σ):Prop where
 d:kM P n V e.stamp (aR n) e.dw
 now:e.now.isSome
 cC:e.cC.isSome
theorem eT.aAq (b:pQ P n cap V t e x) (a:WO P n V t e x) (c:Cop P n V e) (h:(x.part=6∧kG n V t e.stamp e.past e.tg x.flipped)∨(x.part=7∧kG n V t e.stamp (tw n) e.tg x.flipped)) (hp:e.phase=x.part) (hl:e.past+x.left=x.len n x.part∧0<x.left)
  (hd:e.stamp=V.N→(∀ i,i<aR n→e.dw i=V.rw V.prec i)∧e.now=some ⟨(V.rp P).st,num V.bs⟩∧e.cC=some ⟨(V.rp P).st,num V.bs⟩):eT P n cap V t e x :=
 {xo:=b.xo,xf:=b.xf,bk:=b.bk,bc:=b.bc,ag:=fun _=>b.ag,vT:=b.vT,xI:=fun _=>b.xI,c3:=fun _=>b.c3,xJ:=fun _=>b.xJ,sp:=b.sp,vU:=b.vU,en:=b.en,tr:=fun _=>b.tr,tn:=fun _=>b.tn,
  p1:=(by intros;(try dsimp only at *);omega),p2:=fun _=>hp,p3:=fun _ _=>hl,p4:=(by intros;(try dsimp only at *);omega),c0:=(by intros;(try dsimp only at *);omega),t0:=(by intros;(try dsimp only at *);omega),c1:=(by intros;(try dsimp only at *);omega),vA:=(by intros;(try dsimp only at *);omega),QC:=(by intros;(try dsimp only at *);omega),a0:=(by intros;(try dsimp only at *);omega),a1:=(by intros;(try dsimp only at *);omega),fd:=(by intros;(try dsimp only at *);omega),s1:=fun _ _=>a.all,d5:=(by intros;(try dsimp only at *);omega),d6:=fun _ _=>⟨c.d,c.now,c.cC⟩,d7:=fun _=>hd,
  t6:=fun q=>(by rcases h with h|h;exact h.2;omega),t7:=fun q _=>(by rcases h with h|h;omega;exact h.2),h8:=(by intros;(try dsimp only at *);omega),JH:=(by intros;(try dsimp only at *);omega),h9:=(by intros;(try dsimp only at *);omega),w9:=(by intros;(try dsimp only at *);omega),JI:=(by intros;(try dsimp only at *);omega)}
theorem eT.mk8 (b:pQ P n cap V t e x) (a:WO P n V t e x) (c:Cop P n V e) (s:kG n V t e.stamp (tw n) e.tg x.flipped) (q:e.aI=x.aI∧sP n V e.stamp t e.aI x.flipped) (h:8≤x.part∧x.part≤10) (hp:e.phase=x.part) (hl:e.past+x.left=x.len n x.part∧0<x.left)
  (JH:x.part=8→e.stamp=V.N→e.cC=some ⟨(V.rp P).st,num V.bs⟩∧e.now=some ⟨((V.rp P).run P V.op (e.aI.take (e.past / 3))).st,num V.bs⟩∧oK n ((V.rp P).run P V.op (e.aI.take (e.past / 3))) e.dw∧∀ q,q<e.past % 3→e.heard q=V.eJ (e.aI.getD (e.past / 3) 0) q)
  (h9:x.part=9∨x.part=10→e.stamp=V.N→e.now=some ⟨((V.rp P).run P V.op e.aI).st,num (V.bs++[e.aI])⟩∧oK n ((V.rp P).run P V.op e.aI) e.dw∧∀ w,w<tw n→e.dw w=bits n x.flipped w)
  (w9:x.part=9→∀ i,i<e.past→i<aR n→V.rw e.spare i=e.dw i) (JI:x.part=10→(∀ i,i<aR n→V.rw e.spare i=e.dw i)∧V.eV e.spare=e.now.bind fun v=>e.cC.map fun f=>(v,f)):eT P n cap V t e x :=
 {xo:=b.xo,xf:=b.xf,bk:=b.bk,bc:=b.bc,ag:=fun _=>b.ag,vT:=b.vT,xI:=fun _=>b.xI,c3:=fun _=>b.c3,xJ:=fun _=>b.xJ,sp:=b.sp,vU:=b.vU,en:=b.en,tr:=fun _=>b.tr,tn:=fun _=>b.tn,
  p1:=(by intros;(try dsimp only at *);omega),p2:=fun _=>hp,p3:=fun _ _=>hl,p4:=(by intros;(try dsimp only at *);omega),c0:=(by intros;(try dsimp only at *);omega),t0:=(by intros;(try dsimp only at *);omega),c1:=(by intros;(try dsimp only at *);omega),vA:=(by intros;(try dsimp only at *);omega),QC:=(by intros;(try dsimp only at *);omega),a0:=(by intros;(try dsimp only at *);omega),a1:=(by intros;(try dsimp only at *);omega),fd:=(by intros;(try dsimp only at *);omega),s1:=fun _ _=>a.all,d5:=(by intros;(try dsimp only at *);omega),d6:=fun _ _=>⟨c.d,c.now,c.cC⟩,d7:=(by intros;(try dsimp only at *);omega),t6:=(by intros;(try dsimp only at *);omega),t7:=fun _ _=>s,h8:=fun _ _=>q,JH:=JH,h9:=h9,w9:=w9,JI:=JI}
theorem pQ.with {e':aS σ} {x':bJ} (b:pQ P n cap V t e x) (h1:x'.ops=x.ops) (h2:x'.aN=x.aN) (h3:e'.aG=x'.aG) (h4:x'.aG≤cap) (h5:e'.again=decide (x'.tries=2)) (h6:e'.cP=e.cP) (h7:e'.op=e.op) (h8:x'.ended=x.ended) (h9:e'.spare=e.spare) (SG:e'.kept=e.kept) (WQ:e'.ended=e.ended)
  (h12:x'.tries=1∨x'.tries=2) (h13:x'.tries=2→V.nf t<V.N):pQ P n cap V t e' x' :=
 ⟨h1.trans b.xo,h2.trans b.xf,h3,h4,h5,h6.trans b.vT,⟨b.xI.1,h7.trans b.xI.2⟩,by rw [h8];exact b.c3,by rw [h7];exact b.xJ,by rw [h9,SG];exact b.sp,by rw [h9];exact b.vU,by rw [h8,WQ];exact b.en,h12,h13⟩
theorem eT.bO {e1:aS σ} {x1:bJ} (b:pQ P n cap V t e1 x1):eT P n cap V t e1.bO (x1.enter n 3):=by
 by_cases h:x1.aG=0
 ·have e2:x1.enter n 3 = {x1 with part:=4,left:=1}:=by simp [bJ.enter,bJ.len,h]
  have e3:e1.bO=e1.enter 4:=by unfold aS.bO;rw [if_neg (by rw [b.bk];omega)]
  rw [e2,e3]
  refine eT.XR ⟨b.xo,b.xf,b.bk,b.bc,b.ag,b.vT,b.xI,b.c3,b.xJ,b.sp,b.vU,b.en,b.tr,b.tn⟩ (.inr rfl) rfl ⟨rfl,(by intros;(try dsimp only at *);omega)⟩
 ·have e2:x1.enter n 3 = {x1 with part:=3,left:=x1.aG}:=by simp [bJ.enter,bJ.len,h]
  have e3:e1.bO=e1.enter 3:=by unfold aS.bO;rw [if_pos (by rw [b.bk];omega)]
  rw [e2,e3]
  refine eT.XR ⟨b.xo,b.xf,b.bk,b.bc,b.ag,b.vT,b.xI,b.c3,b.xJ,b.sp,b.vU,b.en,b.tr,b.tn⟩ (.inl rfl) rfl ⟨?_,by show 0<x1.aG;omega⟩
  show 0+x1.aG=_
  simp [bJ.len]
theorem eT.failed (b:pQ P n cap V t e x) (a:WO P n V t e x) (hG:gK P n V) (ht:t<n) (hs:e.stamp≠V.N):eT P n cap V t (e.fail cap) (x.fail n cap):=by
 have hN:V.nf t<V.N:=by have:=a.le;have:=a.nf;omega
 unfold aS.fail bJ.fail
 rw [b.ag]
 by_cases h:x.tries=2
 ·rw [if_pos h,if_pos (by simpa using h)]
  have e2:bJ.enter n {x with aG:=min (2*x.aG+1) cap} 11 = {x with aG:=min (2*x.aG+1) cap,part:=11,left:=3}:=by simp [bJ.enter,bJ.len]
  rw [e2]
  have hc:V.aN t=cnt V.bs t:=hG.TD t ht (by have:=a.nf2 h;have:=a.le;omega)
  refine eT.TL (b.with rfl rfl (by show min _ _=min _ _;rw [b.bk]) (Nat.min_le_right _ _) rfl rfl rfl rfl rfl rfl rfl b.tr b.tn) rfl ⟨(by intros;(try dsimp only at *);omega),(by intros;(try dsimp only at *);omega),rfl⟩ hc.symm (by intros;(try dsimp only at *);omega) (by intros;(try dsimp only at *);omega)
 ·rw [if_neg h,if_neg (by simpa using h)]
  exact eT.bO (b.with rfl rfl (by show min _ _=min _ _;rw [b.bk]) (Nat.min_le_right _ _) rfl rfl rfl rfl rfl rfl rfl (.inr rfl) (fun _=>hN))
end
end Go.Proofs.YtefjhnhdagolhabGreat.M
