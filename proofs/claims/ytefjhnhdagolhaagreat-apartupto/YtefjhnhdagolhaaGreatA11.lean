import Derived.Test.YtefjhnhdagolhaaGreatA05
import Derived.Test.YtefjhnhdagolhaaGreatA01
set_option maxHeartbeats 400000
set_option maxRecDepth 20000
namespace Go.Proofs.YtefjhnhdagolhaaGreat
open Tryz
open Go.RowKit
theorem RX (b o:Nat) (x:Int) (w:World) (hc:w.cell? ⟨b,o,none⟩=some (.int .i64 x)) :
  Calls prog 239 #[.pointer (some ⟨b,o,none⟩)] w fun e w'=>e = .returned (.int .i64 x)∧w'=w:=by
 have hld:=run_call_load (P:=prog) func246 (by kernel_rfl) (by kernel_rfl) (by kernel_rfl) .i64 (by kernel_rfl) hc;clear hc;go_enter func239,ntmps239;go_wp2;go_ret;exact ⟨rfl,rfl⟩
theorem CR (b o:Nat) (x:Int) (w:World) (hc:w.cell? ⟨b,o,none⟩=some (.int .i64 x)) :
  Calls prog 218 #[.pointer (some ⟨b,o,none⟩)] w fun e w'=>e = .returned (.int .i64 x)∧w'=w:=by
 have HC:=aA hc;clear hc;go_enter func218,ntmps218;go_wp2_with fail;refine (RX b o x _ HC.out).mono ?_;rintro e w1 ⟨rfl,rfl⟩;go_wp2_with fail;go_ret;exact ⟨rfl,rfl⟩
theorem xZ (x:Int) (w:World) (h0:0≤x) (h1:x≤9223372036854775807) :
  Calls prog 223 #[.int .i64 x] w fun e w'=>e = .returned (.int .i64 (x % 129))∧w'=w:=by
 go_enter func223,ntmps223;go_wp2;go_ret;exact ⟨rfl,rfl⟩
theorem yA (x:Int) (w:World) (h0:0≤x) (h1:x≤9223372036854775807) :
  Calls prog 226 #[.int .i64 x] w fun e w'=>e = .returned (.int .i64 (x / 129))∧w'=w:=by
 go_enter func226,ntmps226;go_wp2;go_ret;exact ⟨rfl,rfl⟩
theorem JU (n:Int) (w:World) (h0:1≤n) (h1:n≤64) :
  Calls prog 199 #[.agg #[.int .i64 n]] w fun e w'=>e = .returned (.int .i64 ((n+15) / 16+2*n+1))∧Below w.heap.size w w':=by
 go_enter func199,ntmps199;go_wp2_with fail;refine (sV n _ h0 h1).mono ?_;rintro e w1 ⟨rfl,eN⟩;go_wp2_with fail;go_ret;exact ⟨rfl,aS (aB _ _) eN (by simp)⟩
end Go.Proofs.YtefjhnhdagolhaaGreat
namespace Go.Proofs.YtefjhnhdagolhaaGreat.M
open Tryz
section
variable {σ:Type} {P:Plain σ} {n cap:Nat}
theorem fX.gY {V:View σ} {t u:Nat} {e:bU σ} {x:bJ} (h:fX P n cap V t e x) (hu:u≠t) (hq:cnt V.bs u=V.aO u) (f:Nat→Int):fX P n cap {V with gY:=aM V.gY u f} t e x:=by
 refine {h with rz:=?_,JL:=?_,WN:=?_}
 ·intro h1 i hi
  show aM V.gY u f t i=_;rw [aD _ _ (nI hu)];exact h.rz h1 i hi
 ·intro h1 i hi
  show aM V.gY u f t i=_;rw [aD _ _ (nI hu)];exact h.JL h1 i hi
 ·intro h1 h2
  obtain ⟨a1,a2,a3,a4⟩:=h.WN h1 h2;refine ⟨a1,a2,a3,fun q hq'=>?_⟩;show _=aM V.gY u f _ q;rw [a4 q hq',aD];rintro rfl;obtain ⟨b1,b2,b3,b4⟩:=h.h8 (by omega) (by omega);obtain ⟨c1,c2⟩:=h.p3 (by omega) (by omega);have hl:x.len n x.part=3*x.aK.length:=by rw [h1];simp [bJ.len]
  rw [hl,←b1] at c1;have hlt:e.past / 3<e.aK.length:=by omega
  have hm:e.aK.getD (e.past / 3) 0∈e.aK:=by
   rw [List.getD_eq_getElem?_getD,eT hlt];exact AA hlt
  generalize e.aK.getD (e.past / 3) 0=k at *;rw [b2,List.mem_filter] at hm;obtain ⟨m1,m2⟩:=hm;have m1:=List.mem_range.1 m1;have m2:=of_decide_eq_true m2;have hsc:=((h.t7 (by omega) (by omega)).2 k m1 (by unfold tw;omega)).2.1;have ha:V.at e.stamp k=cnt V.bs k:=zG _ (by rw [h2];exact bQ _) k;omega
theorem zU.count {V:View σ} {s t:Nat} {p:List Nat} {fd:Nat→Nat} (h:zU n V s t p fd) (k:Nat):p.count k=if k∈p then 1 else 0:=by
 have hn:p.Nodup:=by rw [h.1];exact List.nodup_range.filter _
 exact hn.count
theorem zU.mem {V:View σ} {s t:Nat} {p:List Nat} {fd:Nat→Nat} (h:zU n V s t p fd) {k:Nat}:k∈p↔k<n∧fd k=V.at s k+1:=by
 rw [h.1,List.mem_filter];simp
theorem sF (V:View σ) {s:Nat} (hs:s=V.N) (k:Nat):V.at s k=cnt V.bs k:=zG _ (by rw [hs];exact bQ _) k
theorem KS {k:Nat} (hk:k<n):k / 16<tw n:=by unfold tw;omega
def View.flip (V:View σ) (u:Nat) (g:Nat→Int):View σ:={V with aO:=aM V.aO u (V.aO u+1),dS:=g,nf:=aM V.nf u V.N}
theorem OA {V:View σ} {u:Nat} {g:Nat→Int} {s k:Nat} (hq:cnt V.bs u=V.aO u) (h:(V.flip u g).quiet s k):V.quiet s k:=by
 obtain ⟨h1,h2⟩:=h
 by_cases e:k=u
 ·subst e
  simp only [View.flip,aC] at h1;omega
 ·simp only [View.flip,aD _ _ e] at h1
  exact ⟨h1,h2⟩
theorem KJ {V:View σ} {u:Nat} {g:Nat→Int} {s c:Nat} {dw:Nat→Int} (hq:cnt V.bs u=V.aO u) (h:nR P n V s c dw):nR P n (V.flip u g) s c dw :=
 fun k hk hqk=>h k hk (OA hq hqk)
theorem FV {V:View σ} {u t:Nat} (hu:t≠u) {g:Nat→Int} {s c:Nat} {tg:Nat→Int} {fd:Nat→Nat} (hs:s≤V.N) (h:nL n V t s c tg fd):nL n (V.flip u g) t s c tg fd:=by
 refine ⟨h.1,fun k hk hc=>?_⟩;obtain ⟨h1,h2,h3⟩:=h.2 k hk hc;refine ⟨h1,?_,?_⟩
 ·show fd k≤aM V.aO u (V.aO u+1) k
  by_cases e:k=u
  ·subst e;rw [aC];omega
  ·rw [aD _ _ e];exact h2
 ·show k=t∨aM V.nf u V.N k<s→fd k=aM V.aO u (V.aO u+1) k
  by_cases e:k=u
  ·subst e;rw [aC];omega
  ·rw [aD _ _ e,aD _ _ e];exact h3
theorem fX.flip {V:View σ} {t u:Nat} {e:bU σ} {x:bJ} (h:fX P n cap V t e x) (hu:t≠u) (hq:cnt V.bs u=V.aO u) (g:Nat→Int):fX P n cap (V.flip u g) t e x:=by
 have hf:(V.flip u g).aO t=V.aO t:=aD _ _ hu;have hn:(V.flip u g).nf t=V.nf t:=aD _ _ hu;refine {h with xf:=?_,IU:=?_,c0:=?_,c1:=?_,c3:=?_,FK:=?_,tn:=?_,s1:=?_,d5:=?_,d6:=?_,t6:=?_,t7:=?_}
 ·rw [hf];exact h.xf
 ·rw [hf];exact h.IU
 ·rw [hf];exact h.c0
 ·rw [hf];exact h.c1
 ·rw [hf];exact h.c3
 ·rw [hf];exact h.FK
 ·rw [hn];exact h.tn
 ·rw [hn];exact h.s1
 ·exact fun h1=>⟨KJ hq (h.d5 h1).1,(h.d5 h1).2⟩
 ·exact fun h1 h2=>⟨KJ hq (h.d6 h1 h2).1,(h.d6 h1 h2).2⟩
 ·exact fun h1=>FV hu (h.s1 (by omega) (by omega)).2.1 (h.t6 h1)
 ·exact fun h1 h2=>FV hu (h.s1 (by omega) (by omega)).2.1 (h.t7 h1 h2)
theorem fX.word {V:View σ} {t r:Nat} {e:bU σ} {x:bJ} (h:fX P n cap V t e x) (hp:r≠V.prec) (hr:e.spare≠r) (f:Nat→Int):fX P n cap {V with rw:=aM V.rw r f} t e x:=by
 have h1:aM V.rw r f V.prec=V.rw V.prec:=aD _ _ (nI hp);have h2:aM V.rw r f e.spare=V.rw e.spare:=aD _ _ hr;refine {h with d5:=?_,d7:=?_,w9:=?_,ay:=?_}
 ·intro q
  refine ⟨(h.d5 q).1,?_⟩;show _→∀ i,_→_→e.dw i=aM V.rw r f V.prec i;rw [h1];exact (h.d5 q).2
 ·intro q q2
  show (∀ i,_→e.dw i=aM V.rw r f V.prec i)∧_;rw [h1];exact h.d7 q q2
 ·intro q
  show ∀ i,_→_→aM V.rw r f e.spare i=_;rw [h2];exact h.w9 q
 ·intro q
  show (∀ i,_→aM V.rw r f e.spare i=_)∧_;rw [h2];exact h.ay q
theorem fX.state {V:View σ} {t r:Nat} {e:bU σ} {x:bJ} (h:fX P n cap V t e x) (hr:e.spare≠r) (s:Option (eX σ×eX σ)) (hs:s.isSome):fX P n cap {V with lI:=aM V.lI r s} t e x:=by
 refine {h with s1:=?_,ay:=?_}
 ·intro h1 h2
  obtain ⟨a1,a2,a3,a4,a5,a6,a7,a8⟩:=h.s1 h1 h2;refine ⟨a1,a2,a3,a4,a5,a6,a7,?_⟩;show (aM V.lI r s e.cG).isSome=true;unfold aM
  split
  ·exact hs
  ·exact a8
 ·intro q
  show _∧aM V.lI r s e.spare=_;rw [aD _ _ hr];exact h.ay q
def View.dI (V:View σ) (r:Nat) (p:List Nat):View σ:={V with bs:=V.bs++[p],prec:=r,pb:=aM V.pb r (V.N+1)}
structure Good (n:Nat) (V:View σ) (p:List Nat):Prop where
 cn:∀ k,p.count k=if k∈p then 1 else 0
 lt:∀ k,k∈p→k<n
 fl:∀ k,k∈p→V.aO k=cnt V.bs k+1
theorem zU.good {V:View σ} {s t:Nat} {p:List Nat} {tg:Nat→Int} {fd:Nat→Nat} (h:zU n V s t p fd) (hs:s=V.N) (hc:nL n V t s (tw n) tg fd) (hG:jN P n V):Good n V p:=by
 refine ⟨h.count,fun k hk=>(h.mem.1 hk).1,fun k hk=>?_⟩;obtain ⟨h1,h2⟩:=h.mem.1 hk;have h3:=(hc.2 k h1 (KS h1)).2.1;have h4:=hG.fl k h1;rw [sF V hs] at h2;omega
section
variable {V:View σ} {r:Nat} {p:List Nat}
theorem GL:(V.dI r p).N=V.N+1:=by simp [View.dI,View.N]
theorem GM (hp:Good n V p) (k:Nat):cnt (V.dI r p).bs k=cnt V.bs k+if k∈p then 1 else 0:=by
 show cnt (V.bs++[p]) k=_;rw [NL,hp.cn]
theorem UR {s:Nat} (hs:s≤V.N) (k:Nat):(V.dI r p).at s k=V.at s k:=by
 show cnt ((V.bs++[p]).take s) k=_;rw [PJ _ _ hs];rfl
theorem ji:(V.dI r p).rp P=(V.rp P).run P V.op p:=QV P V.op V.bs p
theorem pn {k:Nat} (hk:k ∉ p):(V.dI r p).A P k=V.A P k:=by
 unfold View.A;rw [ji,aBK P V.op k p _ hk]
theorem SI (hp:Good n V p) {s k:Nat} (hs:s≤V.N) (h:(V.dI r p).quiet s k):V.quiet s k∧k ∉ p:=by
 obtain ⟨h1,h2⟩:=h;rw [UR hs,GM hp] at h2;rw [GM hp] at h1;have h3:=rF V.bs s k;have h4:V.at s k=cnt (V.bs.take s) k:=rfl
 by_cases hk:k∈p
 ·rw [aJ hk] at h2;omega
 ·rw [aN hk] at h1 h2
  exact ⟨⟨h1,h2⟩,hk⟩
theorem OU (hp:Good n V p) {s c:Nat} {dw:Nat→Int} (hs:s≤V.N) (h:nR P n V s c dw):nR P n (V.dI r p) s c dw:=by
 intro k hk hq;obtain ⟨h1,h2⟩:=SI hp hs hq;rw [pn h2];exact h k hk h1
theorem KX {t s c:Nat} {tg:Nat→Int} {fd:Nat→Nat} (hs:s≤V.N) (h:nL n V t s c tg fd):nL n (V.dI r p) t s c tg fd:=by
 refine ⟨h.1,fun k hk hc=>?_⟩;rw [UR hs];exact h.2 k hk hc
theorem xp {s t:Nat} {q:List Nat} {fd:Nat→Nat} (hs:s≤V.N) (h:zU n V s t q fd):zU n (V.dI r p) s t q fd:=by
 unfold zU;simp only [UR hs];exact h
theorem fX.dI {t:Nat} {e:bU σ} {x:bJ} (h:fX P n cap V t e x) (hp:Good n V p) (hG:jN P n V) (hr:e.spare≠r):fX P n cap (V.dI r p) t e x:=by
 have hst:∀ {s:Nat},s≤V.N→s=(V.dI r p).N→False:=fun h1 h2=>by rw [GL] at h2;omega
 have hs:5≤x.part→x.part≤10→e.stamp≤V.N:=fun h1 h2=>(h.s1 h1 h2).2.1
 have hnp:cnt V.bs t=V.aO t→t ∉ p:=fun h1 h2=>by have:=hp.fl t h2;omega
 have oh:cnt V.bs t=V.aO t→cnt (V.dI r p).bs t=cnt V.bs t:=fun h1=>by rw [GM hp,aN (hnp h1)];rfl
 refine {h with c0:=?_,c1:=?_,FK:=?_,IB:=hr,a0:=?_,a1:=?_,fd:=?_,tn:=?_,s1:=?_,d5:=?_,d6:=?_,d7:=?_,t6:=?_,t7:=?_,h8:=?_,WN:=?_,h9:=?_}
 ·intro h1
  obtain ⟨a,b,c⟩:=h.c0 h1;exact ⟨a,b,(oh c).trans c⟩
 ·intro h1
  obtain ⟨a,b,c⟩:=h.c1 h1;exact ⟨a,b,(oh c).trans c⟩
 ·intro h1
  exact (oh (h.FK h1)).trans (h.FK h1)
 ·intro h1
  rw [pn (hnp (h.c0 h1).2.2)];exact h.a0 h1
 ·intro h1
  rw [pn (hnp (h.FK h1))];exact h.a1 h1
 ·intro h1 h2
  rw [oh (h.FK h1)];show (V.dI r p).at (aM V.pb r (V.N+1) e.found) t=_
  by_cases q:e.found=r
  ·rw [q,aC]
   show cnt ((V.dI r p).bs.take _) t=_;rw [zG _ (by rw [←GL (r:=r) (p:=p)];exact bQ _)];exact oh (h.FK h1)
  ·rw [aD _ _ q,UR (hG.pbN _)]
   exact h.fd h1 h2
 ·intro h1 h2
  rw [GL];exact Nat.lt_succ_of_lt (h.tn h1 h2)
 ·intro h1 h2
  obtain ⟨a1,a2,a3,a4,a5,a6,a7,a8⟩:=h.s1 h1 h2;refine ⟨a1,by rw [GL];omega,?_,fun q=>(hst a2 q).elim,a5,a6,?_,a8⟩
  ·show _≤aM V.pb r (V.N+1) e.cG
   unfold aM
   split<;>omega
  ·show aM V.pb r (V.N+1) e.spare≤_
   rw [aD _ _ hr];exact a7
 ·exact fun h1=>⟨OU hp (hs (by omega) (by omega)) (h.d5 h1).1,fun q=>(hst (hs (by omega) (by omega)) q).elim⟩
 ·exact fun h1 h2=>⟨OU hp (hs (by omega) h2) (h.d6 h1 h2).1,(h.d6 h1 h2).2⟩
 ·exact fun h1 q=>(hst (hs (by omega) (by omega)) q).elim
 ·exact fun h1=>KX (hs (by omega) (by omega)) (h.t6 h1)
 ·exact fun h1 h2=>KX (hs (by omega) (by omega)) (h.t7 h1 h2)
 ·exact fun h1 h2=>⟨(h.h8 h1 h2).1,xp (hs (by omega) (by omega)) (h.h8 h1 h2).2⟩
 ·exact fun h1 q=>(hst (hs (by omega) (by omega)) q).elim
 ·exact fun h1 q=>(hst (hs (by omega) (by omega)) q).elim
end
def View.more (V:View σ) (u:Nat) (o:Op):View σ:={V with ops:=aM V.ops u (V.ops u++[o])}
section
variable {V:View σ} {u:Nat} {o:Op}
theorem UM {k i:Nat} (hi:i<(V.ops k).length):(V.more u o).op k i=V.op k i:=by
 show (aM V.ops u (V.ops u++[o]) k).getD i _=_
 by_cases e:k=u
 ·subst e
  rw [aC];simp [View.op,List.getD_eq_getElem?_getD,pP hi]
 ·rw [aD _ _ e]
  rfl
theorem aCI (hG:jN P n V) {k:Nat} (hk:¬k<n):cnt V.bs k=0:=by
 unfold cnt;rw [List.count_eq_zero];intro hm;obtain ⟨b,hb,hkb⟩:=List.mem_flatten.1 hm;exact hk (hG.mem b hb k hkb)
theorem nc (hG:jN P n V) {k i:Nat} (hi:i<cnt V.bs k):i<(V.ops k).length:=by
 by_cases hk:k<n
 ·have:=hG.opl k hk;have:=(hG.fl k hk).1;omega
 ·rw [aCI hG hk] at hi;omega
theorem GJ (hG:jN P n V):(V.more u o).rp P=V.rp P:=VD P fun _ _ hi=>UM (nc hG hi)
theorem aBv (hG:jN P n V) (k:Nat):(V.more u o).A P k=V.A P k:=by unfold View.A;rw [GJ hG]
theorem YS (hG:jN P n V) {p:List Nat} (hp:Good n V p) {q:List Nat} (hq:∀ k,q.count k≤p.count k):(V.rp P).run P (V.more u o).op q=(V.rp P).run P V.op q:=by
 refine JX P q _ fun k i hi=>UM ?_
 rw [show (V.rp P).c k=cnt V.bs k from OW P V.op V.bs k] at hi;have h1:=hq k;rw [hp.cn k] at h1
 by_cases hk:k∈p
 ·rw [aJ hk] at h1
  have:=hp.fl k hk;have:=hG.opl k (hp.lt k hk);omega
 ·rw [aN hk] at h1
  exact nc hG (by omega)
theorem fX.more {t:Nat} {e:bU σ} {x:bJ} (h:fX P n cap V t e x) (hG:jN P n V) (hu:t≠u):fX P n cap (V.more u o) t e x:=by
 have ho:(V.more u o).ops t=V.ops t:=aD _ _ hu;have hop:∀ i,(V.more u o).op t i=V.op t i:=fun i=>by show ((V.more u o).ops t).getD i _=_;rw [ho];rfl
 have hA:∀ k,(V.more u o).A P k=V.A P k:=aBv hG;have hD:∀ {s c:Nat} {dw:Nat→Int},nR P n V s c dw→nR P n (V.more u o) s c dw:=fun h k hk hq=>by rw [hA];exact h k hk hq
 refine {h with xo:=?_,JO:=?_,c0:=?_,c1:=?_,c3:=?_,a0:=?_,a1:=?_,d5:=?_,d6:=?_,d7:=?_,WN:=?_,h9:=?_}
 ·rw [ho];exact h.xo
 ·rw [ho,hop];exact h.JO
 ·rw [ho];exact h.c0
 ·rw [ho];exact h.c1
 ·rw [ho];exact h.c3
 ·rw [hA];exact h.a0
 ·rw [hA];exact h.a1
 ·exact fun h1=>⟨hD (h.d5 h1).1,(h.d5 h1).2⟩
 ·exact fun h1 h2=>⟨hD (h.d6 h1 h2).1,(h.d6 h1 h2).2⟩
 ·intro h1 h2
  rw [GJ hG];exact h.d7 h1 h2
 ·intro h1 h2
  rw [GJ hG,YS hG ((h.h8 (by omega) (by omega)).2.good h2 (h.t7 (by omega) (by omega)) hG) (fun k=>(List.take_sublist _ _).count_le k)];exact h.WN h1 h2
 ·intro h1 h2
  rw [GJ hG,YS hG ((h.h8 (by omega) (by omega)).2.good h2 (h.t7 (by omega) (by omega)) hG) (fun k=>bQ _)];exact h.h9 h1 h2
end
end
section
variable {σ:Type} {P:Plain σ} {n cap:Nat} {V:View σ}
theorem jN.gY (h:jN P n V) {u:Nat} (hq:cnt V.bs u=V.aO u) (f:Nat→Int):jN P n {V with gY:=aM V.gY u f}:=by
 refine {h with MP:=?_};intro t ht hc i hi;show aM V.gY u f t i=_;rw [aD]
 ·exact h.MP t ht hc i hi
 ·rintro rfl
  have WS:cnt V.bs t<V.aO t:=hc;omega
theorem jN.more (h:jN P n V) {u:Nat} (o:Op):jN P n (V.more u o):=by
 have hA:∀ k,(V.more u o).A P k=V.A P k:=aBv h;have hl:∀ t,(V.ops t).length≤((V.more u o).ops t).length:=fun t=>by
  show _≤(aM V.ops u (V.ops u++[o]) t).length
  by_cases e:t=u
  ·subst e;rw [aC];simp
  ·rw [aD _ _ e];exact bQ _
 refine {h with opl:=?_,MP:=?_,fq:=?_,LJ:=?_,recs:=?_}
 ·exact fun t ht=>bK (h.opl t ht) (hl t)
 ·intro t ht hc i hi
  show V.gY t i=((V.more u o).op t (cnt V.bs t)).w i;have WS:cnt V.bs t<V.aO t:=hc;rw [UM (by have:=h.opl t ht;omega)];exact h.MP t ht hc i hi
 ·intro t ht;rw [hA];exact h.fq t ht
 ·rw [GJ h];exact h.LJ
 ·intro r t ht hq;rw [hA];exact h.recs r t ht hq
theorem jN.flip (h:jN P n V) {u:Nat} (hu:u<n) (hq:cnt V.bs u=V.aO u) (hl:(V.ops u).length=V.aO u+1) (ha:∀ i,i<3→V.gY u i=(V.op u (V.aO u)).w i) :
  jN P n (V.flip u (aM V.dS (u / 16) (V.dS (u / 16)+(if V.aO u % 2=1 then -(2 ^ (u % 16)) else 2 ^ (u % 16))))):=by
 generalize hg:aM V.dS (u / 16) (V.dS (u / 16)+(if V.aO u % 2=1 then -(2 ^ (u % 16)) else 2 ^ (u % 16)))=g;have hf:∀ t,t≠u→(V.flip u g).aO t=V.aO t:=fun t ht=>aD _ _ ht
 have hfu:(V.flip u g).aO u=V.aO u+1:=aC _ _ _;refine {h with fl:=?_,opl:=?_,MP:=?_,dS:=?_,recs:=?_,nfN:=?_,aAO:=?_}
 ·intro t ht
  by_cases e:t=u
  ·subst e;rw [hfu];show cnt V.bs t≤_∧_≤cnt V.bs t+1;omega
  ·rw [hf t e];exact h.fl t ht
 ·intro t ht
  by_cases e:t=u
  ·subst e;rw [hfu];show _≤(V.ops t).length;omega
  ·rw [hf t e];exact h.opl t ht
 ·intro t ht hc i hi
  by_cases e:t=u
  ·subst e
   show V.gY t i=(V.op t (cnt V.bs t)).w i;rw [hq];exact ha i hi
  ·rw [hf t e] at hc;exact h.MP t ht hc i hi
 ·intro w hw
  show g w=bits n (aM V.aO u (V.aO u+1)) w;rw [←hg]
  by_cases e:w=u / 16
  ·subst e
   rw [aC,sw n V.aO u hu,h.dS _ hw]
  ·rw [aD _ _ e,ef _ _ _ _ _ e]
   exact h.dS w hw
 ·exact fun r t ht hqt=>h.recs r t ht (OA hq hqt)
 ·intro t
  show aM V.nf u V.N t≤V.N;unfold aM
  split
  ·exact bQ _
  ·exact h.nfN t
 ·intro t ht hn
  have hn':aM V.nf u V.N t+2≤V.N:=hn
  by_cases e:t=u
  ·subst e;rw [aC] at hn';omega
  ·rw [aD _ _ e] at hn'
   rw [hf t e];exact h.aAO t ht hn'
theorem quiet_mono {s s' k:Nat} (hs:s≤s') (h:V.quiet s k):V.quiet s' k:=by
 obtain ⟨h1,h2⟩:=h;refine ⟨h1,?_⟩;have a:=PZ V.bs hs k;have b:=rF V.bs s' k;show cnt (V.bs.take s') k=_;have c:cnt (V.bs.take s) k=cnt V.bs k:=h2;omega
theorem jN.word (h:jN P n V) {r i s:Nat} {dw:Nat→Int} (hr:r≠V.prec) (hs:V.pb r≤s) (hd:nR P n V s (bC n) dw):jN P n {V with rw:=aM V.rw r (aM (V.rw r) i (dw i))}:=by
 have hp:aM V.rw r (aM (V.rw r) i (dw i)) V.prec=V.rw V.prec:=aD _ _ (nI hr);refine {h with ug:=?_,fq:=?_,recs:=?_}
 ·intro w hw
  show aM V.rw r (aM (V.rw r) i (dw i)) V.prec w=_;rw [hp];exact h.ug w hw
 ·intro t ht
  show aM V.rw r (aM (V.rw r) i (dw i)) V.prec _=_∧aM V.rw r (aM (V.rw r) i (dw i)) V.prec _=_;rw [hp];exact h.fq t ht
 ·intro r' t ht hq
  show aM V.rw r (aM (V.rw r) i (dw i)) r' _=_∧aM V.rw r (aM (V.rw r) i (dw i)) r' _=_
  by_cases e:r'=r
  ·subst e
   rw [aC];have old:=h.recs r' t ht hq;obtain ⟨d1,d2⟩:=hd t ht (quiet_mono hs hq);have PU:aL n t<bC n:=by unfold aL bC;omega
   have hl2:aQ n t<bC n:=by unfold aQ bC;omega
   constructor
   ·unfold aM
    split
    ·rename_i q;rw [←q];exact d1 PU
    ·exact old.1
   ·unfold aM
    split
    ·rename_i q;rw [←q];exact d2 hl2
    ·exact old.2
  ·rw [aD _ _ e]
   exact h.recs r' t ht hq
theorem jN.state (h:jN P n V) {r:Nat} (hr:r≠V.prec) (s:Option (eX σ×eX σ)):jN P n {V with lI:=aM V.lI r s}:=by
 refine {h with LJ:=?_};show ∃ f,aM V.lI r s V.prec=_;rw [aD _ _ (nI hr)];exact h.LJ
theorem jN.dI (h:jN P n V) {r s t:Nat} {p:List Nat} {tg:Nat→Int} {fd:Nat→Nat} {v f:eX σ} {dw:Nat→Int} (hs:s=V.N) (hsc:nL n V t s (tw n) tg fd) (hpe:zU n V s t p fd) (hrw:∀ i,i<bC n→V.rw r i=dw i) (hrs:V.lI r=some (v,f))
  (hv:v=⟨((V.rp P).run P V.op p).st,num (V.bs++[p])⟩) (ha:uQ n ((V.rp P).run P V.op p) dw) (hw:∀ w,w<tw n→dw w=bits n fd w):jN P n (V.dI r p):=by
 have hp:=hpe.good hs hsc h;have hA:∀ k,(V.dI r p).A P k=((V.rp P).run P V.op p).an k:=fun k=>by unfold View.A;rw [ji]
 have aHo:∀ k,k<n→V.rw r (aL n k)=((V.dI r p).A P k).s∧V.rw r (aQ n k)=((V.dI r p).A P k).v:=by
  intro k hk;rw [hA,hrw _ (by unfold aL bC;omega),hrw _ (by unfold aQ bC;omega)];exact ha k hk
 have oh:∀ k,cnt (V.dI r p).bs k=cnt V.bs k+if k∈p then 1 else 0:=GM hp
 refine {h with fl:=?_,MP:=?_,mem:=?_,ug:=?_,fq:=aHo,LJ:=?_,recs:=?_,pbN:=?_,pbc:=?_,nfN:=?_,aAO:=?_}
 ·intro k hk
  show _≤V.aO k∧V.aO k≤_;rw [oh];have:=h.fl k hk
  split
  ·rename_i hm;have:=hp.fl k hm;omega
  ·omega
 ·intro k hk hc i hi
  have WS:cnt (V.dI r p).bs k<V.aO k:=hc;have hkp:k ∉ p:=fun hm=>by rw [oh,aJ hm] at WS;have:=hp.fl k hm;omega
  show V.gY k i=(V.op k (cnt (V.dI r p).bs k)).w i;rw [oh,aN hkp] at WS ⊢;exact h.MP k hk WS i hi
 ·intro b hb k hk
  have hb':b∈V.bs++[p]:=hb
  rcases tB.1 hb' with hb'|hb'
  ·exact h.mem b hb' k hk
  ·rw [oP.1 hb'] at hk;exact hp.lt k hk
 ·intro w hw'
  show V.rw r w=bits n (cnt (V.dI r p).bs) w;rw [hrw w (by unfold bC;omega),hw w hw'];apply zD;intro k _ hk;rw [oh];obtain ⟨b1,b2,-⟩:=hsc.2 k hk (KS hk);have b3:=hpe.2.2 k hk;rw [sF V hs] at b1 b3
  split
  ·rename_i hm
   have:=(hpe.mem.1 hm).2;rw [sF V hs] at this;rw [this]
  ·rename_i hm
   have:fd k≠cnt V.bs k+1:=fun q=>hm (hpe.mem.2 ⟨hk,by rw [sF V hs];exact q⟩)
   rw [show fd k=cnt V.bs k by omega];rfl
 ·refine ⟨f,?_⟩
  show V.lI r=_;rw [hrs,hv,ji];rfl
 ·intro r' k hk hq
  by_cases e:r'=r
  ·subst e;exact aHo k hk
  ·have hq':(V.dI r p).quiet (aM V.pb r (V.N+1) r') k:=hq
   rw [aD _ _ e] at hq';obtain ⟨q1,q2⟩:=SI hp (h.pbN r') hq';rw [pn q2];exact h.recs r' k hk q1
 ·intro r'
  rw [GL];show aM V.pb r (V.N+1) r'≤_;unfold aM
  split
  ·exact bQ _
  ·exact Nat.le_succ_of_le (h.pbN r')
 ·rw [GL]
  exact aC _ _ _
 ·intro k
  rw [GL];exact Nat.le_succ_of_le (h.nfN k)
 ·intro k hk hn
  rw [GL] at hn;have hn':V.nf k+2≤V.N+1:=hn;show V.aO k=_;rw [oh];have b1:=(hsc.2 k hk (KS hk)).2.2 (.inr (by omega));have b2:=h.fl k hk
  split
  ·rename_i hm;exact hp.fl k hm
  ·rename_i hm
   have:fd k≠cnt V.bs k+1:=fun q=>hm (hpe.mem.2 ⟨hk,by rw [sF V hs];exact q⟩)
   omega
end
section
variable {σ:Type} {P:Plain σ} {n cap:Nat} {V:View σ} {t:Nat} {e:bU σ} {x:bJ}
structure vS (P:Plain σ) (n cap:Nat) (V:View σ) (t:Nat) (e:bU σ) (x:bJ):Prop where
 xo:x.ops=V.ops t
 xf:x.aO=V.aO t
 bk:e.aG=x.aG
 bc:x.aG≤cap
 ag:e.again=decide (x.tries=2)
 IU:e.fZ=decide (V.aO t % 2=1)
 JO:(V.ops t).length≠0∧e.op=V.op t ((V.ops t).length-1)
 c3:(V.ops t).length=V.aO t∧x.ended+1=V.aO t
 JL:∀ i,i<3→V.gY t i=e.op.w i
 sp:(e.spare=2*t+1∧e.kept=2*t+2)∨(e.spare=2*t+2∧e.kept=2*t+1)
 IB:e.spare≠V.prec
 en:e.ended=decide (0<x.ended)
 tr:x.tries=1∨x.tries=2
 tn:x.tries=2→V.nf t<V.N
theorem fX.base (h:fX P n cap V t e x) (h3:3≤x.part):vS P n cap V t e x :=
 ⟨h.xo,h.xf,h.bk,h.bc,h.ag (by omega),h.IU,h.JO (by omega),h.c3 h3,h.JL (by omega),h.sp,h.IB,h.en,h.tr h3,h.tn h3⟩
structure Att (P:Plain σ) (n:Nat) (V:View σ) (t:Nat) (e:bU σ) (x:bJ):Prop where
 st:x.stamp=e.stamp
 le:e.stamp≤V.N
 pb:e.stamp≤V.pb e.cG
 cur:e.stamp=V.N→e.cG=V.prec
 nf:V.nf t≤e.stamp
 nf2:x.tries=2→V.nf t<e.stamp
 spb:V.pb e.spare≤e.stamp
 some:(V.lI e.cG).isSome
theorem fX.EM (h:fX P n cap V t e x) (h5:5≤x.part) (od:x.part≤10):Att P n V t e x:=by
 obtain ⟨a1,a2,a3,a4,a5,a6,a7,a8⟩:=h.s1 h5 od;exact ⟨a1,a2,a3,a4,a5,a6,a7,a8⟩
theorem Att.all (h:Att P n V t e x):x.stamp=e.stamp∧e.stamp≤V.N∧e.stamp≤V.pb e.cG∧(e.stamp=V.N→e.cG=V.prec)∧V.nf t≤e.stamp∧(x.tries=2→V.nf t<e.stamp)∧V.pb e.spare≤e.stamp∧(V.lI e.cG).isSome :=
 ⟨h.st,h.le,h.pb,h.cur,h.nf,h.nf2,h.spb,h.some⟩
theorem fX.aC7 (b:vS P n cap V t e x) (h:x.part=3∨x.part=4) (hp:e.phase=x.part) (hl:e.past+x.left=x.len n x.part∧0<x.left):fX P n cap V t e x :=
 {xo:=b.xo,xf:=b.xf,bk:=b.bk,bc:=b.bc,ag:=fun _=>b.ag,IU:=b.IU,JO:=fun _=>b.JO,c3:=fun _=>b.c3,JL:=fun _=>b.JL,sp:=b.sp,IB:=b.IB,en:=b.en,tr:=fun _=>b.tr,tn:=fun _=>b.tn,
  p1:=(by intros;(try dsimp only at *);omega),p2:=fun _=>hp,p3:=fun _ _=>hl,p4:=(by intros;(try dsimp only at *);omega),c0:=(by intros;(try dsimp only at *);omega),t0:=(by intros;(try dsimp only at *);omega),c1:=(by intros;(try dsimp only at *);omega),FK:=(by intros;(try dsimp only at *);omega),rz:=(by intros;(try dsimp only at *);omega),a0:=(by intros;(try dsimp only at *);omega),a1:=(by intros;(try dsimp only at *);omega),fd:=(by intros;(try dsimp only at *);omega),s1:=(by intros;(try dsimp only at *);omega),d5:=(by intros;(try dsimp only at *);omega),d6:=(by intros;(try dsimp only at *);omega),d7:=(by intros;(try dsimp only at *);omega),t6:=(by intros;(try dsimp only at *);omega),t7:=(by intros;(try dsimp only at *);omega),h8:=(by intros;(try dsimp only at *);omega),WN:=(by intros;(try dsimp only at *);omega),h9:=(by intros;(try dsimp only at *);omega),w9:=(by intros;(try dsimp only at *);omega),ay:=(by intros;(try dsimp only at *);omega)}
theorem fX.aBu (b:vS P n cap V t e x) (h:x.part=11) (hp:1≤x.left∧x.left≤3∧e.phase=14-x.left) (hc:cnt V.bs t=V.aO t) (ha:x.left=1→e.VI=(V.A P t).s) (hf:x.left≤2→V.at (V.pb e.found) t=cnt V.bs t):fX P n cap V t e x :=
 {xo:=b.xo,xf:=b.xf,bk:=b.bk,bc:=b.bc,ag:=fun _=>b.ag,IU:=b.IU,JO:=fun _=>b.JO,c3:=fun _=>b.c3,JL:=fun _=>b.JL,sp:=b.sp,IB:=b.IB,en:=b.en,tr:=fun _=>b.tr,tn:=fun _=>b.tn,
  p1:=(by intros;(try dsimp only at *);omega),p2:=(by intros;(try dsimp only at *);omega),p3:=(by intros;(try dsimp only at *);omega),p4:=fun _=>hp,c0:=(by intros;(try dsimp only at *);omega),t0:=(by intros;(try dsimp only at *);omega),c1:=(by intros;(try dsimp only at *);omega),FK:=fun _=>hc,rz:=(by intros;(try dsimp only at *);omega),a0:=(by intros;(try dsimp only at *);omega),a1:=fun _=>ha,fd:=fun _=>hf,s1:=(by intros;(try dsimp only at *);omega),d5:=(by intros;(try dsimp only at *);omega),d6:=(by intros;(try dsimp only at *);omega),d7:=(by intros;(try dsimp only at *);omega),t6:=(by intros;(try dsimp only at *);omega),t7:=(by intros;(try dsimp only at *);omega),h8:=(by intros;(try dsimp only at *);omega),WN:=(by intros;(try dsimp only at *);omega),h9:=(by intros;(try dsimp only at *);omega),w9:=(by intros;(try dsimp only at *);omega),ay:=(by intros;(try dsimp only at *);omega)}
theorem fX.mk5 (b:vS P n cap V t e x) (a:Att P n V t e x) (h:x.part=5) (hp:e.phase=5) (hl:e.past+x.left=bC n+1∧0<x.left) (hd:nR P n V e.stamp e.past e.dw∧(e.stamp=V.N→∀ i,i<e.past→i<bC n→e.dw i=V.rw V.prec i)):fX P n cap V t e x :=
 {xo:=b.xo,xf:=b.xf,bk:=b.bk,bc:=b.bc,ag:=fun _=>b.ag,IU:=b.IU,JO:=fun _=>b.JO,c3:=fun _=>b.c3,JL:=fun _=>b.JL,sp:=b.sp,IB:=b.IB,en:=b.en,tr:=fun _=>b.tr,tn:=fun _=>b.tn,
  p1:=(by intros;(try dsimp only at *);omega),p2:=fun _=>by omega,p3:=fun _ _=>by rw [h];exact hl,p4:=(by intros;(try dsimp only at *);omega),c0:=(by intros;(try dsimp only at *);omega),t0:=(by intros;(try dsimp only at *);omega),c1:=(by intros;(try dsimp only at *);omega),FK:=(by intros;(try dsimp only at *);omega),rz:=(by intros;(try dsimp only at *);omega),a0:=(by intros;(try dsimp only at *);omega),a1:=(by intros;(try dsimp only at *);omega),fd:=(by intros;(try dsimp only at *);omega),s1:=fun _ _=>a.all,d5:=fun _=>hd,d6:=(by intros;(try dsimp only at *);omega),d7:=(by intros;(try dsimp only at *);omega),t6:=(by intros;(try dsimp only at *);omega),t7:=(by intros;(try dsimp only at *);omega),h8:=(by intros;(try dsimp only at *);omega),WN:=(by intros;(try dsimp only at *);omega),h9:=(by intros;(try dsimp only at *);omega),w9:=(by intros;(try dsimp only at *);omega),ay:=(by intros;(try dsimp only at *);omega)}
structure Cop (P:Plain σ) (n:Nat) (V:View σ) (e:bU σ):Prop where
 d:nR P n V e.stamp (bC n) e.dw
 now:e.now.isSome
 fD:e.fD.isSome
theorem fX.aFo (b:vS P n cap V t e x) (a:Att P n V t e x) (c:Cop P n V e) (h:(x.part=6∧nL n V t e.stamp e.past e.tg x.flipped)∨(x.part=7∧nL n V t e.stamp (tw n) e.tg x.flipped)) (hp:e.phase=x.part) (hl:e.past+x.left=x.len n x.part∧0<x.left)
  (hd:e.stamp=V.N→(∀ i,i<bC n→e.dw i=V.rw V.prec i)∧e.now=some ⟨(V.rp P).st,num V.bs⟩∧e.fD=some ⟨(V.rp P).st,num V.bs⟩):fX P n cap V t e x :=
 {xo:=b.xo,xf:=b.xf,bk:=b.bk,bc:=b.bc,ag:=fun _=>b.ag,IU:=b.IU,JO:=fun _=>b.JO,c3:=fun _=>b.c3,JL:=fun _=>b.JL,sp:=b.sp,IB:=b.IB,en:=b.en,tr:=fun _=>b.tr,tn:=fun _=>b.tn,
  p1:=(by intros;(try dsimp only at *);omega),p2:=fun _=>hp,p3:=fun _ _=>hl,p4:=(by intros;(try dsimp only at *);omega),c0:=(by intros;(try dsimp only at *);omega),t0:=(by intros;(try dsimp only at *);omega),c1:=(by intros;(try dsimp only at *);omega),FK:=(by intros;(try dsimp only at *);omega),rz:=(by intros;(try dsimp only at *);omega),a0:=(by intros;(try dsimp only at *);omega),a1:=(by intros;(try dsimp only at *);omega),fd:=(by intros;(try dsimp only at *);omega),s1:=fun _ _=>a.all,d5:=(by intros;(try dsimp only at *);omega),d6:=fun _ _=>⟨c.d,c.now,c.fD⟩,d7:=fun _=>hd,
  t6:=fun q=>(by rcases h with h|h;exact h.2;omega),t7:=fun q _=>(by rcases h with h|h;omega;exact h.2),h8:=(by intros;(try dsimp only at *);omega),WN:=(by intros;(try dsimp only at *);omega),h9:=(by intros;(try dsimp only at *);omega),w9:=(by intros;(try dsimp only at *);omega),ay:=(by intros;(try dsimp only at *);omega)}
theorem fX.mk8 (b:vS P n cap V t e x) (a:Att P n V t e x) (c:Cop P n V e) (s:nL n V t e.stamp (tw n) e.tg x.flipped) (q:e.aK=x.aK∧zU n V e.stamp t e.aK x.flipped) (h:8≤x.part∧x.part≤10) (hp:e.phase=x.part) (hl:e.past+x.left=x.len n x.part∧0<x.left)
  (WN:x.part=8→e.stamp=V.N→e.fD=some ⟨(V.rp P).st,num V.bs⟩∧e.now=some ⟨((V.rp P).run P V.op (e.aK.take (e.past / 3))).st,num V.bs⟩∧uQ n ((V.rp P).run P V.op (e.aK.take (e.past / 3))) e.dw∧∀ q,q<e.past % 3→e.heard q=V.gY (e.aK.getD (e.past / 3) 0) q)
  (h9:x.part=9∨x.part=10→e.stamp=V.N→e.now=some ⟨((V.rp P).run P V.op e.aK).st,num (V.bs++[e.aK])⟩∧uQ n ((V.rp P).run P V.op e.aK) e.dw∧∀ w,w<tw n→e.dw w=bits n x.flipped w)
  (w9:x.part=9→∀ i,i<e.past→i<bC n→V.rw e.spare i=e.dw i) (ay:x.part=10→(∀ i,i<bC n→V.rw e.spare i=e.dw i)∧V.lI e.spare=e.now.bind fun v=>e.fD.map fun f=>(v,f)):fX P n cap V t e x :=
 {xo:=b.xo,xf:=b.xf,bk:=b.bk,bc:=b.bc,ag:=fun _=>b.ag,IU:=b.IU,JO:=fun _=>b.JO,c3:=fun _=>b.c3,JL:=fun _=>b.JL,sp:=b.sp,IB:=b.IB,en:=b.en,tr:=fun _=>b.tr,tn:=fun _=>b.tn,
  p1:=(by intros;(try dsimp only at *);omega),p2:=fun _=>hp,p3:=fun _ _=>hl,p4:=(by intros;(try dsimp only at *);omega),c0:=(by intros;(try dsimp only at *);omega),t0:=(by intros;(try dsimp only at *);omega),c1:=(by intros;(try dsimp only at *);omega),FK:=(by intros;(try dsimp only at *);omega),rz:=(by intros;(try dsimp only at *);omega),a0:=(by intros;(try dsimp only at *);omega),a1:=(by intros;(try dsimp only at *);omega),fd:=(by intros;(try dsimp only at *);omega),s1:=fun _ _=>a.all,d5:=(by intros;(try dsimp only at *);omega),d6:=fun _ _=>⟨c.d,c.now,c.fD⟩,d7:=(by intros;(try dsimp only at *);omega),t6:=(by intros;(try dsimp only at *);omega),t7:=fun _ _=>s,h8:=fun _ _=>q,WN:=WN,h9:=h9,w9:=w9,ay:=ay}
theorem vS.with {e':bU σ} {x':bJ} (b:vS P n cap V t e x) (h1:x'.ops=x.ops) (h2:x'.aO=x.aO) (h3:e'.aG=x'.aG) (h4:x'.aG≤cap) (h5:e'.again=decide (x'.tries=2)) (h6:e'.fZ=e.fZ) (h7:e'.op=e.op) (h8:x'.ended=x.ended) (h9:e'.spare=e.spare) (od:e'.kept=e.kept) (ym:e'.ended=e.ended)
  (h12:x'.tries=1∨x'.tries=2) (h13:x'.tries=2→V.nf t<V.N):vS P n cap V t e' x' :=
 ⟨h1.trans b.xo,h2.trans b.xf,h3,h4,h5,h6.trans b.IU,⟨b.JO.1,h7.trans b.JO.2⟩,by rw [h8];exact b.c3,by rw [h7];exact b.JL,by rw [h9,od];exact b.sp,by rw [h9];exact b.IB,by rw [h8,ym];exact b.en,h12,h13⟩
theorem fX.dM {e1:bU σ} {x1:bJ} (b:vS P n cap V t e1 x1):fX P n cap V t e1.dM (x1.enter n 3):=by
 by_cases h:x1.aG=0
 ·have e2:x1.enter n 3 = {x1 with part:=4,left:=1}:=by simp [bJ.enter,bJ.len,h]
  have e3:e1.dM=e1.enter 4:=by unfold bU.dM;rw [aN (by rw [b.bk];omega)]
  rw [e2,e3];refine fX.aC7 ⟨b.xo,b.xf,b.bk,b.bc,b.ag,b.IU,b.JO,b.c3,b.JL,b.sp,b.IB,b.en,b.tr,b.tn⟩ (.inr rfl) rfl ⟨rfl,(by intros;(try dsimp only at *);omega)⟩
 ·have e2:x1.enter n 3 = {x1 with part:=3,left:=x1.aG}:=by simp [bJ.enter,bJ.len,h]
  have e3:e1.dM=e1.enter 3:=by unfold bU.dM;rw [aJ (by rw [b.bk];omega)]
  rw [e2,e3];refine fX.aC7 ⟨b.xo,b.xf,b.bk,b.bc,b.ag,b.IU,b.JO,b.c3,b.JL,b.sp,b.IB,b.en,b.tr,b.tn⟩ (.inl rfl) rfl ⟨?_,by show 0<x1.aG;omega⟩;show 0+x1.aG=_;simp [bJ.len]
theorem fX.failed (b:vS P n cap V t e x) (a:Att P n V t e x) (hG:jN P n V) (ht:t<n) (hs:e.stamp≠V.N):fX P n cap V t (e.fail cap) (x.fail n cap):=by
 have hN:V.nf t<V.N:=by have:=a.le;have:=a.nf;omega
 unfold bU.fail bJ.fail;rw [b.ag]
 by_cases h:x.tries=2
 ·rw [aJ h,aJ (by simpa using h)]
  have e2:bJ.enter n {x with aG:=min (2*x.aG+1) cap} 11 = {x with aG:=min (2*x.aG+1) cap,part:=11,left:=3}:=by simp [bJ.enter,bJ.len]
  rw [e2];have hc:V.aO t=cnt V.bs t:=hG.aAO t ht (by have:=a.nf2 h;have:=a.le;omega);refine fX.aBu (b.with rfl rfl (by show min _ _=min _ _;rw [b.bk]) (Nat.min_le_right _ _) rfl rfl rfl rfl rfl rfl rfl b.tr b.tn) rfl ⟨(by intros;(try dsimp only at *);omega),(by intros;(try dsimp only at *);omega),rfl⟩ hc.symm (by intros;(try dsimp only at *);omega) (by intros;(try dsimp only at *);omega)
 ·rw [aN h,aN (by simpa using h)]
  exact fX.dM (b.with rfl rfl (by show min _ _=min _ _;rw [b.bk]) (Nat.min_le_right _ _) rfl rfl rfl rfl rfl rfl rfl (.inr rfl) (fun _=>hN))
end
end Go.Proofs.YtefjhnhdagolhaaGreat.M
