import Derived.Test.YtefjhnhdagolhaaGreatQ16
import Derived.Test.YtefjhnhdagolhaaGreatQ29
import Derived.Test.YtefjhnhdagolhaaGreatQ02
import Derived.Test.YtefjhnhdagolhaaGreatQ37
import Derived.Test.YtefjhnhdagolhaaGreatQ10
import Derived.Test.YtefjhnhdagolhaaGreatQ14
import Derived.Deep.AppendLies
set_option maxHeartbeats 4000000
set_option maxRecDepth 20000
namespace Go.Proofs.YtefjhnhdagolhaaGreat
open Go.RowKit
open M (aI aC aD aP bA Dd PI sH)
attribute [local go_sem ↓] Go.wp_at_zero Go.wp_at_succ
namespace M
theorem FQ {Y:aP} {j:Nat} {m:Mark} (h:Y.order[j]?=some m):sH Y.bs.flatten m.t m.s j∧Y.all[j]?=some (m.b,m.t):=by
 unfold aP.order marks at h
 rw [List.getElem?_mapIdx] at h
 obtain ⟨x,hx,e⟩:=Option.map_eq_some_iff.mp h
 subst e
 dsimp only
 refine ⟨⟨?_,?_⟩,hx⟩
 ·rw [←Y.wM,List.getElem?_map,hx];rfl
 ·rw [←Y.wM,←List.map_take]
section
variable {σ:Type} {P:Plain σ} {n cap:Nat} {Y:aP} {D:List Dd} {u:Nat→Option Nat} {c:Nat}
theorem PI.deed (h:PI P n cap Y D u c) {t s j:Nat} (hp:sH Y.bs.flatten t s j):∃ (i:Nat) (d:Dd),D[i]?=some d∧d.t=t∧d.s=s:=by
 have htn:t<n:=by
  have hm:t∈Y.bs.flatten:=List.mem_of_getElem? hp.1
  obtain ⟨b,h1,h2⟩:=List.mem_flatten.mp hm
  exact h.yi.ok.mem b h1 t h2
 have hs:s<(D.map Dd.t).count t:=by
  rw [←h.ln t htn]
  exact Nat.lt_of_lt_of_le hp.cnt (h.yi.ok.ops t htn)
 obtain ⟨i,hi⟩:=sH.ex hs
 have h1:=hi.1
 rw [List.getElem?_map] at h1
 obtain ⟨d,hd,e⟩:=Option.map_eq_some_iff.mp h1
 have h2:=(h.dt i d hd).2.1
 rw [e] at h2
 refine ⟨i,d,hd,e,?_⟩
 have a:=h2.2
 have b:=hi.2
 rw [←a,←b]
end
end M
section
variable {σ:Type} {P:M.Plain σ} {tell:σ→List Int} {D:DL} {X:(Nat→Prop)→aP→World→Prop} {A:PL} {S:Nat→Prop} {w0:QW} {w w1:World} {vd vu vs:Value} {Y Y':aP} {ds:List Dd} {us ss:List Int} {c:Nat} {nJ nK nL nM nN nO nP K t:Nat} {u:Nat→Option Nat}
theorem aE5 (b:Int) (t s:Nat) (i:Nat) (d:Dd) (gd cd:Nat) (e8:w.cell? ⟨A.bP,8,none⟩=some (.slice (some ⟨gd,0,none⟩) ds.length cd)) (hcs:∀ j d,ds[j]?=some d→∀ f v,(wI d)[f]?=some v→w.cell? ⟨gd,j*12+f,none⟩=some v) (hd:ds[i]?=some d) (ht:d.t=t) (hs:d.s=s) (hun:∀ j e,ds[j]?=some e→e.t=t→e.s=s→j=i) (hz:ds.length≤9223372036854775807) :
  Calls Tryz.prog 71 #[.pointer (some ⟨A.bP,0,none⟩),.agg #[.int .i64 b,.int .i64 (t:Int),.int .i64 (s:Int)]] w fun e w'=>e = .returned (.int .i64 (i:Int))∧Below w.heap.size w w':=by
 have hil:i<ds.length:=(List.getElem?_eq_some_iff.mp hd).1
 have HC:=aA hcs
 have HU:=aA hun
 have HE8:=aA e8
 clear hcs hun e8
 go_enter Tryz.func71,Tryz.ntmps71
 go_wp2_with fail
 generalize hW:World.alloc w _=W
 have hb:Below w.heap.size w W:=by rw [←hW];exact aB w _
 have rB:Row W w.heap.size 81 [.int .i64 b,.int .i64 (t:Int),.int .i64 (s:Int)]:=by rw [←hW];exact Row.new' rfl
 have HB:=aA hb
 have HRB:=aA rB
 clear hW hb rB
 go_loopw [5] (fun k w'=>∃ q:Nat,q≤i∧k = .int .i64 (q:Int)∧Below W.heap.size W w') (fun k _=>ds.length-(intOf k).toNat)
 case atStart=>exact ⟨0,Nat.zero_le _,rfl,Below.refl _ _⟩
 case round =>
  obtain ⟨q,hq,rfl,vG⟩:=hrel
  have hB:=Below.next HB.out vG HB.out.size
  have e8:=cell_later hB HE8.out
  have x1:=(HRB.out.old vG).cell_of (i:=1) rfl
  have x2:=(HRB.out.old vG).cell_of (i:=2) rfl
  have hql:(q:Int)<(ds.length:Int):=by omega
  have hq0:(0:Int)≤(q:Int):=by omega
  have hqd:ds[q]?=some ds[q]:=List.getElem?_eq_getElem (by omega)
  have k3:=cell_later hB (HC.out q _ hqd 3 _ rfl)
  have k4:=cell_later hB (HC.out q _ hqd 4 _ rfl)
  have IX:=aA vG
  by_cases hqi:q=i
  ·subst hqi
   rw [hd] at hqd
   injection hqd with hqd
   rw [←hqd,ht] at k3
   rw [←hqd,hs] at k4
   clear vG hB hqd
   go_wp2
   go_quiet (fail)
   go_wp2
   go_ret
   exact ⟨rfl,Below.next HB.out (Below.drewN IX.out _) HB.out.size⟩
  ·generalize hdq:ds[q]=dq at *
   by_cases htq:dq.t=t
   ·have hsq:¬dq.s=s:=fun c=>hqi (HU.out q dq hqd htq c)
    have aOH:¬(dq.s:Int)=(s:Int):=by omega
    rw [htq] at k3
    clear vG hB hqd hdq
    go_wp2
    go_quiet (fail)
    go_wp2
    go_roundw
    case rel=>exact ⟨q+1,by omega,by go_num,Below.drewN IX.out _⟩
    case measure=>simp [intOf];omega
   ·have aOI:¬(dq.t:Int)=(t:Int):=by omega
    clear vG hB hqd hdq
    go_wp2
    go_quiet (fail)
    go_wp2
    go_roundw
    case rel=>exact ⟨q+1,by omega,by go_num,Below.drewN IX.out _⟩
    case measure=>simp [intOf];omega
end
section
variable {σ:Type} {P:M.Plain σ} {tell:σ→List Int} {D:DL} {X:(Nat→Prop)→aP→World→Prop} {A:PL} {S:Nat→Prop} {w0:QW} {w w1:World} {vd vu vs:Value} {Y Y':aP} {ds:List Dd} {us ss:List Int} {c:Nat} {nJ nK nL nM nN nO nP K t:Nat} {u:Nat→Option Nat}
theorem PS.deed (h:PS P X D A w0 K Y ds u c w) {j:Nat} {m:M.Mark} (hj:Y.order[j]?=some m) :
  ∃ (i:Nat) (d:Dd) (gd cd:Nat),ds[i]?=some d∧sH Y.bs.flatten d.t d.s j∧w.cell? ⟨A.bP,8,none⟩=some (.slice (some ⟨gd,0,none⟩) ds.length cd)∧(∀ f v,(wI d)[f]?=some v→w.cell? ⟨gd,i*12+f,none⟩=some v)∧ds.length≤9223372036854775807 ∧
   Calls Tryz.prog 71 #[.pointer (some ⟨A.bP,0,none⟩),.agg #[.int .i64 (m.b:Int),.int .i64 (m.t:Int),.int .i64 (m.s:Int)]] w fun e w'=>e = .returned (.int .i64 (i:Int))∧Below w.heap.size w w':=by
 obtain ⟨S,vd,vu,vs,hm,hp,-,-⟩:=h
 obtain ⟨h1,-⟩:=M.FQ hj
 obtain ⟨i,d,h2,h3,h4⟩:=hp.deed h1
 obtain ⟨gd,cd,rfl,hcs⟩:=hm.deed h2
 have hz:ds.length≤9223372036854775807:=(fJ hm.od).2
 refine ⟨i,d,gd,cd,h2,by rw [h3,h4];exact h1,hm.row.cell_of rfl,hcs,hz,?_⟩
 refine aE5 _ _ _ i d gd cd (hm.row.cell_of rfl) (fun j' d' h'=>?_) h2 h3 h4 (fun j' e h' q1 q2=>hp.uniq h' h2 (by rw [q1,h3]) (by rw [q2,h4])) hz
 obtain ⟨g',c',e',q⟩:=hm.deed h'
 injection e' with e1 _ _
 injection e1 with e1
 injection e1 with e1 _ _
 subst e1
 exact q
theorem DN {base:Nat} {va:Value} (h:w.ownsRow base 81 3 va Y.order.length (dL Y.order)) {j:Nat} {m:M.Mark} (hj:Y.order[j]?=some m):∃ g cp,va = .slice (some ⟨g,0,none⟩) Y.order.length cp∧w.cell? ⟨g,j*3,none⟩=some (.int .i64 (m.b:Int))∧w.cell? ⟨g,j*3+1,none⟩=some (.int .i64 (m.t:Int))∧w.cell? ⟨g,j*3+2,none⟩=some (.int .i64 (m.s:Int)):=by
 obtain ⟨hl,e⟩:=List.getElem?_eq_some_iff.mp hj
 obtain ⟨a,b,d⟩:=CB Y.order j hl
 rw [e] at a b d
 obtain ⟨g,cp,e1,q1⟩:=gA h a
 obtain ⟨g2,cp2,e2,q2⟩:=gA h b
 obtain ⟨g3,cp3,e3,q3⟩:=gA h d
 rw [e1] at e2 e3
 injection e2 with e2 _ _
 injection e2 with e2
 injection e2 with e2 _ _
 injection e3 with e3 _ _
 injection e3 with e3
 injection e3 with e3 _ _
 subst e2 e3
 exact ⟨g,cp,e1,q1,q2,q3⟩
end
end Go.Proofs.YtefjhnhdagolhaaGreat
namespace Go.Proofs.YtefjhnhdagolhaaGreat
open M (aP bA Dd PI sH)
namespace M
def tg:Nat→List (List Nat)→List (Nat×Nat)
 |_,[]=>[]
 |o,p::bs=>(p.map fun t=>(o,t))++tg (o+1) bs
theorem aHm (bs:List (List Nat)):∀ o,(bs.mapIdx fun i p=>(i+o,p)).flatMap (fun x=>x.2.map fun t=>(x.1,t))=tg o bs:=by
 induction bs with
 |nil=>intro o;rfl
 |cons p bs ih =>
  intro o
  simp only [List.mapIdx_cons,List.flatMap_cons]
  rw [show (fun i p=>(i+1+o,p):Nat→List Nat→Nat×List Nat)=fun i p=>(i+(o+1),p) by funext i p;rw [Nat.add_assoc,Nat.add_comm 1 o],ih (o+1)]
  simp only [Nat.zero_add]
  rfl
theorem aCz (Y:aP):Y.all=tg 1 Y.bs:=aHm Y.bs 1
theorem aA7:∀ (bs:List (List Nat)) (o b t:Nat),BOk bs→(tg o bs)[0]?=some (b,t)→b=o
 |[],o,b,t,_,h=>by cases h
 |[]::bs,o,b,t,hb,_=>((hb [] List.mem_cons_self).1 rfl).elim
 |(a::p)::bs,o,b,t,_,h=>by
  have:(o,a)=(b,t):=by simpa [tg] using h
  exact (congrArg Prod.fst this).symm
theorem aBK:∀ (bs:List (List Nat)) (o k b t b' t':Nat),BOk bs→(tg o bs)[k]?=some (b,t)→(tg o bs)[k+1]?=some (b',t')→b'=b+1∨(b'=b∧t<t')
 |[],o,k,b,t,b',t',_,h,_=>by simp [tg] at h
 |p::bs,o,k,b,t,b',t',hb,h,h'=>by
  have hbs:BOk bs:=fun q hq=>hb q (List.mem_cons_of_mem _ hq)
  have hp:=(hb p List.mem_cons_self).2
  unfold tg at h h'
  by_cases c1:k+1<p.length
  ·rw [List.getElem?_append_left (by simp;omega),List.getElem?_map,List.getElem?_eq_getElem (by omega)] at h
   rw [List.getElem?_append_left (by simp;omega),List.getElem?_map,List.getElem?_eq_getElem c1] at h'
   simp at h h'
   obtain ⟨rfl,rfl⟩:=h
   obtain ⟨rfl,rfl⟩:=h'
   exact .inr ⟨rfl,List.pairwise_iff_getElem.mp hp k (k+1) (by omega) c1 (by omega)⟩
  ·rw [List.getElem?_append_right (by simp;omega),List.length_map] at h'
   by_cases c2:k<p.length
   ·rw [List.getElem?_append_left (by simp;omega),List.getElem?_map,List.getElem?_eq_getElem c2] at h
    simp at h
    obtain ⟨rfl,-⟩:=h
    rw [show k+1-p.length=0 by omega] at h'
    exact .inl (aA7 bs _ _ _ hbs h')
   ·rw [List.getElem?_append_right (by simp;omega),List.length_map] at h
    rw [show k+1-p.length=k-p.length+1 by omega] at h'
    exact aBK bs (o+1) (k-p.length) b t b' t' hbs h h'
theorem aA8 {Y:aP} (hb:BOk Y.bs) {m:Mark} (h:Y.order[0]?=some m):m.b=1:=by
 have:=(FQ h).2
 rw [aCz] at this
 exact aA7 _ _ _ _ hb this
theorem aBx {Y:aP} (hb:BOk Y.bs) {k:Nat} {m m':Mark} (h:Y.order[k]?=some m) (h':Y.order[k+1]?=some m'):m'.b=m.b+1∨(m'.b=m.b∧m.t<m'.t):=by
 have a:=(FQ h).2
 have b:=(FQ h').2
 rw [aCz] at a b
 exact aBK _ _ _ _ _ _ _ hb a b
theorem aAG (Y:aP):Y.order.length=Y.bs.flatten.length:=by
 unfold aP.order
 rw [uK,←List.length_map (f:=Prod.snd),Y.wM]
def Sn (Y:aP) (D:List Dd) (k:Nat) (sn:List Bool):Prop:=sn.length=D.length∧∀ (i:Nat) (d:Dd),D[i]?=some d→∃ v,sn[i]?=some v∧(v=true↔∃ j,j<k∧sH Y.bs.flatten d.t d.s j)
theorem Sn.new (Y:aP) (D:List Dd):Sn Y D 0 (List.replicate D.length false):=by
 refine ⟨by simp,fun i d hd=>⟨false,?_,?_⟩⟩
 ·have:=(List.getElem?_eq_some_iff.mp hd).1
  simp [this]
 ·exact ⟨fun q=>(by cases q),fun ⟨j,q,_⟩=>by omega⟩
section
variable {σ:Type} {P:Plain σ} {n cap:Nat} {Y:aP} {D:List Dd} {u:Nat→Option Nat} {c k:Nat} {sn:List Bool}
theorem Sn.not (h:Sn Y D k sn) {i:Nat} {d:Dd} (hd:D[i]?=some d) (hp:sH Y.bs.flatten d.t d.s k):sn[i]?=some false:=by
 obtain ⟨v,h1,h2⟩:=h.2 i d hd
 cases v with
 |false=>exact h1
 |true =>
  obtain ⟨j,h3,h4⟩:=h2.1 rfl
  have:=h4.uniq hp
  omega
theorem Sn.put (h:Sn Y D k sn) (hI:PI P n cap Y D u c) {i:Nat} {d:Dd} (hd:D[i]?=some d) (hp:sH Y.bs.flatten d.t d.s k):Sn Y D (k+1) (sn.set i true):=by
 refine ⟨by rw [List.length_set];exact h.1,fun j e he=>?_⟩
 by_cases q:i=j
 ·subst q
  rw [hd] at he
  injection he with he
  subst he
  refine ⟨true,?_,fun _=>⟨k,Nat.lt_succ_self _,hp⟩,fun _=>rfl⟩
  have:=(List.getElem?_eq_some_iff.mp hd).1
  simp [h.1,this]
 ·obtain ⟨v,h1,h2⟩:=h.2 j e he
  refine ⟨v,by rw [List.getElem?_set_ne q];exact h1,h2.trans ⟨fun ⟨x,h3,h4⟩=>⟨x,by omega,h4⟩,fun ⟨x,h3,h4⟩=>?_⟩⟩
  by_cases hx:x=k
  ·subst hx
   have e1:d.t=e.t:=by have a:=hp.1;rw [h4.1] at a;injection a with a;exact a.symm
   have e2:d.s=e.s:=by have a:=hp.2;rw [e1,h4.2] at a;exact a.symm
   exact (q (hI.uniq hd he e1 e2)).elim
  ·exact ⟨x,by omega,h4⟩
theorem Sn.all (h:Sn Y D Y.order.length sn) (hI:PI P n cap Y D u c) {i:Nat} {d:Dd} (hd:D[i]?=some d) (he:0<d.en):sn[i]?=some true:=by
 obtain ⟨v,h1,h2⟩:=h.2 i d hd
 obtain ⟨j,hj,-⟩:=hI.an d (List.mem_of_getElem? hd) he
 have:v=true:=h2.2 ⟨j,by rw [aAG];exact hj.lt,hj⟩
 rw [this] at h1
 exact h1
theorem PI.count_le (hI:PI P n cap Y D u c) {K:Nat} (hn:n≤64) (hK:∀ t,t<n→(Y.th t).ops.length≤K):D.length≤64*K:=by
 have:=qZ n K (D.map Dd.t) (fun k hk=>by
  obtain ⟨d,h1,rfl⟩:=List.mem_map.1 hk
  exact (hI.lt h1).1) (fun k hk=>by rw [←hI.ln k hk];exact hK k hk)
 rw [List.length_map] at this
 exact Nat.le_trans this (Nat.mul_le_mul_right _ hn)
end
end M
section
variable {σ:Type} {P:M.Plain σ} {n cap:Nat} {Y:aP} {D:List Dd} {u:Nat→Option Nat} {c k:Nat}
theorem aBT (hI:PI P n cap Y D u c) {i:Nat} {d:Dd} (hd:D[i]?=some d) (hp:sH Y.bs.flatten d.t d.s k) :
  (VC P Y (k+1)).st=(P.apply (VC P Y k).st d.op).1∧(0<d.en→d.an=(P.apply (VC P Y k).st d.op).2):=by
 have h1:=(hI.dt i d hd).2.2
 have h2:((Y.th d.t).ops).getD d.s ⟨0,0,0⟩=d.op:=by rw [List.getD_eq_getElem?_getD,h1];rfl
 have hl:=hp.lt
 have ht:Y.bs.flatten[k]=d.t:=(List.getElem?_eq_some_iff.mp hp.1).2
 constructor
 ·rw [aBP P Y k hl,ht]
  show (P.apply (VC P Y k).st (((Y.th d.t).ops).getD ((VC P Y k).c d.t) ⟨0,0,0⟩)).1=_
  rw [aEf,hp.2,h2]
 ·intro he
  obtain ⟨j,hj,e⟩:=hI.an d (List.mem_of_getElem? hd) he
  have:=hj.uniq hp
  subst this
  rw [e]
  show (P.apply (VC P Y j).st (((Y.th d.t).ops).getD d.s ⟨0,0,0⟩)).2=_
  rw [h2]
end
end Go.Proofs.YtefjhnhdagolhaaGreat
namespace Go.Proofs.YtefjhnhdagolhaaGreat
open Go.RowKit
open M (aI aC aD aP bA Dd PI)
attribute [local go_sem ↓] Go.wp_at_zero Go.wp_at_succ
section
variable {σ:Type} {P:M.Plain σ} {tell:σ→List Int} {D:DL} {X:(Nat→Prop)→aP→World→Prop} {A:PL} {S:Nat→Prop} {w0:QW} {w w1:World} {vd vu vs:Value} {Y Y':aP} {ds:List Dd} {us ss:List Int} {c:Nat} {nJ nK nL nM nN nO nP K t:Nat} {u:Nat→Option Nat}
def zU (P:M.Plain σ) (tell:σ→List Int) (n cap:Nat) (w:World) (b:Nat) (w':World):Prop :=
 ∃ (tE:TypeId) (bN:Nat) (S:Nat→Prop) (X:(Nat→Prop)→aP→World→Prop) (nJ nK nL nM nN nO nP:Nat),(∀ D:DL,D.n=n→D.cap=cap→wH P tell D tE bN X nJ nK nL nM nN nO nP)∧X S M.Y0 w'∧Row w' b 74 [.iface tE (.pointer (some ⟨bN,0,none⟩))]∧(∀ k,S k→w.heap.size≤k∧k<w'.heap.size∧k≠b)∧w.heap.size≤b∧Below w.heap.size w w'
theorem PM.IZ (h:PM X D A w0 S vd vu vs Y ds us ss c w) (w9:QW) (hq:∀ k,w9.q k→w0.q k∧k<w9.w.heap.size) (hf:Fr (fun k=>¬w9.q k) w9.w w0.w):PM X D A w9 S vd vu vs Y ds us ss c w :=
 ⟨h.row,h.obj,h.x,h.xl,h.od,h.ou,h.os,h.sx,h.nu,⟨fun q=>h.lo.1 (hq _ q).1,fun q=>h.lo.2.1 (hq _ q).1,fun k hS q=>h.lo.2.2.1 k hS (hq k q).1,fun k e q=>h.lo.2.2.2 k e (hq k q).1⟩,fun k q=>(hq k q).2,
  hf.trans ⟨h.bl.os,h.bl.tape,h.bl.output,h.bl.size,fun k hk hn=>h.bl.block k hk (fun c=>hn (fun q=>c (hq k q).1))⟩⟩
theorem PG.IZ (h:PG P X D A w0 K w) (w9:QW) (hq:∀ k,w9.q k→w0.q k∧k<w9.w.heap.size) (hf:Fr (fun k=>¬w9.q k) w9.w w0.w):PG P X D A w9 K w:=by
 obtain ⟨Y,ds,u,c,S,vd,vu,vs,hm,hp⟩:=h
 exact ⟨Y,ds,u,c,S,vd,vu,vs,hm.IZ w9 hq hf,hp⟩
theorem PM.aEx (xo:wH P tell D A.tE A.bN X nJ nK nL nM nN nO nP) (h:PM X D A w0 S vd vu vs Y ds us ss c w) {W w7:World} (hb:Below w.heap.size w W) (hg:W.grownBy w7 vu.ownBlock) {g gc:Nat} {x:Int} (ho:w7.ownsRow 0 3 1 (.slice (some ⟨g,0,none⟩) (us.length+1) gc) (us.length+1) (ints us++[.int .i64 x])) (hat:vu.ownBlock=some g∨g=W.heap.size) :
  PM X D A w0 S vd (.slice (some ⟨g,0,none⟩) (us.length+1) gc) vs Y ds (us++[x]) ss c (w7.setCell ⟨A.bP,9,none⟩ (.slice (some ⟨g,0,none⟩) (us.length+1) gc)):=by
 have hz:=hb.size
 have hr:=h.row.lt
 have hx:=h.obj.lt
 obtain ⟨n1,n2,n3,n4,n5,n6,n7,n8⟩:=h.ne
 have hk:∀ k,k<w.heap.size→vu.ownBlock≠some k→w7.heap[k]?=w.heap[k]?:=fun k hk hn=>(hg.block k (by omega) (fun e=>hn e.symm)).trans (hb.block k hk)
 have XZ:∀ k,k<w.heap.size→vu.ownBlock≠some k→k≠g:=fun k hk hn e=>by
  rcases hat with q|q
  ·exact hn (by rw [e];exact q)
  ·omega
 have MG:¬w0.q g:=by
  rcases hat with q|q
  ·exact h.lo.2.2.2 g (.inr (.inl q))
  ·exact fun c=>by have:=h.ql g c;have:=h.bl.size;omega
 have hgP:g≠A.bP:=fun e=>XZ A.bP hr n3 e.symm
 have hz7:=hg.size
 have YA:(w7.setCell ⟨A.bP,9,none⟩ (.slice (some ⟨g,0,none⟩) (us.length+1) gc)).heap.size=w7.heap.size:=by simp [World.setCell]
 have zM:(Value.slice (some ⟨g,0,none⟩) (us.length+1) gc).ownBlock=some g:=rfl
 have hne:∀ k,S k→k≠A.bP:=fun k hS=>(h.sx k hS).1
 exact {
  row:=(h.row.of_block (hk _ hr n3)).set 9 _
  obj:=(h.obj.of_block (hk _ hx n6)).setOther (Ne.symm n1) _
  x:=xo.stay _ _ _ _ _ h.x (fun k hS=>(cI (hne k hS)).trans (hk k (h.xl k hS) (h.sx k hS).2.2.2.1)) (fun _ q=>q) (fun k hS=>by rw [YA];have:=h.xl k hS;omega)
  xl:=fun k hS=>by rw [YA];have:=h.xl k hS;omega
  od:=bZ h.od fun k e=>(cI (fun q=>n2 (by rw [←q];exact e))).trans (hk k (h.od.lt k e).2 (fun q=>(n8 k e).1 q))
  ou:=by
   rw [List.length_append]
   have e:ints (us++[x])=ints us++[.int .i64 x]:=by simp [ints]
   rw [e]
   exact bZ ho fun k e=>cI (by rw [zM] at e;injection e with e;rw [←e];exact hgP)
  os:=bZ h.os fun k e=>(cI (fun q=>n4 (by rw [←q];exact e))).trans (hk k (h.os.lt k e).2 (fun q=>h.nu k q e))
  sx:=fun k hS=>⟨(h.sx k hS).1,(h.sx k hS).2.1,(h.sx k hS).2.2.1,fun e=>by rw [zM] at e;injection e with e;exact XZ k (h.xl k hS) (h.sx k hS).2.2.2.1 e.symm,(h.sx k hS).2.2.2.2⟩
  nu:=fun k e q=>by
   rw [zM] at e
   injection e with e
   exact XZ k (h.os.lt k q).2 (fun c=>h.nu k c q) e.symm
  lo:=⟨h.lo.1,h.lo.2.1,h.lo.2.2.1,fun k e=>by
   rcases e with e|e|e
   ·exact h.lo.2.2.2 k (.inl e)
   ·rw [zM] at e;injection e with e;rw [←e];exact MG
   ·exact h.lo.2.2.2 k (.inr (.inr e))⟩
  ql:=h.ql
  bl:=mB (uP (h.bl.trans (Fr.eW hb)) (U:=fun k=>vu.ownBlock=some k) ⟨hg.os,hg.tape,hg.output,hg.size,fun k hk hn=>hg.block k hk (fun e=>hn e.symm)⟩ (fun q e=>h.lo.2.2.2 q (.inr (.inl e)))) h.lo.1 _ _}
theorem PM.aEy (xo:wH P tell D A.tE A.bN X nJ nK nL nM nN nO nP) (h:PM X D A w0 S vd vu vs Y ds us ss c w) {W w7:World} (hb:Below w.heap.size w W) (hg:W.grownBy w7 vs.ownBlock) {g gc:Nat} {x:Int} (ho:w7.ownsRow 0 3 1 (.slice (some ⟨g,0,none⟩) (ss.length+1) gc) (ss.length+1) (ints ss++[.int .i64 x])) (hat:vs.ownBlock=some g∨g=W.heap.size) :
  PM X D A w0 S vd vu (.slice (some ⟨g,0,none⟩) (ss.length+1) gc) Y ds us (ss++[x]) c (w7.setCell ⟨A.bP,10,none⟩ (.slice (some ⟨g,0,none⟩) (ss.length+1) gc)):=by
 have hz:=hb.size
 have hr:=h.row.lt
 have hx:=h.obj.lt
 obtain ⟨n1,n2,n3,n4,n5,n6,n7,n8⟩:=h.ne
 have hk:∀ k,k<w.heap.size→vs.ownBlock≠some k→w7.heap[k]?=w.heap[k]?:=fun k hk hn=>(hg.block k (by omega) (fun e=>hn e.symm)).trans (hb.block k hk)
 have XZ:∀ k,k<w.heap.size→vs.ownBlock≠some k→k≠g:=fun k hk hn e=>by
  rcases hat with q|q
  ·exact hn (by rw [e];exact q)
  ·omega
 have MG:¬w0.q g:=by
  rcases hat with q|q
  ·exact h.lo.2.2.2 g (.inr (.inr q))
  ·exact fun c=>by have:=h.ql g c;have:=h.bl.size;omega
 have hgP:g≠A.bP:=fun e=>XZ A.bP hr n4 e.symm
 have hz7:=hg.size
 have YA:(w7.setCell ⟨A.bP,10,none⟩ (.slice (some ⟨g,0,none⟩) (ss.length+1) gc)).heap.size=w7.heap.size:=by simp [World.setCell]
 have zM:(Value.slice (some ⟨g,0,none⟩) (ss.length+1) gc).ownBlock=some g:=rfl
 have hne:∀ k,S k→k≠A.bP:=fun k hS=>(h.sx k hS).1
 exact {
  row:=(h.row.of_block (hk _ hr n4)).set 10 _
  obj:=(h.obj.of_block (hk _ hx n7)).setOther (Ne.symm n1) _
  x:=xo.stay _ _ _ _ _ h.x (fun k hS=>(cI (hne k hS)).trans (hk k (h.xl k hS) (h.sx k hS).2.2.2.2)) (fun _ q=>q) (fun k hS=>by rw [YA];have:=h.xl k hS;omega)
  xl:=fun k hS=>by rw [YA];have:=h.xl k hS;omega
  od:=bZ h.od fun k e=>(cI (fun q=>n2 (by rw [←q];exact e))).trans (hk k (h.od.lt k e).2 (fun q=>(n8 k e).2 q))
  ou:=bZ h.ou fun k e=>(cI (fun q=>n3 (by rw [←q];exact e))).trans (hk k (h.ou.lt k e).2 (fun q=>h.nu k e q))
  os:=by
   rw [List.length_append]
   have e:ints (ss++[x])=ints ss++[.int .i64 x]:=by simp [ints]
   rw [e]
   exact bZ ho fun k e=>cI (by rw [zM] at e;injection e with e;rw [←e];exact hgP)
  sx:=fun k hS=>⟨(h.sx k hS).1,(h.sx k hS).2.1,(h.sx k hS).2.2.1,(h.sx k hS).2.2.2.1,fun e=>by rw [zM] at e;injection e with e;exact XZ k (h.xl k hS) (h.sx k hS).2.2.2.2 e.symm⟩
  nu:=fun k e q=>by
   rw [zM] at q
   injection q with q
   exact XZ k (h.ou.lt k e).2 (fun c=>h.nu k e c) q.symm
  lo:=⟨h.lo.1,h.lo.2.1,h.lo.2.2.1,fun k e=>by
   rcases e with e|e|e
   ·exact h.lo.2.2.2 k (.inl e)
   ·exact h.lo.2.2.2 k (.inr (.inl e))
   ·rw [zM] at e;injection e with e;rw [←e];exact MG⟩
  ql:=h.ql
  bl:=mB (uP (h.bl.trans (Fr.eW hb)) (U:=fun k=>vs.ownBlock=some k) ⟨hg.os,hg.tape,hg.output,hg.size,fun k hk hn=>hg.block k hk (fun e=>hn e.symm)⟩ (fun q e=>h.lo.2.2.2 q (.inr (.inr e)))) h.lo.1 _ _}
theorem zI (n:Nat) (x:Int):(List.range n).map (fun _=>x)=List.replicate n x:=by
 rw [List.map_const',List.length_range]
def aEz (P:M.Plain σ) (tell:σ→List Int) (kd st co:Int) (n cap:Nat) (vn vo:Value) (w:World) (e:Ending) (w':World):Prop :=
 ∃ (D:DL) (A:PL) (X:(Nat→Prop)→aP→World→Prop) (nJ nK nL nM nN nO nP:Nat),e = .returned (.pointer (some ⟨A.bP,0,none⟩))∧A.kd=kd∧A.st=st∧A.co=co∧A.vn=vn∧A.vo=vo∧D.n=n∧D.cap=cap∧wH P tell D A.tE A.bN X nJ nK nL nM nN nO nP∧PS P X D A ⟨w,fun k=>k<w.heap.size⟩ 0 M.Y0 [] (fun _=>none) 0 w'
theorem XD (kd st co:Int) (n cap:Nat) (a1 a2:Option Addr) (l1 c1 l2 c2:Nat) (hn:2≤n) (lG:n≤64) (w:World)
  (LJ:∀ W,Below w.heap.size w W→Calls Tryz.prog 42 #[.agg #[.int .i64 kd,.int .i64 (n:Int),.int .i64 (cap:Int),.int .i64 st,.int .i64 co,.slice a1 l1 c1,.slice a2 l2 c2]] W fun e w'=>∃ b,e = .returned (.tuple #[.pointer (some ⟨b,0,none⟩),.int .i64 0])∧zU P tell n cap W b w') :
  Calls Tryz.prog 68 #[.agg #[.int .i64 kd,.int .i64 (n:Int),.int .i64 (cap:Int),.int .i64 st,.int .i64 co,.slice a1 l1 c1,.slice a2 l2 c2]] w (aEz P tell kd st co n cap (.slice a1 l1 c1) (.slice a2 l2 c2) w):=by
 obtain ⟨ti,EC,zX⟩:=Option.map_eq_some_iff.1 kF
 simp only [Prod.mk.injEq] at zX
 obtain ⟨tM,tN,tP⟩:=zX
 have zY:=aA EC
 have XE:=aA tM
 have yG:=aA tN
 have tD:=aA tP
 clear EC tM tN tP
 have HN:=aA LJ
 clear LJ
 go_enter Tryz.func68,Tryz.ntmps68
 go_wp2_with fail
 generalize hW:World.alloc w _=W
 have hb:Below w.heap.size w W:=by rw [←hW];exact aB w _
 have hr:Row W w.heap.size 26 [.int .i64 kd,.int .i64 (n:Int),.int .i64 (cap:Int),.int .i64 st,.int .i64 co,.slice a1 l1 c1,.slice a2 l2 c2]:=by rw [←hW];exact Row.new' rfl
 have HB:=aA hb
 have HR:=aA hr
 clear hW hb hr
 refine (HN.out W HB.out).mono ?_
 rintro e w1 ⟨b,rfl,tE,bN,S,X,nJ,nK,nL,nM,nN,nO,nP,hxo,hx,hrb,hS,hwb,kS⟩
 have QG:=HR.out.old kS
 obtain ⟨-,q0,q1,q2,q3,q4,q5,q6⟩:=BX QG
 have HXX:=aA (And.intro hxo (And.intro hx (And.intro hrb (And.intro hS hwb))))
 have MF:=aA kS
 clear hxo hx hrb hS hwb kS QG
 go_wp2_with fail
 generalize hW4:World.alloc w1 _=W4
 have cT:Below w1.heap.size w1 W4:=by rw [←hW4];exact aB w1 _
 have hrP:Row W4 w1.heap.size 69 [.pointer (some ⟨b,0,none⟩),.int .i64 kd,.int .i64 (n:Int),.int .i64 (cap:Int),.int .i64 st,.int .i64 co,.slice a1 l1 c1,.slice a2 l2 c2,.slice none 0 0,.slice none 0 0,.slice none 0 0,.int .i64 0]:=by rw [←hW4];exact Row.new' rfl
 obtain ⟨hxo,hx,hrb,hS,hwb⟩:=HXX.out
 obtain ⟨D,FR,FT⟩:∃ D:DL,D.n=n∧D.cap=cap:=⟨⟨0,n,cap,0,0,fun _=>0,fun _=>0,0,0,0,.bool false,.bool false,[],[]⟩,rfl,rfl⟩
 obtain ⟨A,a0,TV,a2',a3,a4,a5,a6,a7,a8⟩:∃ A:PL,A.bP=w1.heap.size∧A.bX=b∧A.tE=tE∧A.bN=bN∧A.kd=kd∧A.st=st∧A.co=co∧A.vn = .slice a1 l1 c1∧A.vo = .slice a2 l2 c2:=⟨⟨w1.heap.size,b,tE,bN,kd,st,co,.slice a1 l1 c1,.slice a2 l2 c2⟩,rfl,rfl,rfl,rfl,rfl,rfl,rfl,rfl,rfl⟩
 have xo:wH P tell D A.tE A.bN X nJ nK nL nM nN nO nP:=by rw [a2',a3];exact hxo D FR FT
 have hz1:=HB.out.size
 have EB:=MF.out.size
 have hz4:=cT.size
 have hrW:=HR.out.lt
 have hxl:∀ k,S k→k<w1.heap.size:=fun k q=>(hS k q).2.1
 have hM:PM X D A ⟨W,fun k=>k<W.heap.size⟩ S (.slice none 0 0) (.slice none 0 0) (.slice none 0 0) M.Y0 [] [] [] 0 W4:=by
  refine ⟨?_,?_,xo.stay _ _ _ _ _ hx (fun k q=>cT.block k (hxl k q)) (fun _ q=>q) (fun k q=>by have:=hxl k q;omega),fun k q=>by have:=hxl k q;omega,World.ownsRow_nil _ _ _ _,World.ownsRow_nil _ _ _ _,World.ownsRow_nil _ _ _ _,fun k q=>⟨by have:=hxl k q;omega,by rw [TV];exact (hS k q).2.2,fun c=>(by cases c),fun c=>(by cases c),fun c=>(by cases c)⟩,fun k c=>(by cases c),⟨by show ¬_<_;omega,by show ¬_<_;omega,fun k q=>by have:=(hS k q).1;show ¬_<_;omega,fun k q=>by rcases q with c|c|c<;>cases c⟩,fun k q=>q,Fr.eW (Below.next MF.out cT MF.out.size)⟩
  ·unfold ZJ;rw [a0,TV,a4,a5,a6,a7,a8,FR,FT];exact hrP
  ·rw [TV,a2',a3];exact hrb.old cT
 have HM:=aA hM
 have HX:=aA xo
 have HR4:=aA ((HR.out.old MF.out))
 have HA:=aA (And.intro a4 (And.intro a5 (And.intro a6 (And.intro a7 (And.intro a8 (And.intro FR FT))))))
 have HBP:=aA a0
 clear hW4 cT hrP hxo hx hrb hS hwb hxl hM xo a0 TV a2' a3 a4 a5 a6 a7 a8 FR FT q0 q1 q2 q3 q4 q5 q6 HXX
 rw [←HBP.out]
 go_wp2_with fail
 go_loopw [6] (fun i w'=>∃ k:Nat,k≤n∧i = .int .i64 (k:Int)∧∃ vu vs,PM X D A ⟨W,fun k=>k<W.heap.size⟩ S (.slice none 0 0) vu vs M.Y0 [] (List.replicate k (-1)) (List.replicate k 0) 0 w') (fun i _=>n-(intOf i).toNat)
 case atStart=>exact ⟨0,Nat.zero_le _,rfl,_,_,HM.out⟩
 case round =>
  obtain ⟨k,hk,rfl,vu,vs,hm⟩:=hrel
  have hc1:wr.cell? ⟨w.heap.size,1,none⟩=some (.int .i64 (n:Int)):=(HR.out.of_block (hm.bl.block _ HR.out.lt (fun q=>q HR.out.lt))).cell_of rfl
  by_cases hlt:k<n
  ·have hlt':(k:Int)<(n:Int):=by omega
   have YE:(List.replicate k (-1:Int)).length=k:=by simp
   have EL:(List.replicate k (0:Int)).length=k:=by simp
   obtain ⟨⟨ua,uc,rfl⟩,-⟩:=fJ hm.ou
   have QK:=aA hm
   clear hm
   rw [YE] at QK
   have HOU:=aA (show wr.ownsRow 0 3 1 (.slice ua k uc) k (ints (List.replicate k (-1))) by have:=QK.out.ou;rwa [YE] at this)
   have HUL:=aA YE
   have HSL:=aA EL
   clear YE EL
   have e9:wr.cell? ⟨A.bP,9,none⟩=some (.slice ua k uc):=QK.out.row.cell_of rfl
   obtain ⟨-,-,n3,n4,-⟩:=QK.out.ne
   have TP:=QK.out.row.lt
   go_wp2_with (at_builtin;refine wpList_append_lies _ rfl (.tmp 32) (.tmp 33) 22 rfl 0 3 ti (.int .i64 0) 1 8 Tryz.underlying22 zY.out XE.out yG.out tD.out rfl (by decide) (.slice ua k uc) k (ints (List.replicate k (-1))) rfl (HOU.out.alloc _) ⟨wr.heap.size,0,none⟩ 1 1 [.int .i64 (-1)] rfl rfl ?_ (by simp [Value.oneCell']) (by decide) (by unfold maxLen;omega) (by omega) (Nat.zero_le _) (wr.heap.size+1) (by simp) ?_)
   ·exact World.news_of_block (Row.new wr _ _)
   ·intro g4 SP w4 hown mR hat tF
    have aEB:some A.bP≠(Value.slice ua k uc).ownBlock:=fun q=>n3 q.symm
    have hr4:Row w4 A.bP 69 _:=(QK.out.row.old (aB wr (.cells #[.int .i64 (-1)] 3))).of_block (mR.block _ (by simp;omega) aEB)
    have k9:w4.cell? ⟨A.bP,9,none⟩=some (.slice ua k uc):=hr4.cell_of rfl
    have f9:=hr4.frozen 9
    have hM5:=QK.out.aEx HX.out (x:=-1) (aB wr (.cells #[.int .i64 (-1)] 3)) mR (g:=g4) (gc:=SP) (by rw [HUL.out];exact hown) (by rcases hat with q|q;exact .inl q;exact .inr (by rw [q];simp))
    rw [HUL.out] at hM5
    have EE:=aA hM5
    clear hown mR hat tF hM5 hr4 e9 aEB n3 n4 TP QK HOU hc1
    go_upto_region 9 with fail
    generalize yY:World.setCell w4 ⟨A.bP,9,none⟩ (.slice (some ⟨g4,0,none⟩) (k+1) SP)=W5 at *
    clear yY k9 f9
    obtain ⟨⟨sa,sc,rfl⟩,-⟩:=fJ EE.out.os
    rw [HSL.out] at EE
    have HOS:=aA (show W5.ownsRow 0 3 1 (.slice sa k sc) k (ints (List.replicate k 0)) by have:=EE.out.os;rwa [HSL.out] at this)
    have VK:W5.cell? ⟨A.bP,10,none⟩=some (.slice sa k sc):=EE.out.row.cell_of rfl
    obtain ⟨-,-,-,n4,-⟩:=EE.out.ne
    have TP:=EE.out.row.lt
    go_wp2_with (at_builtin;refine wpList_append_lies _ rfl (.tmp 41) (.tmp 42) 22 rfl 0 3 ti (.int .i64 0) 1 8 Tryz.underlying22 zY.out XE.out yG.out tD.out rfl (by decide) (.slice sa k sc) k (ints (List.replicate k 0)) rfl (HOS.out.alloc _) ⟨W5.heap.size,0,none⟩ 1 1 [.int .i64 0] rfl rfl ?_ (by simp [Value.oneCell']) (by decide) (by unfold maxLen;omega) (by omega) (Nat.zero_le _) (W5.heap.size+1) (by simp) ?_)
    ·exact World.news_of_block (Row.new W5 _ _)
    ·intro g6 aHR w6 hown mR hat aHS
     have aAO:some A.bP≠(Value.slice sa k sc).ownBlock:=fun q=>n4 q.symm
     have ZV:Row w6 A.bP 69 _:=(EE.out.row.old (aB W5 (.cells #[.int .i64 0] 3))).of_block (mR.block _ (by simp;omega) aAO)
     have k10:w6.cell? ⟨A.bP,10,none⟩=some (.slice sa k sc):=ZV.cell_of rfl
     have f10:=ZV.frozen 10
     have hM7:=EE.out.aEy HX.out (x:=0) (aB W5 (.cells #[.int .i64 0] 3)) mR (g:=g6) (gc:=aHR) (by rw [HSL.out];exact hown) (by rcases hat with q|q;exact .inl q;exact .inr (by rw [q];simp))
     rw [HSL.out,show List.replicate k (-1:Int)++[-1]=List.replicate (k+1) (-1) from (List.replicate_succ' ).symm,show List.replicate k (0:Int)++[0]=List.replicate (k+1) 0 from (List.replicate_succ').symm] at hM7
     have FI:=aA hM7
     clear hown mR hat aHS hM7 ZV VK aAO n4 TP EE HOS
     go_wp2
     go_roundw
     case rel=>exact ⟨k+1,by omega,by go_num,_,_,FI.out⟩
     case measure=>simp [intOf];omega
  ·have hlt':¬(k:Int)<(n:Int):=by omega
   have hkn:k=n:=by omega
   have QK:=aA hm
   clear hm
   go_wp2
   go_ret
   obtain ⟨b4,b5,b6,b7,b8,d1,d2⟩:=HA.out
   refine ⟨D,A,X,nJ,nK,nL,nM,nN,nO,nP,rfl,b4,b5,b6,b7,b8,d1,d2,HX.out,S,.slice none 0 0,vu,vs,?_,M.PI.new P D.n D.cap,wG.new D,Nat.le_refl _⟩
   have hm:=QK.out.IZ ⟨w,fun k=>k<w.heap.size⟩ (fun k q=>⟨Nat.lt_of_lt_of_le q HB.out.size,q⟩) (Fr.eW HB.out)
   rw [hkn,←d1] at hm
   have e1:zO D.n (fun _=>none)=List.replicate D.n (-1):=zI _ _
   have e2:GR D.n M.Y0=List.replicate D.n 0:=by show (List.range D.n).map (fun _=>((([]:List M.Op).length:Nat):Int))=_;exact zI D.n 0
   rw [e1,e2]
   exact hm
end
theorem aB9 (n cap:Nat):aBn n cap=((M.bound n cap:Nat):Int):=by
 unfold aBn M.bound M.vR M.aQ M.tw
 omega
section
variable {σ:Type} {P:M.Plain σ} {tell:σ→List Int} {D:DL} {X:(Nat→Prop)→aP→World→Prop} {A:PL} {S:Nat→Prop} {w w1:World} {Y Y':aP} {ds:List Dd} {c:Nat} {nJ nK nL nM nN nO nP K t:Nat} {u:Nat→Option Nat}
theorem PS.bel (h:PS P X D A ⟨w,fun k=>k<w.heap.size⟩ K Y ds u c w1):Below w.heap.size w w1:=by
 obtain ⟨S,vd,vu,vs,hm,-⟩:=h
 exact ⟨hm.bl.os,hm.bl.tape,hm.bl.output,hm.bl.size,fun k hk=>hm.bl.block k hk (fun q=>q hk)⟩
theorem PG.bel (h:PG P X D A ⟨w,fun k=>k<w.heap.size⟩ K w1):Below w.heap.size w w1:=by
 obtain ⟨Y,ds,u,c,h⟩:=h
 exact h.bel
def aEC (P:M.Plain σ) (tell:σ→List Int) (kd st co:Int) (n cap:Nat) (vn vo:Value) (K:Nat) (w:World) (e:Ending) (w':World):Prop :=
 ∃ (D:DL) (A:PL) (X:(Nat→Prop)→aP→World→Prop) (nJ nK nL nM nN nO nP:Nat),e = .returned (.pointer (some ⟨A.bP,0,none⟩))∧A.kd=kd∧A.st=st∧A.co=co∧A.vn=vn∧A.vo=vo∧D.n=n∧D.cap=cap∧wH P tell D A.tE A.bN X nJ nK nL nM nN nO nP∧PG P X D A ⟨w,fun k=>k<w.heap.size⟩ K w'
theorem XF (kd st co:Int) (n cap:Nat) (a1 a2:Option Addr) (l1 c1 l2 c2:Nat) (hn:2≤n) (lG:n≤64) (aAb:cap≤64) (l:List wZ) (hl:l.length≤200000) (hi:∀ x∈l,tU x.t∧tU x.n) (s:Value) (w:World) (hs:Scr w s l)
  (LJ:∀ W,Below w.heap.size w W→Calls Tryz.prog 42 #[.agg #[.int .i64 kd,.int .i64 (n:Int),.int .i64 (cap:Int),.int .i64 st,.int .i64 co,.slice a1 l1 c1,.slice a2 l2 c2]] W fun e w'=>∃ b,e = .returned (.tuple #[.pointer (some ⟨b,0,none⟩),.int .i64 0])∧zU P tell n cap W b w') :
  Calls Tryz.prog 33 #[.agg #[.int .i64 kd,.int .i64 (n:Int),.int .i64 (cap:Int),.int .i64 st,.int .i64 co,.slice a1 l1 c1,.slice a2 l2 c2],s] w (aEC P tell kd st co n cap (.slice a1 l1 c1) (.slice a2 l2 c2) (4000+4000*l.length) w):=by
 have HN:=aA LJ
 obtain ⟨sa,sc,rfl,hs⟩:=hs
 have HS:=aA hs
 have HI:=aA hi
 clear LJ hs hi
 go_enter Tryz.func33,Tryz.ntmps33
 go_wp2_with fail
 generalize hW:World.alloc w _=W
 have hb:Below w.heap.size w W:=by rw [←hW];exact aB w _
 have HB:=aA hb
 clear hW hb
 refine (XD (P:=P) (tell:=tell) kd st co n cap a1 a2 l1 c1 l2 c2 hn lG W (fun W' h'=>HN.out W' (Below.next HB.out h' HB.out.size))).mono ?_
 rintro e w1 ⟨D,A,X,nJ,nK,nL,nM,nN,nO,nP,rfl,d1,d2,d3,d4,d5,d6,d7,xo,hp⟩
 have HA:=aA (And.intro d1 (And.intro d2 (And.intro d3 (And.intro d4 (And.intro d5 (And.intro d6 d7))))))
 have FR:2≤D.n:=by rw [d6];exact hn
 have OO:D.n≤64:=by rw [d6];exact lG
 have FT:D.cap≤64:=by rw [d7];exact aAb
 have hm:=xo.mBo
 have hcB:=xo.cBo
 have HX:=aA xo
 have HBE:=aA (KR xo hp OO (t:=0) (by omega) ⟨1,5,6⟩ (by omega))
 clear hp xo d1 d2 d3 d4 d5 d6 d7 HN
 go_wp2_with fail
 refine HBE.out.mono ?_
 rintro e w2 ⟨rfl,ds2,u2,qC⟩
 have hY1:VE D.n M.Y0 ((0:Nat):Int) ⟨1,5,6⟩=M.bG M.Y0 0 ⟨1,5,6⟩:=by unfold VE;rw [if_pos ⟨by omega,by omega⟩,Int.toNat_natCast,if_pos (show (M.Y0.th 0).part=0 from rfl)]
 rw [hY1] at qC
 have hrk:=M.vY D.n D.cap M.Y0 0 ⟨1,5,6⟩
 have TP:=M.BW OO FT
 have aHU:=qC
 obtain ⟨S2,vd2,vu2,vs2,hm2,-⟩:=aHU
 have c0:w2.cell? ⟨A.bP,0,none⟩=some (.pointer (some ⟨A.bX,0,none⟩)):=hm2.row.cell_of rfl
 have cx:w2.cell? ⟨A.bX,0,none⟩=some (.iface A.tE (.pointer (some ⟨A.bN,0,none⟩))):=hm2.obj.cell_of rfl
 have HBO:=aA (HX.out.bo _ _ _ hm2.x)
 rw [aB9] at HBO
 have QO:=aA qC
 have HRK:=aA hrk
 clear hm2 qC hY1 hrk
 obtain ⟨B,hB⟩:∃ B,B=M.bound D.n D.cap:=⟨_,rfl⟩
 rw [←hB] at HBO HRK TP
 have HBB:=aA hB
 clear hB
 go_wp2_with fail
 refine HBO.out.mono ?_
 rintro e w3 ⟨rfl,cE⟩
 have JY:=aA (LI HX.out (QO.out.below HX.out cE) OO FT (t:=0) (by omega) B (by omega))
 clear cE c0 cx hm hcB HBO
 go_wp2_with fail
 refine JY.out.mono ?_
 rintro e w4 ⟨rfl,Y4,ds4,u4,c4,hp4,hr4⟩
 have tG:(Y4.th 0).part=0:=by
  rcases hr4 with q|q
  ·exact q
  ·by_cases q0:(Y4.th 0).part=0
   ·exact q0
   ·obtain ⟨S4,_,_,_,_,YQ,-⟩:=hp4
    have h1:=M.wV (YQ.yi.ok.th 0 (by omega)) q0
    have h2:=HRK.out
    omega
 obtain ⟨gu,cu,x,e9,cut,x0,-⟩:=hp4.under (t:=0) (by omega)
 have hx:x = -1:=x0 tG
 subst hx
 have hD0:(0:Int)<(D.n:Int):=by omega
 have HP4:=aA (show PG P X D A ⟨W,fun k=>k<W.heap.size⟩ 4000 w4 from ⟨_,_,_,_,hp4.mono (by omega)⟩)
 clear hr4 hp4 tG x0 JY QO HRK HBB TP
 go_wp2_with fail
 clear e9 cut
 go_loopw [9] (fun i w'=>∃ k:Nat,k≤l.length∧i = .int .i64 (k:Int)∧PG P X D A ⟨W,fun k=>k<W.heap.size⟩ (4000+4000*k) w') (fun i _=>l.length-(intOf i).toNat)
 case atStart=>exact ⟨0,Nat.zero_le _,rfl,HP4.out⟩
 case round =>
  obtain ⟨k,hk,rfl,hJ⟩:=hrel
  have hB:=Below.next HB.out hJ.bel HB.out.size
  by_cases hlt:k<l.length
  ·have hlt':(k:Int)<(l.length:Int):=by omega
   have hk0:(0:Int)≤(k:Int):=by omega
   obtain ⟨g,off,rfl,hcs⟩:=HS.out (by omega)
   have he:l[k]?=some l[k]:=List.getElem?_eq_getElem hlt
   obtain ⟨d0,d1,d2,d3,d4,d5⟩:=hcs k _ he
   obtain ⟨i1,i2⟩:=HI.out _ (List.mem_of_getElem? he)
   generalize l[k]=x at he d0 d1 d2 d3 d4 d5 i1 i2
   replace d0:=cell_later hB d0
   replace d1:=cell_later hB d1
   replace d2:=cell_later hB d2
   replace d3:=cell_later hB d3
   replace d4:=cell_later hB d4
   replace d5:=cell_later hB d5
   have QU:=aA (aB8 HX.out hJ FR OO FT x i1 i2 (by omega))
   unfold wZ.val at QU
   clear hB hJ hcs he i1 i2
   go_wp2_with fail
   refine QU.out.mono ?_
   rintro e w2 ⟨rfl,hJ2⟩
   have HJ2:=aA hJ2
   clear d0 d1 d2 d3 d4 d5 hJ2
   go_wp2
   go_roundw
   case rel=>exact ⟨k+1,by omega,by go_num,HJ2.out.mono (by omega)⟩
   case measure=>simp [intOf];omega
  ·have hlt':¬(k:Int)<(l.length:Int):=by omega
   have hkl:k=l.length:=by omega
   have HJ:=aA hJ
   clear hB hJ
   go_wp2
   go_ret
   obtain ⟨b4,b5,b6,b7,b8,d1,d2⟩:=HA.out
   refine ⟨D,A,X,nJ,nK,nL,nM,nN,nO,nP,rfl,b4,b5,b6,b7,b8,d1,d2,HX.out,?_⟩
   rw [←hkl]
   exact HJ.out.IZ ⟨w,fun k=>k<w.heap.size⟩ (fun k q=>⟨Nat.lt_of_lt_of_le q HB.out.size,q⟩) (Fr.eW HB.out)
end
end Go.Proofs.YtefjhnhdagolhaaGreat
namespace Go.Proofs.YtefjhnhdagolhaaGreat
open Go.RowKit
attribute [local go_sem ↓] Go.wp_at_zero Go.wp_at_succ
def YR (b:Bool) (kind:Int):Int:=if b then 5 else 1+pk kind 4
theorem XG (b:Bool) (kind th cap st co:Int) (a1 a2:Option Addr) (l1 c1 l2 c2:Nat) (ik:tU kind) (it:tU th) (ic:tU cap) (w:World) :
  Calls Tryz.prog 34 #[.agg #[.int .i64 kind,.int .i64 th,.int .i64 cap,.int .i64 st,.int .i64 co,.slice a1 l1 c1,.slice a2 l2 c2],.bool b] w fun e w'=>e = .returned (.agg #[.int .i64 (YR b kind),.int .i64 (2+pk th 19),.int .i64 (pk cap 65),.int .i64 st,.int .i64 co,.slice a1 l1 c1,.slice a2 l2 c2])∧Below w.heap.size w w':=by
 obtain ⟨p0,p1⟩:=gR th 19 (by decide)
 obtain ⟨q0,q1⟩:=gR cap 65 (by decide)
 obtain ⟨r0,r1⟩:=gR kind 4 (by decide)
 have HT:=aA (fun W:World=>rQ th 19 W (by decide) (by decide) it.1 it.2)
 have HC:=aA (fun W:World=>rQ cap 65 W (by decide) (by decide) ic.1 ic.2)
 have HK:=aA (fun W:World=>rQ kind 4 W (by decide) (by decide) ik.1 ik.2)
 have hw1:IntKind.i64.wrap (2+pk th 19)=2+pk th 19:=dP _ (by omega) (by omega)
 have hw2:IntKind.i64.wrap (1+pk kind 4)=1+pk kind 4:=dP _ (by omega) (by omega)
 have HKD:=aA (show YR b kind=if b then 5 else 1+pk kind 4 from rfl)
 generalize YR b kind=kd at *
 generalize pk th 19=pt at *
 generalize pk cap 65=pc at *
 generalize pk kind 4=pq at *
 go_enter Tryz.func34,Tryz.ntmps34
 go_upto_region 1 with fail
 generalize hW:World.alloc (World.alloc w _) _=W
 have hb0:Below w.heap.size w W:=by rw [←hW];exact (aB w _).alloc (by simp) _
 have rB:Row W w.heap.size 26 [.int .i64 kind,.int .i64 th,.int .i64 cap,.int .i64 st,.int .i64 co,.slice a1 l1 c1,.slice a2 l2 c2]:=by rw [←hW];exact (Row.new' rfl).alloc _
 have rR:Row W (w.heap.size+1) 26 [.int .i64 0,.int .i64 0,.int .i64 0,.int .i64 0,.int .i64 0,.slice none 0 0,.slice none 0 0]:=by rw [←hW];exact Row.new' (by simp)
 clear hW
 have x1:=rB.cell_of (i:=1) rfl
 have y1:=rB.frozen 1
 have hne:w.heap.size+1≠w.heap.size:=by omega
 have s1:=rB.set 1 (.int .i64 (2+pt))
 have t1:=rR.setOther (a:=⟨w.heap.size,1,none⟩) hne (.int .i64 (2+pt))
 have b1:=Below.setCell (p:=⟨w.heap.size,1,none⟩) hb0 (Nat.le_refl _) (.int .i64 (2+pt))
 have H1:=aA (And.intro s1 (And.intro t1 b1))
 clear rB rR hb0 s1 t1 b1
 go_wp2_with fail
 refine (HT.out _).mono ?_
 rintro e w' ⟨rfl,rfl⟩
 go_upto_region 2 with fail
 generalize World.setCell w' ⟨w.heap.size,1,none⟩ (.int .i64 (2+pt))=W1 at *
 obtain ⟨s1,t1,b1⟩:=H1.out
 clear x1 y1
 have x2:=s1.cell_of (i:=2) rfl
 have y2:=s1.frozen 2
 have H2:=aA (And.intro (s1.set 2 (.int .i64 pc)) (And.intro (t1.setOther (a:=⟨w.heap.size,2,none⟩) hne (.int .i64 pc)) (Below.setCell (p:=⟨w.heap.size,2,none⟩) b1 (Nat.le_refl _) (.int .i64 pc))))
 clear s1 t1 b1 H1
 go_wp2_with fail
 refine (HC.out _).mono ?_
 rintro e w' ⟨rfl,rfl⟩
 go_upto_region 3 with fail
 generalize World.setCell w' ⟨w.heap.size,2,none⟩ (.int .i64 pc)=W2 at *
 obtain ⟨s1,t1,b1⟩:=H2.out
 clear x2 y2
 have x0:=s1.cell_of (i:=0) rfl
 have y0:=s1.frozen 0
 have H3:=aA (And.intro (s1.set 0 (.int .i64 (1+pq))) (And.intro (t1.setOther (a:=⟨w.heap.size,0,none⟩) hne (.int .i64 (1+pq))) (Below.setCell (p:=⟨w.heap.size,0,none⟩) b1 (Nat.le_refl _) (.int .i64 (1+pq)))))
 clear s1 t1 b1 H2
 go_wp2_with fail
 refine (HK.out _).mono ?_
 rintro e w' ⟨rfl,rfl⟩
 go_upto_region 4 with fail
 generalize World.setCell w' ⟨w.heap.size,0,none⟩ (.int .i64 (1+pq))=W3 at *
 obtain ⟨s1,t1,b1⟩:=H3.out
 clear x0 y0 H3
 have fin:∀ (W4:World) (k:Int),Row W4 w.heap.size 26 [.int .i64 k,.int .i64 (2+pt),.int .i64 pc,.int .i64 st,.int .i64 co,.slice a1 l1 c1,.slice a2 l2 c2]→Row W4 (w.heap.size+1) 26 [.int .i64 0,.int .i64 0,.int .i64 0,.int .i64 0,.int .i64 0,.slice none 0 0,.slice none 0 0]→Below w.heap.size w W4→Row (W4.setCells (w.heap.size+1) 0 [.int .i64 k,.int .i64 (2+pt),.int .i64 pc,.int .i64 st,.int .i64 co,.slice a1 l1 c1,.slice a2 l2 c2]) (w.heap.size+1) 26 [.int .i64 k,.int .i64 (2+pt),.int .i64 pc,.int .i64 st,.int .i64 co,.slice a1 l1 c1,.slice a2 l2 c2]∧Below w.heap.size w (W4.setCells (w.heap.size+1) 0 [.int .i64 k,.int .i64 (2+pt),.int .i64 pc,.int .i64 st,.int .i64 co,.slice a1 l1 c1,.slice a2 l2 c2]):=fun W4 k h1 h2 h3=>⟨((((((h2.set 0 _).set 1 _).set 2 _).set 3 _).set 4 _).set 5 _).set 6 _,eI (by omega) _ _ _ h3⟩
 have HF:=aA fin
 clear fin
 cases b with
 |true =>
  have ek:kd=5:=HKD.out
  subst ek
  have x0:=s1.cell_of (i:=0) rfl
  have y0:=s1.frozen 0
  have H4:=aA (And.intro (s1.set 0 (.int .i64 5)) (And.intro (t1.setOther (a:=⟨w.heap.size,0,none⟩) hne (.int .i64 5)) (Below.setCell (p:=⟨w.heap.size,0,none⟩) b1 (Nat.le_refl _) (.int .i64 5))))
  clear s1 t1 b1
  go_upto_region 6 with fail
  generalize World.setCell W3 ⟨w.heap.size,0,none⟩ (.int .i64 5)=W4 at *
  obtain ⟨s1,t1,b1⟩:=H4.out
  clear x0 y0 H4
  obtain ⟨-,v0,v1,v2,v3,v4,v5,v6⟩:=BX s1
  obtain ⟨-,z0,z1,z2,z3,z4,z5,z6⟩:=BX t1
  have y0:=t1.frozen 0
  have y1:=t1.frozen 1
  have y2:=t1.frozen 2
  have y3:=t1.frozen 3
  have y4:=t1.frozen 4
  have y5:=t1.frozen 5
  have y6:=t1.frozen 6
  have HE:=aA (HF.out W4 5 s1 t1 b1)
  clear s1 t1 b1 HF
  go_wp2
  exact bodyPost_ret (v:=.agg #[.int .i64 5,.int .i64 (2+pt),.int .i64 pc,.int .i64 st,.int .i64 co,.slice a1 l1 c1,.slice a2 l2 c2]) (by simp [results,Tryz.results34,go_sem,z0,z1,z2,z3,z4,z5,z6]) rfl ⟨rfl,HE.out.2⟩
 |false =>
  have ek:kd=1+pq:=HKD.out
  subst ek
  obtain ⟨-,v0,v1,v2,v3,v4,v5,v6⟩:=BX s1
  obtain ⟨-,z0,z1,z2,z3,z4,z5,z6⟩:=BX t1
  have y0:=t1.frozen 0
  have y1:=t1.frozen 1
  have y2:=t1.frozen 2
  have y3:=t1.frozen 3
  have y4:=t1.frozen 4
  have y5:=t1.frozen 5
  have y6:=t1.frozen 6
  have HE:=aA (HF.out W3 (1+pq) s1 t1 b1)
  clear s1 t1 b1 HF
  go_wp2
  exact bodyPost_ret (v:=.agg #[.int .i64 (1+pq),.int .i64 (2+pt),.int .i64 pc,.int .i64 st,.int .i64 co,.slice a1 l1 c1,.slice a2 l2 c2]) (by simp [results,Tryz.results34,go_sem,z0,z1,z2,z3,z4,z5,z6]) rfl ⟨rfl,HE.out.2⟩
end Go.Proofs.YtefjhnhdagolhaaGreat
