import Derived.Test.YtefjhnhdagolhabGreatRows
import Derived.Test.YtefjhnhdagolhabGreatQ14
import Derived.Test.YtefjhnhdagolhabGreatQ13
import Derived.Test.YtefjhnhdagolhabGreatQ10
import Derived.Test.YtefjhnhdagolhabGreatQ34
import Derived.Test.YtefjhnhdagolhabGreatQ12
import Derived.Test.YtefjhnhdagolhabGreatQ02
import Derived.Test.YtefjhnhdagolhabGreatQ33
import Derived.Deep.AppendLies
import Derived.Test.YtefjhnhdagolhabGreatQ11
import Derived.Deep.RegionHeld3
import Derived.Deep.Cut
import Derived.Deep.LoopGhost
import Derived.Deep.OwnRows
set_option maxHeartbeats 4000000
set_option maxRecDepth 20000
namespace Go.Proofs.YtefjhnhdagolhabGreat
open Go.ChangeShapes Go.WideShapes Go.ChangeAt Go.RowKit Go.Joins Go.Deep
theorem PS:Tryz.prog.cellsOf 46=3:=by kernel_rfl
theorem RK {W:World} {base:Nat} {a:Addr} {n:Nat} {cs:List Value} (h:W.cells? base a n=some cs) (i:Nat) (hi:i<n):W.cell? (a.add i)=cs[i]?:=by
 unfold World.cells? at h
 split at h
 ·exact mapM_some_get h i i (by simp [hi])
 ·cases h
theorem wf_i64 {x:Int} (h:(Lit.int .i64 x).wf=true):MZ x:=by
 have m1:IntKind.min .i64 = -9223372036854775808:=by decide +kernel
 have m2:IntKind.max .i64=9223372036854775807:=by decide +kernel
 simp [Lit.wf] at h
 unfold MZ
 omega
section
variable {H:Type} {enc:TypeId×Value→H} {W:World}
theorem FA (k:Nat) (l:List (DataW H)) (h:∀ d∈l,k≤Rows.uptoBulk d):k*l.length≤Rows.uptoBulkAll l:=by
 induction l with
 |nil=>simp [Rows.uptoBulkAll]
 |cons x r ih =>
  have h1:=h x (by simp)
  have h2:=ih fun d hd=>h d (by simp [hd])
  simp only [Rows.uptoBulkAll,List.length_cons,Nat.mul_add,Nat.mul_one]
  omega
end
end Go.Proofs.YtefjhnhdagolhabGreat
namespace Go.Proofs.YtefjhnhdagolhabGreat
open Go.RowKit
open M (aH aC aE aT bJ cnt marks tagged num YI)
section
variable {σ:Type}
structure EF (P:M.Plain σ) (tell:σ→List Int) (D:DL) (tE:TypeId) (bN:Nat) (X:(Nat→Prop)→aT→World→Prop) (FX FY FZ:Nat):Prop where
 mDo:∀ W,(method 466 tE (.pointer (some ⟨bN,0,none⟩)) "Do").run Tryz.prog W = .ok (FX,.pointer (some ⟨bN,0,none⟩)) W
 mOr:∀ W,(method 466 tE (.pointer (some ⟨bN,0,none⟩)) "Order").run Tryz.prog W = .ok (FY,.pointer (some ⟨bN,0,none⟩)) W
 mTe:∀ W,(method 466 tE (.pointer (some ⟨bN,0,none⟩)) "State").run Tryz.prog W = .ok (FZ,.pointer (some ⟨bN,0,none⟩)) W
 cDo:∀ (a b:Value) (W:World),(callFunc FX #[.pointer (some ⟨bN,0,none⟩),a,b]).run Tryz.prog W = .ok (.enter FX #[.pointer (some ⟨bN,0,none⟩),a,b]) W
 cOr:∀ W,(callFunc FY #[.pointer (some ⟨bN,0,none⟩)]).run Tryz.prog W = .ok (.enter FY #[.pointer (some ⟨bN,0,none⟩)]) W
 cTe:∀ W,(callFunc FZ #[.pointer (some ⟨bN,0,none⟩)]).run Tryz.prog W = .ok (.enter FZ #[.pointer (some ⟨bN,0,none⟩)]) W
 yi:∀ S Y w,X S Y w→YI P D.n D.cap Y
 lt:∀ S Y w,X S Y w→∀ k,S k→k<w.heap.size
 stay:∀ S S' Y w w',X S Y w→(∀ k,S k→w'.heap[k]?=w.heap[k]?)→(∀ k,S k→S' k)→(∀ k,S' k→k<w'.heap.size)→X S' Y w'
 dd:∀ S Y w x (o:M.Op) K,X S Y w→zS D K Y→K+6000≤1000000000→Calls Tryz.prog FX #[.pointer (some ⟨bN,0,none⟩),.int .i64 x,.agg #[.int .i64 o.c,.int .i64 o.a,.int .i64 o.b]] w fun e w'=>e = .returned (tri (YC P D.n D.cap Y x o))∧zH X S w (doZ D.n D.cap Y x o) w'
 or:∀ S Y w,X S Y w→zS D 1000000000 Y→Calls Tryz.prog FY #[.pointer (some ⟨bN,0,none⟩)] w fun e w'=>∃ v,e = .returned v∧w'.ownsRow w.heap.size 51 3 v Y.order.length (dQ Y.order)∧Below w.heap.size w w'
 te:∀ S Y w,X S Y w→zS D 1000000000 Y→Calls Tryz.prog FZ #[.pointer (some ⟨bN,0,none⟩)] w fun e w'=>∃ v,e = .returned v∧w'.ownsRow w.heap.size 3 1 v (tell (tF P Y Y.order.length).st).length (ints (tell (tF P Y Y.order.length).st))∧Below w.heap.size w w'
def vD (P:M.Plain σ) (tell:σ→List Int) (n cap:Nat) (w:World) (b:Nat) (w':World):Prop :=
 ∃ (tE:TypeId) (bN:Nat) (S:Nat→Prop) (X:(Nat→Prop)→aT→World→Prop) (FX FY FZ:Nat),(∀ D:DL,D.n=n→D.cap=cap→EF P tell D tE bN X FX FY FZ)∧X S M.Y0 w'∧Row w' b 44 [.iface tE (.pointer (some ⟨bN,0,none⟩))]∧(∀ k,S k→w.heap.size≤k∧k<w'.heap.size∧k≠b)∧w.heap.size≤b∧Below w.heap.size w w'
end
end Go.Proofs.YtefjhnhdagolhabGreat
namespace Go.Proofs.YtefjhnhdagolhabGreat
open Go.RowKit
open M (aH aC aE aT bJ Dd PI)
theorem VN {w:World} {base:Nat} {e:TypeId} {size:Nat} {v:Value} {n:Nat} {xs:List Value} (h:w.ownsRow base e size v n xs) {g:Nat} (hg:v.ownBlock=some g) (k:Nat) (u:Value):(w.setCell ⟨g,k,none⟩ u).ownsRow base e size v n (xs.set k u):=by
 rcases h.2 with ⟨rfl,-⟩|⟨g',cap,cur,rfl,h3,h4,h5,h6,h7,h8⟩
 ·cases hg
 ·have:g'=g:=by simpa [Value.ownBlock] using hg
  subst this
  refine ⟨by rw [List.length_set];exact h.1,.inr ⟨g',cap,cur.set! k u,rfl,h3,?_,h5,h6,by simpa using h7,?_⟩⟩
  ·simp [World.setCell,Array.getElem?_modify,h4]
  ·rw [←h8]
   simp [List.take_set]
theorem KT {w:World} {base:Nat} {e:TypeId} {size:Nat} {v:Value} {n:Nat} {xs:List Value} (h:w.ownsRow base e size v n xs) {g:Nat} (hg:v.ownBlock=some g) (k:Nat):w.frozen? ⟨g,k,none⟩=false:=by
 rcases h.2 with ⟨rfl,-⟩|⟨g',cap,cur,rfl,h3,h4,-⟩
 ·cases hg
 ·have:g'=g:=by simpa [Value.ownBlock] using hg
  subst this
  simp [World.frozen?,h4]
structure QW where
 w:World
 q:Nat→Prop
structure PL where
 bP:Nat
 bX:Nat
 tE:TypeId
 bN:Nat
 kd:Int
 st:Int
 co:Int
 vn:Value
 vo:Value
section
variable {σ:Type} {P:M.Plain σ} {tell:σ→List Int} {D:DL} {X:(Nat→Prop)→aT→World→Prop} {A:PL} {S:Nat→Prop} {w0:QW} {w w1:World} {vd vu vs:Value} {Y Y':aT} {ds:List Dd} {us ss:List Int} {c:Nat} {fBe fSt fAn FX FY FZ fBo:Nat}
end
end Go.Proofs.YtefjhnhdagolhabGreat
namespace Go.Proofs.YtefjhnhdagolhabGreat.M
section
variable {σ:Type} {P:Plain σ} {n cap t:Nat} {Y:aT}
theorem CW (hn:0<n) (ht:t<n):∀ (f:Nat) (Y:aT),YI P n cap Y→YS Y.bs→(Y.th t).mL n cap≤f →
  ((fH n cap t f Y).th t).part=0∧YI P n cap (fH n cap t f Y)∧YS (fH n cap t f Y).bs∧(∀ k,k≠t→(fH n cap t f Y).th k=Y.th k)∧((fH n cap t f Y).th t).ops=(Y.th t).ops∧∃ XC,(fH n cap t f Y).bs=Y.bs++XC
 |0,Y,h,hb,hr=>by
  have hp:(Y.th t).part=0:=by
   by_cases hp:(Y.th t).part=0
   ·exact hp
   ·have:=BO (h.ok.th t ht) hp;omega
  exact ⟨hp,h,hb,fun _ _=>rfl,rfl,[],by simp [fH]⟩
 |f+1,Y,h,hb,hr=>by
  simp only [fH]
  by_cases hp:(Y.th t).part=0
  ·rw [if_pos hp]
   exact ⟨hp,h,hb,fun _ _=>rfl,rfl,[],by simp⟩
  ·rw [if_neg hp]
   have h1:=tS hn (h.ok.th t ht) hp
   obtain ⟨a,b,c,d,e,XC,g⟩:=CW hn ht f (eH n cap Y t).1 (h.step hn ht hp) (hb.step h ht) (by omega)
   refine ⟨a,b,c,fun k hk=>(d k hk).trans (KS n cap Y t hk),e.trans (xN n cap Y t t),?_⟩
   rcases yU n cap Y t with q|⟨-,q⟩
   ·exact ⟨XC,by rw [g,q]⟩
   ·exact ⟨[(Y.th t).aI]++XC,by rw [g,q,List.append_assoc]⟩
theorem VO {bs:List (List Nat)} {t:Nat} (h:bs.flatten=[t]) (hb:∀ b∈bs,b≠[]):bs=[[t]]:=by
 cases bs with
 |nil=>simp at h
 |cons b bs =>
  have hb0:=hb b List.mem_cons_self
  rw [List.flatten_cons] at h
  cases b with
  |nil=>exact absurd rfl hb0
  |cons x b =>
   simp only [List.cons_append,List.cons.injEq] at h
   obtain ⟨rfl,h2⟩:=h
   have h3:=List.append_eq_nil_iff.mp h2
   obtain ⟨rfl,h4⟩:=h3
   cases bs with
   |nil=>rfl
   |cons c bs =>
    rw [List.flatten_cons] at h4
    exact absurd (List.append_eq_nil_iff.mp h4).1 (hb c (List.mem_cons_of_mem _ List.mem_cons_self))
theorem VP {l:List Nat} {t:Nat} (h1:l.count t=1) (h2:∀ k∈l,k=t):l=[t]:=by
 have h3:l=List.replicate l.length t:=List.eq_replicate_iff.mpr ⟨rfl,h2⟩
 rw [h3,List.count_replicate_self] at h1
 rw [h3,h1]
 rfl
def Idle (n:Nat) (Y:aT):Prop:=∀ k,k<n→(Y.th k).part=0
theorem VQ (hn:0<n) (tY:n≤64) (hc:cap≤64) (ht:t<n) (h:YI P n cap Y) (hb:YS Y.bs) (hi:Idle n Y) (o:Op) :
  YI P n cap (fin n cap t (aY Y t o))∧YS (fin n cap t (aY Y t o)).bs∧Idle n (fin n cap t (aY Y t o))∧(fin n cap t (aY Y t o)).bs=Y.bs++[[t]]∧(∀ k,k≠t→((fin n cap t (aY Y t o)).th k).ops=(Y.th k).ops)∧((fin n cap t (aY Y t o)).th t).ops=(Y.th t).ops++[o]:=by
 have lW:=h.begin ht (hi t ht) o
 have hbs:(aY Y t o).bs=Y.bs:=rfl
 have hrk:=BP n cap Y t o
 have UQ:=JZ tY hc
 obtain ⟨a,b,c,d,e,XC,g⟩:=CW hn ht 100000 (aY Y t o) lW (by rw [hbs];exact hb) (by omega)
 have ho:∀ k,k≠t→(aY Y t o).th k=Y.th k:=fun k hk=>by simp only [aY,aT.set,aE _ _ hk]
 have hs:((aY Y t o).th t).ops=(Y.th t).ops++[o]:=by simp only [aY,aT.set,aC]
 unfold fin
 have ZR:Idle n (fH n cap t 100000 (aY Y t o)):=fun k hk=>by
  by_cases q:k=t
  ·rw [q];exact a
  ·rw [d k q,ho k q];exact hi k hk
 rw [hbs] at g
 have aDr:∀ k,k<n→XC.flatten.count k=if k=t then 1 else 0:=fun k hk=>by
  have h1:=b.c0 hk (ZR k hk)
  have h2:=h.c0 hk (hi k hk)
  have h3:cnt (fH n cap t 100000 (aY Y t o)).bs k=cnt Y.bs k+XC.flatten.count k:=by
   rw [g];unfold cnt;rw [List.flatten_append,List.count_append]
  by_cases q:k=t
  ·subst q
   rw [if_pos rfl]
   have h4:((fH n cap k 100000 (aY Y k o)).th k).ops.length=(Y.th k).ops.length+1:=by rw [e,hs];simp
   omega
  ·rw [if_neg q]
   have h4:(fH n cap t 100000 (aY Y t o)).th k=Y.th k:=(d k q).trans (ho k q)
   rw [h4] at h1
   omega
 have hmem:∀ k∈XC.flatten,k=t:=fun k hk=>by
  obtain ⟨p,hp,hkp⟩:=List.mem_flatten.mp hk
  have hkn:k<n:=b.ok.mem p (by rw [g];exact List.mem_append_right _ hp) k hkp
  have:=aDr k hkn
  by_cases q:k=t
  ·exact q
  ·rw [if_neg q] at this
   exact absurd hk (List.count_eq_zero.mp this)
 have hfl:XC.flatten=[t]:=VP (by have:=aDr t ht;rwa [if_pos rfl] at this) hmem
 have EZ:XC=[[t]]:=VO hfl fun p hp=>(c p (by rw [g];exact List.mem_append_right _ hp)).1
 rw [EZ] at g
 exact ⟨b,c,ZR,g,fun k hk=>by rw [d k hk,ho k hk],by rw [e,hs]⟩
theorem ID {Y':aT} (h:YI P n cap Y) (ht:t<n) (hi:Idle n Y) {o:Op} (h1:Y'.bs=Y.bs++[[t]]) (h2:∀ k,k≠t→(Y'.th k).ops=(Y.th k).ops) (h3:(Y'.th t).ops=(Y.th t).ops++[o]) :
  (replay P Y'.op Y'.bs).st=(P.apply (replay P Y.op Y.bs).st o).1∧(replay P Y'.op Y'.bs).an t=(P.apply (replay P Y.op Y.bs).st o).2:=by
 have aGi:∀ k i,i<Y.bs.flatten.count k→Y'.op k i=Y.op k i:=fun k i hk=>by
  show ((Y'.th k).ops).getD i _=((Y.th k).ops).getD i _
  by_cases q:k=t
  ·subst q
   have:i<(Y.th k).ops.length:=Nat.lt_of_lt_of_le hk (h.ok.ops k ht)
   rw [h3]
   simp only [List.getD_eq_getElem?_getD,List.getElem?_append_left this]
  ·rw [h2 k q]
 have e1:replay P Y'.op Y.bs=replay P Y.op Y.bs:=by
  unfold replay
  exact tR P Y.bs.flatten (Rp.new P) fun k i hk=>aGi k i (by simpa [Rp.new] using hk)
 have e2:(replay P Y.op Y.bs).c t=(Y.th t).ops.length:=by
  have:=aDi P Y.op Y.bs.flatten t
  have h4:=h.c0 ht (hi t ht)
  unfold cnt at h4
  show ((Rp.new P).run P Y.op Y.bs.flatten).c t=_
  omega
 have e3:Y'.op t ((Y.th t).ops.length)=o:=by
  show ((Y'.th t).ops).getD _ _=o
  rw [h3]
  simp
 rw [h1,uZ,e1]
 show (P.apply (replay P Y.op Y.bs).st (Y'.op t ((replay P Y.op Y.bs).c t))).1=_∧aH (replay P Y.op Y.bs).an t (P.apply (replay P Y.op Y.bs).st (Y'.op t ((replay P Y.op Y.bs).c t))).2 t=_
 rw [e2,e3,aC]
 exact ⟨rfl,rfl⟩
theorem KU {Y':aT} (h1:Y'.bs=Y.bs++[[t]]):Y'.order.length=Y.order.length+1∧∃ m,Y'.order[Y.order.length]?=some m∧m.b=Y.bs.length+1∧m.t=t:=by
 have e:Y'.all=Y.all++[(Y.bs.length+1,t)]:=by
  unfold aT.all
  rw [h1,vH,yH]
  rfl
 have e2:Y'.order=Y.order++[⟨Y.bs.length+1,t,(Y.all.map Prod.snd).count t⟩]:=by
  unfold aT.order
  rw [e,BB]
 rw [e2]
 refine ⟨by simp,_,by rw [List.getElem?_append_right (Nat.le_refl _)];simp;rfl,rfl,rfl⟩
end
end Go.Proofs.YtefjhnhdagolhabGreat.M
namespace Go.Proofs.YtefjhnhdagolhabGreat
open Go.RowKit
open M (aH aC aE aT bJ Dd PI YR)
attribute [local go_sem ↓] Go.wp_at_zero Go.wp_at_succ
section
variable {σ:Type} {P:M.Plain σ} {tell:σ→List Int} {D:DL} {X:(Nat→Prop)→aT→World→Prop} {A:PL} {S:Nat→Prop} {w0:QW} {w w1:World} {vd vu vs:Value} {Y Y':aT} {ds:List Dd} {us ss:List Int} {c:Nat} {fBe fSt fAn FX FY FZ fBo K t:Nat} {u:Nat→Option Nat}
theorem NN {base:Nat} {va:Value} (h:w.ownsRow base 51 3 va Y.order.length (dQ Y.order)) {j:Nat} {m:M.Mark} (hj:Y.order[j]?=some m):∃ g cp,va = .slice (some ⟨g,0,none⟩) Y.order.length cp∧w.cell? ⟨g,j*3,none⟩=some (.int .i64 (m.b:Int))∧w.cell? ⟨g,j*3+1,none⟩=some (.int .i64 (m.t:Int))∧w.cell? ⟨g,j*3+2,none⟩=some (.int .i64 (m.s:Int)):=by
 obtain ⟨hl,e⟩:=List.getElem?_eq_some_iff.mp hj
 obtain ⟨a,b,d⟩:=MY Y.order j hl
 rw [e] at a b d
 obtain ⟨g,cp,e1,q1⟩:=BU h a
 obtain ⟨g2,cp2,e2,q2⟩:=BU h b
 obtain ⟨g3,cp3,e3,q3⟩:=BU h d
 rw [e1] at e2 e3
 injection e2 with e2 _ _
 injection e2 with e2
 injection e2 with e2 _ _
 injection e3 with e3 _ _
 injection e3 with e3
 injection e3 with e3 _ _
 subst e2 e3
 exact ⟨g,cp,e1,q1,q2,q3⟩
end
end Go.Proofs.YtefjhnhdagolhabGreat
namespace Go.Proofs.YtefjhnhdagolhabGreat
open M (aT bJ Dd PI YR)
namespace M
def tg:Nat→List (List Nat)→List (Nat×Nat)
 |_,[]=>[]
 |o,p::bs=>(p.map fun t=>(o,t))++tg (o+1) bs
def Sn (Y:aT) (D:List Dd) (k:Nat) (sn:List Bool):Prop:=sn.length=D.length∧∀ (i:Nat) (d:Dd),D[i]?=some d→∃ v,sn[i]?=some v∧(v=true↔∃ j,j<k∧YR Y.bs.flatten d.t d.s j)
section
variable {σ:Type} {P:Plain σ} {n cap:Nat} {Y:aT} {D:List Dd} {u:Nat→Option Nat} {c k:Nat} {sn:List Bool}
end
end M
section
variable {σ:Type} {P:M.Plain σ} {n cap:Nat} {Y:aT} {D:List Dd} {u:Nat→Option Nat} {c k:Nat}
end
end Go.Proofs.YtefjhnhdagolhabGreat
namespace Go.Proofs.YtefjhnhdagolhabGreat
open Go.RowKit
attribute [local go_sem ↓] Go.wp_at_zero Go.wp_at_succ
def SQ (b:Bool) (kind:Int):Int:=if b then 5 else 1+pk kind 4
theorem VR (b:Bool) (kind th cap st co:Int) (a1 a2:Option Addr) (l1 c1 l2 c2:Nat) (ik:MZ kind) (it:MZ th) (ic:MZ cap) (w:World) :
  Calls Tryz.prog 5 #[.agg #[.int .i64 kind,.int .i64 th,.int .i64 cap,.int .i64 st,.int .i64 co,.slice a1 l1 c1,.slice a2 l2 c2],.bool b] w fun e w'=>e = .returned (.agg #[.int .i64 (SQ b kind),.int .i64 (2+pk th 19),.int .i64 (pk cap 65),.int .i64 st,.int .i64 co,.slice a1 l1 c1,.slice a2 l2 c2])∧Below w.heap.size w w':=by
 obtain ⟨p0,p1⟩:=jB th 19 (by decide)
 obtain ⟨q0,q1⟩:=jB cap 65 (by decide)
 obtain ⟨r0,r1⟩:=jB kind 4 (by decide)
 have HT:=aA (fun W:World=>wD th 19 W (by decide) (by decide) it.1 it.2)
 have HC:=aA (fun W:World=>wD cap 65 W (by decide) (by decide) ic.1 ic.2)
 have HK:=aA (fun W:World=>wD kind 4 W (by decide) (by decide) ik.1 ik.2)
 have hw1:IntKind.i64.wrap (2+pk th 19)=2+pk th 19:=dR _ (by omega) (by omega)
 have XL:IntKind.i64.wrap (1+pk kind 4)=1+pk kind 4:=dR _ (by omega) (by omega)
 have HKD:=aA (show SQ b kind=if b then 5 else 1+pk kind 4 from rfl)
 generalize SQ b kind=kd at *
 generalize pk th 19=pt at *
 generalize pk cap 65=pc at *
 generalize pk kind 4=pq at *
 go_enter Tryz.func5,Tryz.ntmps5
 go_upto_region 1 with fail
 generalize hW:World.alloc (World.alloc w _) _=W
 have hb0:Below w.heap.size w W:=by rw [←hW];exact (aB w _).alloc (by simp) _
 have rB:Row W w.heap.size 26 [.int .i64 kind,.int .i64 th,.int .i64 cap,.int .i64 st,.int .i64 co,.slice a1 l1 c1,.slice a2 l2 c2]:=by rw [←hW];exact (Row.new' rfl).alloc _
 have rR:Row W (w.heap.size+1) 26 [.int .i64 0,.int .i64 0,.int .i64 0,.int .i64 0,.int .i64 0,.slice none 0 0,.slice none 0 0]:=by rw [←hW];exact Row.new' (by simp)
 clear hW
 have x1:=rB.cell_of (i:=1) rfl
 have y1:=rB.frozen 1
 have hne:w.heap.size+1≠w.heap.size:=by omega
 have s1:=rB.set 1 (.int .i64 (2+pt))
 have t1:=rR.setOther (a:=⟨w.heap.size,1,none⟩) hne (.int .i64 (2+pt))
 have b1:=Below.setCell (p:=⟨w.heap.size,1,none⟩) hb0 (Nat.le_refl _) (.int .i64 (2+pt))
 have H1:=aA (And.intro s1 (And.intro t1 b1))
 clear rB rR hb0 s1 t1 b1
 go_wp2_with fail
 refine (HT.out _).mono ?_
 rintro e w' ⟨rfl,rfl⟩
 go_upto_region 2 with fail
 generalize World.setCell w' ⟨w.heap.size,1,none⟩ (.int .i64 (2+pt))=W1 at *
 obtain ⟨s1,t1,b1⟩:=H1.out
 clear x1 y1
 have x2:=s1.cell_of (i:=2) rfl
 have y2:=s1.frozen 2
 have H2:=aA (And.intro (s1.set 2 (.int .i64 pc)) (And.intro (t1.setOther (a:=⟨w.heap.size,2,none⟩) hne (.int .i64 pc)) (Below.setCell (p:=⟨w.heap.size,2,none⟩) b1 (Nat.le_refl _) (.int .i64 pc))))
 clear s1 t1 b1 H1
 go_wp2_with fail
 refine (HC.out _).mono ?_
 rintro e w' ⟨rfl,rfl⟩
 go_upto_region 3 with fail
 generalize World.setCell w' ⟨w.heap.size,2,none⟩ (.int .i64 pc)=W2 at *
 obtain ⟨s1,t1,b1⟩:=H2.out
 clear x2 y2
 have x0:=s1.cell_of (i:=0) rfl
 have y0:=s1.frozen 0
 have H3:=aA (And.intro (s1.set 0 (.int .i64 (1+pq))) (And.intro (t1.setOther (a:=⟨w.heap.size,0,none⟩) hne (.int .i64 (1+pq))) (Below.setCell (p:=⟨w.heap.size,0,none⟩) b1 (Nat.le_refl _) (.int .i64 (1+pq)))))
 clear s1 t1 b1 H2
 go_wp2_with fail
 refine (HK.out _).mono ?_
 rintro e w' ⟨rfl,rfl⟩
 go_upto_region 4 with fail
 generalize World.setCell w' ⟨w.heap.size,0,none⟩ (.int .i64 (1+pq))=W3 at *
 obtain ⟨s1,t1,b1⟩:=H3.out
 clear x0 y0 H3
 have fin:∀ (W4:World) (k:Int),Row W4 w.heap.size 26 [.int .i64 k,.int .i64 (2+pt),.int .i64 pc,.int .i64 st,.int .i64 co,.slice a1 l1 c1,.slice a2 l2 c2]→Row W4 (w.heap.size+1) 26 [.int .i64 0,.int .i64 0,.int .i64 0,.int .i64 0,.int .i64 0,.slice none 0 0,.slice none 0 0]→Below w.heap.size w W4→Row (W4.setCells (w.heap.size+1) 0 [.int .i64 k,.int .i64 (2+pt),.int .i64 pc,.int .i64 st,.int .i64 co,.slice a1 l1 c1,.slice a2 l2 c2]) (w.heap.size+1) 26 [.int .i64 k,.int .i64 (2+pt),.int .i64 pc,.int .i64 st,.int .i64 co,.slice a1 l1 c1,.slice a2 l2 c2]∧Below w.heap.size w (W4.setCells (w.heap.size+1) 0 [.int .i64 k,.int .i64 (2+pt),.int .i64 pc,.int .i64 st,.int .i64 co,.slice a1 l1 c1,.slice a2 l2 c2]):=fun W4 k h1 h2 h3=>⟨((((((h2.set 0 _).set 1 _).set 2 _).set 3 _).set 4 _).set 5 _).set 6 _,dS (by omega) _ _ _ h3⟩
 have HF:=aA fin
 clear fin
 cases b with
 |true =>
  have ek:kd=5:=HKD.out
  subst ek
  have x0:=s1.cell_of (i:=0) rfl
  have y0:=s1.frozen 0
  have H4:=aA (And.intro (s1.set 0 (.int .i64 5)) (And.intro (t1.setOther (a:=⟨w.heap.size,0,none⟩) hne (.int .i64 5)) (Below.setCell (p:=⟨w.heap.size,0,none⟩) b1 (Nat.le_refl _) (.int .i64 5))))
  clear s1 t1 b1
  go_upto_region 6 with fail
  generalize World.setCell W3 ⟨w.heap.size,0,none⟩ (.int .i64 5)=W4 at *
  obtain ⟨s1,t1,b1⟩:=H4.out
  clear x0 y0 H4
  obtain ⟨-,v0,v1,v2,v3,v4,v5,v6⟩:=FR s1
  obtain ⟨-,z0,z1,z2,z3,z4,z5,z6⟩:=FR t1
  have y0:=t1.frozen 0
  have y1:=t1.frozen 1
  have y2:=t1.frozen 2
  have y3:=t1.frozen 3
  have y4:=t1.frozen 4
  have y5:=t1.frozen 5
  have y6:=t1.frozen 6
  have HE:=aA (HF.out W4 5 s1 t1 b1)
  clear s1 t1 b1 HF
  go_wp2
  exact bodyPost_ret (v:=.agg #[.int .i64 5,.int .i64 (2+pt),.int .i64 pc,.int .i64 st,.int .i64 co,.slice a1 l1 c1,.slice a2 l2 c2]) (by simp [results,Tryz.results5,go_sem,z0,z1,z2,z3,z4,z5,z6]) rfl ⟨rfl,HE.out.2⟩
 |false =>
  have ek:kd=1+pq:=HKD.out
  subst ek
  obtain ⟨-,v0,v1,v2,v3,v4,v5,v6⟩:=FR s1
  obtain ⟨-,z0,z1,z2,z3,z4,z5,z6⟩:=FR t1
  have y0:=t1.frozen 0
  have y1:=t1.frozen 1
  have y2:=t1.frozen 2
  have y3:=t1.frozen 3
  have y4:=t1.frozen 4
  have y5:=t1.frozen 5
  have y6:=t1.frozen 6
  have HE:=aA (HF.out W3 (1+pq) s1 t1 b1)
  clear s1 t1 b1 HF
  go_wp2
  exact bodyPost_ret (v:=.agg #[.int .i64 (1+pq),.int .i64 (2+pt),.int .i64 pc,.int .i64 st,.int .i64 co,.slice a1 l1 c1,.slice a2 l2 c2]) (by simp [results,Tryz.results5,go_sem,z0,z1,z2,z3,z4,z5,z6]) rfl ⟨rfl,HE.out.2⟩
section
variable {st co s a b2:Int} {s1 s2 vl:Value} {b:Nat} {w:World}
theorem RL (hR:Row w b 35 [.int .i64 1,.int .i64 st,.int .i64 co,s1,s2,.int .i64 s,vl]) :
  Calls Tryz.prog 8 #[.pointer (some ⟨b,0,none⟩),.agg #[.int .i64 1,.int .i64 a,.int .i64 b2]] w fun e w'=>e = .returned (.agg #[.int .i64 1,.int .i64 (wrap64 (s+a))])∧Row w' b 35 [.int .i64 1,.int .i64 st,.int .i64 co,s1,s2,.int .i64 (wrap64 (s+a)),vl]∧Fr (fun k=>k=b) w w':=by
 have c0:=hR.cell_of (i:=0) rfl
 have c5:=hR.cell_of (i:=5) rfl
 go_enter Tryz.func8,Tryz.ntmps8
 go_upto_region 1 with fail
 generalize hW:World.alloc (World.alloc w _) _=W
 have hb:Below w.heap.size w W:=by rw [←hW];exact ((Below.refl _ _).alloc (Nat.le_refl _) _).alloc (by simp) _
 have r0:Row W w.heap.size 46 [.int .i64 1,.int .i64 a,.int .i64 b2]:=by rw [←hW];exact (Row.new' rfl).alloc _
 have r1:Row W (w.heap.size+1) 38 [.int .i64 0,.int .i64 0]:=by rw [←hW];exact Row.new' (by simp)
 have LX:w.heap.size+1<W.heap.size:=r1.lt
 have d0:=cell_later hb c0
 have d5:=cell_later hb c5
 have df:=(hR.old hb).frozen 5
 have x0:=r0.cell_of (i:=0) rfl
 have x1:=r0.cell_of (i:=1) rfl
 have HR0:=aA r0
 have uX:=aA r1
 have HB:=aA hb
 have UQ:b<w.heap.size:=hR.lt
 have HRb:=aA (hR.old hb)
 clear hW hR c0 c5 r0 r1 hb
 go_upto_region 5 with fail
 go_region
 have HS:=aA (show Fr (fun k=>k=b) w (W.setCell ⟨b,5,none⟩ (.int .i64 (wrap64 (s+a)))).drew from ((Fr.cQ (own:=fun k=>k=b) HB.out).here (b:=b) rfl 5 _).drew)
 have hrb:Row (W.setCell ⟨b,5,none⟩ (.int .i64 (wrap64 (s+a)))).drew b 35 [.int .i64 1,.int .i64 st,.int .i64 co,s1,s2,.int .i64 (wrap64 (s+a)),vl]:=HRb.out.set 5 _
 have PK:Row (W.setCell ⟨b,5,none⟩ (.int .i64 (wrap64 (s+a)))).drew w.heap.size 46 [.int .i64 1,.int .i64 a,.int .i64 b2]:=HR0.out.setOther (show w.heap.size≠b by omega) _
 have AA:Row (W.setCell ⟨b,5,none⟩ (.int .i64 (wrap64 (s+a)))).drew (w.heap.size+1) 38 [.int .i64 0,.int .i64 0]:=uX.out.setOther (show w.heap.size+1≠b by omega) _
 generalize (W.setCell ⟨b,5,none⟩ (.int .i64 (wrap64 (s+a)))).drew=W2 at *
 have e5:=hrb.cell_of (i:=5) rfl
 have o0:=PK.cell_of (i:=0) rfl
 have HRB:=aA hrb
 have y0:=AA.cell_of (i:=0) rfl
 have y1:=AA.cell_of (i:=1) rfl
 have z0:=AA.frozen 0
 have z1:=AA.frozen 1
 have uT:=aA (AA.set 0 (.int .i64 1) |>.set 1 (.int .i64 (wrap64 (s+a))))
 clear hrb PK AA uX HR0 d0 d5 df x0 x1 HRb
 go_wp2_with fail
 have q1:=uT.out.cell_of (i:=0) rfl
 have q2:=uT.out.cell_of (i:=1) rfl
 refine bodyPost_ret (v:=.agg #[.int .i64 1,.int .i64 (wrap64 (s+a))]) (by simp [results,Tryz.results8,go_sem,q1,q2]) rfl ⟨rfl,?_,?_⟩
 ·exact (HRB.out.setOther (show b≠w.heap.size+1 by omega) _).setOther (show b≠w.heap.size+1 by omega) _
 ·refine HS.out.grow (own':=fun k=>k=w.heap.size+1) (((Fr.refl (fun k=>k=w.heap.size+1) _).here (b:=w.heap.size+1) rfl _ _).here (b:=w.heap.size+1) rfl _ _) (fun k hk=>.inr (by omega))
theorem RM (hR:Row w b 35 [.int .i64 1,.int .i64 st,.int .i64 co,s1,s2,.int .i64 s,vl]) :
  Calls Tryz.prog 8 #[.pointer (some ⟨b,0,none⟩),.agg #[.int .i64 2,.int .i64 a,.int .i64 b2]] w fun e w'=>e = .returned (.agg #[.int .i64 1,.int .i64 s])∧Below w.heap.size w w':=by
 have c0:=hR.cell_of (i:=0) rfl
 have c5:=hR.cell_of (i:=5) rfl
 go_enter Tryz.func8,Tryz.ntmps8
 go_upto_region 1 with fail
 generalize hW:World.alloc (World.alloc w _) _=W
 have hb:Below w.heap.size w W:=by rw [←hW];exact ((Below.refl _ _).alloc (Nat.le_refl _) _).alloc (by simp) _
 have r0:Row W w.heap.size 46 [.int .i64 2,.int .i64 a,.int .i64 b2]:=by rw [←hW];exact (Row.new' rfl).alloc _
 have r1:Row W (w.heap.size+1) 38 [.int .i64 0,.int .i64 0]:=by rw [←hW];exact Row.new' (by simp)
 have d0:=cell_later hb c0
 have d5:=cell_later hb c5
 have x0:=r0.cell_of (i:=0) rfl
 have y0:=r1.cell_of (i:=0) rfl
 have y1:=r1.cell_of (i:=1) rfl
 have z0:=r1.frozen 0
 have z1:=r1.frozen 1
 have uT:=aA (r1.set 0 (.int .i64 1) |>.set 1 (.int .i64 s))
 have HB:=aA hb
 clear hW hR c0 c5 r0 r1 hb
 go_wp2_with fail
 have q1:=uT.out.cell_of (i:=0) rfl
 have q2:=uT.out.cell_of (i:=1) rfl
 exact bodyPost_ret (v:=.agg #[.int .i64 1,.int .i64 s]) (by simp [results,Tryz.results8,go_sem,q1,q2]) rfl ⟨rfl,(HB.out.setCell (by simp) _).setCell (by simp) _⟩
theorem RN (k:Int) (h1:k≠1) (h2:k≠2) (hR:Row w b 35 [.int .i64 1,.int .i64 st,.int .i64 co,s1,s2,.int .i64 s,vl]) :
  Calls Tryz.prog 8 #[.pointer (some ⟨b,0,none⟩),.agg #[.int .i64 k,.int .i64 a,.int .i64 b2]] w fun e w'=>e = .returned (.agg #[.int .i64 4,.int .i64 0])∧Below w.heap.size w w':=by
 have c0:=hR.cell_of (i:=0) rfl
 have g1:(k == 1)=false:=by simpa using h1
 have g2:(k == 2)=false:=by simpa using h2
 go_enter Tryz.func8,Tryz.ntmps8
 go_upto_region 1 with fail
 generalize hW:World.alloc (World.alloc w _) _=W
 have hb:Below w.heap.size w W:=by rw [←hW];exact ((Below.refl _ _).alloc (Nat.le_refl _) _).alloc (by simp) _
 have r0:Row W w.heap.size 46 [.int .i64 k,.int .i64 a,.int .i64 b2]:=by rw [←hW];exact (Row.new' rfl).alloc _
 have r1:Row W (w.heap.size+1) 38 [.int .i64 0,.int .i64 0]:=by rw [←hW];exact Row.new' (by simp)
 have d0:=cell_later hb c0
 have x0:=r0.cell_of (i:=0) rfl
 have y0:=r1.cell_of (i:=0) rfl
 have y1:=r1.cell_of (i:=1) rfl
 have z0:=r1.frozen 0
 have z1:=r1.frozen 1
 have uT:=aA (r1.set 0 (.int .i64 4) |>.set 1 (.int .i64 0))
 have HB:=aA hb
 clear hW hR c0 r0 r1 hb
 go_wp2_with fail
 have q1:=uT.out.cell_of (i:=0) rfl
 have q2:=uT.out.cell_of (i:=1) rfl
 exact bodyPost_ret (v:=.agg #[.int .i64 4,.int .i64 0]) (by simp [results,Tryz.results8,go_sem,q1,q2]) rfl ⟨rfl,(HB.out.setCell (by simp) _).setCell (by simp) _⟩
end
def iP (I:Nat→Prop) (w:World):List Int→Option Addr→Prop
 |[],p=>p=none
 |x::s,p=>∃ b p',p=some ⟨b,0,none⟩∧I b∧Row w b 281 [.int .i64 x,.pointer p',.int .i64 ((s.length+1:Nat):Int)]∧iP I w s p'
theorem iP.stay {I I':Nat→Prop} {w w':World} (hk:∀ k,I k→k<w.heap.size→I' k∧w'.heap[k]?=w.heap[k]?):∀ {s:List Int} {p:Option Addr},iP I w s p→iP I' w' s p
 |[],_,q=>q
 |x::s,_,q=>by
  obtain ⟨b,p',h1,h2,h3,h4⟩:=q
  have:=hk b h2 h3.lt
  exact ⟨b,p',h1,this.1,h3.of_block this.2,h4.stay hk⟩
def KB (I:Nat→Prop) (B:Nat) (w:World):Nat→Prop:=fun k=>I k∨(B≤k∧k<w.heap.size)
theorem KB.later {I:Nat→Prop} {B:Nat} {w w':World} (hb:Below w.heap.size w w') (k:Nat) (hk:KB I B w k) (hl:k<w.heap.size):KB I B w' k∧w'.heap[k]?=w.heap[k]? :=
 ⟨by
  rcases hk with hk|hk
  ·exact .inl hk
  ·exact .inr ⟨hk.1,Nat.lt_of_lt_of_le hk.2 hb.size⟩,hb.block k hl⟩
section
variable {I:Nat→Prop} {B:Nat} {w:World} {p:Option Addr} {s:List Int} {x:Int}
theorem iP.later {w':World} (q:iP (KB I B w) w s p) (hb:Below w.heap.size w w'):iP (KB I B w') w' s p:=q.stay (KB.later hb)
theorem CX (q:iP I w s p):Calls Tryz.prog 94 #[.pointer p] w fun e w'=>e = .returned (.int .i64 (s.length:Int))∧w'=w:=by
 cases s with
 |nil =>
  have q:p=none:=q
  subst q
  go_enter Tryz.func94,Tryz.ntmps94
  go_wp2
  go_ret
  exact ⟨rfl,rfl⟩
 |cons y s =>
  obtain ⟨b,p',rfl,-,hR,-⟩:=q
  have HL:=aA (show (List.length (y::s):Int)=((s.length+1:Nat):Int) by simp)
  rw [HL.out]
  generalize s.length+1=n at *
  have c2:=hR.cell_of (i:=2) rfl
  clear hR
  go_enter Tryz.func94,Tryz.ntmps94
  go_wp2
  go_ret
  exact ⟨rfl,rfl⟩
theorem NP (q:iP (KB I B w) w s p) (hB:B≤w.heap.size) (hz:s.length≤2000000000000) :
  Calls Tryz.prog 279 #[.pointer p,.int .i64 x] w fun e w'=>∃ b,e = .returned (.pointer (some ⟨b,0,none⟩))∧iP (KB I B w') w' (x::s) (some ⟨b,0,none⟩)∧Below w.heap.size w w':=by
 have hw:IntKind.i64.wrap ((s.length:Int)+1)=(s.length:Int)+1:=dR _ (by omega) (by omega)
 have HQ:=aA q
 clear q
 go_enter Tryz.func279,Tryz.ntmps279
 go_wp2_with fail
 refine (CX HQ.out).mono ?_
 rintro e w2 ⟨rfl,rfl⟩
 go_wp2_with fail
 go_ret
 refine ⟨_,rfl,⟨_,p,rfl,.inr ⟨hB,by simp⟩,Row.new' (by simp),HQ.out.later (aB _ _)⟩,aB _ _⟩
theorem CY (q:iP (KB I B w) w s p) (hB:B≤w.heap.size) (hz:s.length≤1000000000000) :
  Calls Tryz.prog 284 #[.pointer p] w fun e w'=>∃ p',e = .returned (.pointer p')∧iP (KB I B w') w' s.reverse p'∧Below w.heap.size w w':=by
 have HQ:=aA q
 clear q
 go_enter Tryz.func284,Tryz.ntmps284
 go_wp2
 go_loopg [0,3] s.length (fun g v t w'=>∃ a c p1 p2,s=a++c∧c.length=g∧v = .pointer p1∧t = .pointer p2∧iP (KB I B w') w' c p1∧iP (KB I B w') w' a.reverse p2∧Below w.heap.size w w')
 case atStart=>exact ⟨[],s,p,none,rfl,rfl,rfl,rfl,HQ.out,rfl,Below.refl _ _⟩
 case round =>
  obtain ⟨a,c,p1,p2,hs,hg,rfl,rfl,h1,h2,hb⟩:=hrel
  have HS:=aA hs
  have HB:=aA hb
  have hzw:=hb.size
  have H2:=aA h2
  have hal:a.length+c.length≤1000000000000:=by rw [hs,List.length_append] at hz;exact hz
  clear hb hs h2
  cases c with
  |nil =>
   have h1:p1=none:=h1
   subst h1
   clear hg
   go_wp2
   go_ret
   exact ⟨p2,rfl,by rw [HS.out,List.append_nil];exact H2.out,HB.out⟩
  |cons y c =>
   obtain ⟨b1,p1',rfl,-,hR,h3⟩:=h1
   have c0:=hR.cell_of (i:=0) rfl
   have H3:=aA h3
   have HR:=aA hR
   simp only [List.length_cons] at hal
   clear hR h3
   go_wp2_with fail
   refine (NP (x:=y) H2.out (by omega) (by rw [List.length_reverse];omega)).mono ?_
   rintro e w2 ⟨b2,rfl,t2,bA⟩
   have c1:=(HR.out.old bA).cell_of (i:=1) rfl
   have HT:=aA t2
   have DT:=aA bA
   clear t2 bA c0
   go_wp2
   go_roundg (gk-1)
   case measure=>simp at hg;omega
   case rel=>exact ⟨a++[y],c,p1',_,by rw [HS.out];simp,by simp at hg;omega,rfl,rfl,H3.out.later DT.out,by rw [List.reverse_append];exact HT.out,Below.next HB.out DT.out HB.out.size⟩
end
theorem EG {P:Program} (t e:TypeId) (z:Value) (bytes:Nat) (ht:P.underlying t=some (.slice e)) (hinfo:(P.info? e).map (fun i=>(i.zero,i.size,i.bytes))=some (some z,1,bytes)) (hz1:z.cells=#[z])
  (n:Nat) (hbytes:bytes*n≤281474976710656) (h63:n≤9223372036854775807) (w:World) :
  (Instr.makeSlice t (.int .i64 0) (.int .i64 (n:Int))).run P w = .ok (.slice (some ⟨w.heap.size,0,none⟩) 0 n) (w.alloc (.cells (zeros z n).toArray e)):=by
 obtain ⟨i,hi,hzz⟩:=Option.map_eq_some_iff.1 hinfo
 simp only [Prod.mk.injEq] at hzz
 obtain ⟨hz,hs,hb⟩:=hzz
 have hb':(i.bytes:Int)*(n:Int)≤281474976710656:=by
  have h:((i.bytes*n:Nat):Int)≤281474976710656:=by rw [hb];omega
  rwa [Int.natCast_mul] at h
 have hr:=run_make (P:=P) w t e i z ht hi hz .i64 .i64 0 n (by omega) (by omega) hb' (by omega)
 simp only [Int.toNat_natCast,hs,Nat.mul_one,hz1,Int.toNat_zero] at hr
 rw [hr,sO]
section
variable {I:Nat→Prop} {w:World} {p:Option Addr} {s:List Int}
theorem CZ (q:iP I w s p) (hz:s.length≤1000000000000) :
  Calls Tryz.prog 281 #[.pointer p] w fun e w'=>∃ v,e = .returned v∧w'.ownsRow w.heap.size 3 1 v s.length (ints s)∧Below w.heap.size w w':=by
 obtain ⟨ti,zF,xL⟩:=Option.map_eq_some_iff.1 iV
 simp only [Prod.mk.injEq] at xL
 obtain ⟨qX,qY,qZ⟩:=xL
 have tT:=aA zF
 have IE:=aA qX
 have sU:=aA qY
 have pL:=aA qZ
 clear zF qX qY qZ
 have hmk:=EG (P:=Tryz.prog) 22 3 (.int .i64 0) 8 Tryz.underlying22 iV rfl s.length (by omega) (by omega)
 have HQ:=aA q
 clear q
 go_enter Tryz.func281,Tryz.ntmps281
 go_wp2_with fail
 refine (CX HQ.out).mono ?_
 rintro e w2 ⟨rfl,rfl⟩
 go_wp2
 generalize hW:World.alloc w2 _=W
 have hb0:Below w2.heap.size w2 W:=by rw [←hW];exact aB _ _
 have HO:=aA (show W.ownsRow w2.heap.size 3 1 (.slice (some ⟨w2.heap.size,0,none⟩) 0 s.length) 0 (ints []) by
  rw [←hW]
  refine ⟨rfl,.inr ⟨w2.heap.size,s.length,(zeros (.int .i64 0) s.length).toArray,rfl,Nat.le_refl _,?_,Nat.zero_le _,?_,?_,?_⟩⟩
  ·exact Row.new' rfl
  ·unfold maxLen;omega
  ·simp [zeros]
  ·simp [ints])
 have HQ2:=aA (show iP (fun k=>k<w2.heap.size∧I k) W s p from HQ.out.stay fun k hk hl=>⟨⟨hl,hk⟩,hb0.block k hl⟩)
 have HB:=aA hb0
 clear hW hb0 hmk HQ
 go_loopg [0,3] s.length (fun g v o w'=>∃ a c p1,s=a++c∧c.length=g∧v = .pointer p1∧iP (fun k=>k<w2.heap.size∧I k) w' c p1∧w'.ownsRow w2.heap.size 3 1 o a.length (ints a)∧Below w2.heap.size w2 w')
 case atStart=>exact ⟨[],s,p,rfl,rfl,rfl,HQ2.out,HO.out,HB.out⟩
 case round =>
  obtain ⟨a,c,p1,hs,hg,rfl,h1,ho,hb⟩:=hrel
  have HS:=aA hs
  have VL:=aA hb
  have hzw:=hb.size
  have SP:=aA ho
  have hal:a.length+c.length≤1000000000000:=by rw [hs,List.length_append] at hz;exact hz
  clear hb hs ho
  cases c with
  |nil =>
   have h1:p1=none:=h1
   subst h1
   clear hg
   go_wp2
   go_ret
   exact ⟨_,rfl,by rw [HS.out,List.append_nil];exact SP.out,VL.out⟩
  |cons y c =>
   obtain ⟨b1,p1',rfl,VS,hR,h3⟩:=h1
   have c0:=hR.cell_of (i:=0) rfl
   have c1:=hR.cell_of (i:=1) rfl
   have H3:=aA h3
   have lW:=VS.1
   simp only [List.length_cons] at hal
   clear hR h3 VS
   go_wp2_with (at_builtin;refine wpList_append_lies _ rfl (.tmp 13) (.tmp 18) 22 rfl w2.heap.size 3 ti (.int .i64 0) 1 8 Tryz.underlying22 tT.out IE.out sU.out pL.out rfl (by decide) u3 a.length (ints a) rfl (SP.out.alloc _) ⟨wr.heap.size,0,none⟩ 1 1 [.int .i64 y] rfl rfl ?_ (by simp [Value.oneCell']) (by decide) (by unfold maxLen;omega) (by omega) ?_ (wr.heap.size+1) (by simp) ?_)
   ·exact World.news_of_block (Row.new wr _ _)
   ·simp;omega
   ·intro g4 oA w4 hown jY hat mN
    have hvn:∀ q,q<w2.heap.size→some q≠u3.ownBlock:=fun q hq e=>by have:=(SP.out.lt q e.symm).1;omega
    have c4:w4.cell? ⟨b1,1,none⟩=some (.pointer p1'):=jY.cell (cell_later (aB _ _) c1) (hvn _ lW)
    have VT:=aA (show Below w2.heap.size w2 w4 from (Below.next VL.out (aB wr _) hzw).grown jY (by simp;omega) (fun q hq=>(SP.out.lt q hq).1))
    have sV:=aA (show w4.ownsRow w2.heap.size 3 1 (.slice (some ⟨g4,0,none⟩) (a.length+1) oA) (a++[y]).length (ints (a++[y])) by
     rw [List.length_append]
     have e3:ints (a++[y])=ints a++[.int .i64 y]:=by simp [ints]
     rw [e3]
     exact hown)
    have H4:=aA (show iP (fun k=>k<w2.heap.size∧I k) w4 c p1' from H3.out.stay fun k hk hl=>⟨hk,(jY.block k (by simp;omega) (hvn k hk.1)).trans ((aB wr _).block k hl)⟩)
    clear hown jY hat mN c0 c1
    go_wp2
    go_roundg (gk-1)
    case measure=>simp at hg;omega
    case rel=>exact ⟨a++[y],c,p1',by rw [HS.out];simp,by simp at hg;omega,rfl,H4.out,sV.out,VT.out⟩
end
end Go.Proofs.YtefjhnhdagolhabGreat
