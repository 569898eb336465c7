import Derived.Test.YtefjhnhdagolhaaGreatA26
import Derived.Test.YtefjhnhdagolhaaGreatA25
import Derived.Test.YtefjhnhdagolhaaGreatA16
import Derived.Test.YtefjhnhdagolhaaGreatA24
import Derived.Test.YtefjhnhdagolhaaGreatA35
import Derived.Test.YtefjhnhdagolhaaGreatA02
import Derived.Test.YtefjhnhdagolhaaGreatA42
import Derived.Test.YtefjhnhdagolhaaGreatA10
import Derived.Deep.AppendLies
set_option maxHeartbeats 8000000
set_option maxRecDepth 20000
namespace Go.Proofs.YtefjhnhdagolhaaGreat
open Tryz
open Go.RowKit
open M (aR)
section
variable {σ:Type} {P:M.Plain σ} {tell:σ→List Int} {sz:σ→Nat} {HM:World→Value→σ→Prop} {D:DL} {X:(Nat→Prop)→aR→World→Prop} {A:LL} {Y:aR} {w w1:World} {sJ sN sI sL sM sO sK Z:Nat} {U:Nat→Prop}
theorem AD.aIv (xo:BZ P tell D A.tE A.bN X sJ sN sI sL sM sO sK) (h:AD P D X A Z U Y w) (hk:∀ k,U k→w1.heap[k]?=w.heap[k]?) (hz:w.heap.size≤w1.heap.size):AD P D X A Z U Y w1:=by
 obtain ⟨⟨SX,SD,T,bZ,ms,is,qD,qE,hl,hu,z1,z2⟩,ul⟩:=h;refine ⟨⟨SX,SD,T,bZ,ms,is,qD,qE,?_,hu,z1,z2⟩,fun k q=>cH (ul k q) hz⟩;exact {
  row:=hl.row.of_block (hk _ (hu _ (.inr (.inr (.inr (.inl rfl))))))
  obj:=hl.obj.of_block (hk _ (hu _ (.inr (.inr (.inr (.inr rfl))))))
  x:=xo.stay _ _ _ _ _ hl.x (fun k hS=>hk k (hu k (.inl hS))) (fun _ q=>q) (fun k hS=>cH (hl.xl k hS) hz)
  xl:=fun k hS=>cH (hl.xl k hS) hz
  d:=hl.d.SN (fun k hS=>hk k (hu k (.inr (.inl hS)))) hz
  m:=hl.m.stay (fun k hT=>hk k (hu k (.inr (.inr (.inl hT))))) (fun _ hT=>⟨hT,rfl⟩) hz
  i:=hl.i.stay (fun k hT=>hk k (hu k (.inr (.inr (.inl hT))))) (fun _ hT=>⟨hT,rfl⟩) hz
  tl:=fun k hT=>cH (hl.tl k hT) hz
  dx:=hl.dx
  dd:=hl.dd
  dt:=hl.dt
  ne:=hl.ne}
end
structure uP (b:Nat) (J:(Nat→Prop)→Nat→World→Prop):Prop where
 act:∀ U k W (x:AK),k≤200000→J U k W→MA x.t→MA x.n→Calls prog 18 #[.pointer (some ⟨b,0,none⟩),x.val] W fun e w'=>e = .returned (.bool true)∧J (Grow U W w') (k+1) w'∧Fr U W w'
 looks:∀ U k W,k≤200001→J U k W→Calls prog 19 #[.pointer (some ⟨b,0,none⟩)] W fun e w'=>e = .returned (.bool true)∧Below W.heap.size W w'
 last:∀ U k W,k≤200001→J U k W→Calls prog 20 #[.pointer (some ⟨b,0,none⟩)] W fun e w'=>e = .returned (.bool true)∧Fr U W w'
 stay:∀ U k W W',J U k W→(∀ q,U q→W'.heap[q]?=W.heap[q]?)→W.heap.size≤W'.heap.size→J U k W'
 lt:∀ U k W,J U k W→∀ q,U q→q<W.heap.size
 mono:∀ U k k' W,J U k W→k≤k'→J U k' W
section
variable {σ:Type} {P:M.Plain σ} {tell:σ→List Int} {sz:σ→Nat} {HM:World→Value→σ→Prop} {D:DL} {X:(Nat→Prop)→aR→World→Prop} {A:LL} {sJ sN sI sL sM sO sK:Nat}
def aGf (P:M.Plain σ) (D:DL) (X:(Nat→Prop)→aR→World→Prop) (A:LL) (U:Nat→Prop) (k:Nat) (W:World):Prop:=∃ Y,AD P D X A (4*k) U Y W∧jM D (4000*k) Y
theorem ny (xo:BZ P tell D A.tE A.bN X sJ sN sI sL sM sO sK) (ds:DS P tell sz HM oR D) (tf:pE P tell D):uP A.bL (aGf P D X A) where
 act U k W x hk h ht hn:=by
  obtain ⟨Y,hl,hL⟩:=h;refine (aCA xo ds tf hl hL (by omega) (by omega) x ht hn).mono ?_;rintro e w' ⟨rfl,Y',hg,hL'⟩;exact ⟨rfl,⟨Y',hg.law,hL'⟩,hg.fr⟩
 looks U k W hk h:=by
  obtain ⟨Y,hl,hL⟩:=h;exact YP hl (by omega)
 last U k W hk h:=by
  obtain ⟨Y,hl,hL⟩:=h;refine (aBm xo ds tf hl (hL.mono (by omega)) (by omega)).mono ?_;rintro e w' ⟨rfl,hg⟩;exact ⟨rfl,hg.fr⟩
 stay U k W W' h hq hz:=by
  obtain ⟨Y,hl,hL⟩:=h;exact ⟨Y,hl.aIv xo hq hz,hL⟩
 lt U k W h:=by
  obtain ⟨Y,hl,hL⟩:=h;exact hl.ul
 mono U k k' W h hk:=by
  obtain ⟨Y,⟨⟨SX,SD,T,bZ,ms,is,qD,qE,hl,hu,z1,z2⟩,ul⟩,hL⟩:=h;exact ⟨Y,⟨⟨SX,SD,T,bZ,ms,is,qD,qE,hl,hu,by omega,by omega⟩,ul⟩,hL.mono (by omega)⟩
end
def kW (kind:Int) (n:Nat) (cap st co:Int) (nx ou:List Int) (vn vo:Value) (Mk:World→Nat→World→Prop):Prop :=
 ∀ w e w',TG n kind cap st co nx ou vn vo Mk w e w'→∃ b J U,e = .returned (.tuple #[.pointer (some ⟨b,0,none⟩),.bool true])∧uP b J∧J U 0 w'∧(∀ q,U q→w.heap.size≤q)∧Below w.heap.size w w'
structure AP (J1 J2:(Nat→Prop)→Nat→World→Prop) (w0:World) (k1 k2:Nat) (W:World):Prop where
 ex:∃ U1 U2:Nat→Prop,J1 U1 k1 W∧J2 U2 k2 W∧(∀ q,U1 q→¬U2 q)∧(∀ q,U1 q∨U2 q→w0.heap.size≤q)
 bl:Below w0.heap.size w0 W
section
variable {b1 b2:Nat} {J1 J2:(Nat→Prop)→Nat→World→Prop} {w0 W w':World} {k1 k2:Nat}
theorem AP.swap (h:AP J1 J2 w0 k1 k2 W):AP J2 J1 w0 k2 k1 W:=by
 obtain ⟨⟨U1,U2,a,b,c,d⟩,e⟩:=h;exact ⟨⟨U2,U1,b,a,fun q x y=>c q y x,fun q x=>d q x.symm⟩,e⟩
theorem AP.below (g1:uP b1 J1) (g2:uP b2 J2) (h:AP J1 J2 w0 k1 k2 W) (hb:Below W.heap.size W w'):AP J1 J2 w0 k1 k2 w':=by
 obtain ⟨⟨U1,U2,a,b,c,d⟩,e⟩:=h;exact ⟨⟨U1,U2,g1.stay _ _ _ _ a (fun q x=>hb.block q (g1.lt _ _ _ a q x)) hb.size,g2.stay _ _ _ _ b (fun q x=>hb.block q (g2.lt _ _ _ b q x)) hb.size,c,d⟩,aS e hb e.size⟩
theorem AP.mono (g1:uP b1 J1) (g2:uP b2 J2) (h:AP J1 J2 w0 k1 k2 W) {k:Nat} (h1:k1≤k) (h2:k2≤k):AP J1 J2 w0 k k W:=by
 obtain ⟨⟨U1,U2,a,b,c,d⟩,e⟩:=h;exact ⟨⟨U1,U2,g1.mono _ _ _ _ a h1,g2.mono _ _ _ _ b h2,c,d⟩,e⟩
theorem AP.act (g1:uP b1 J1) (g2:uP b2 J2) (h:AP J1 J2 w0 k1 k2 W) (x:AK) (hk:k1≤200000) (ht:MA x.t) (hn:MA x.n) :
  Calls prog 18 #[.pointer (some ⟨b1,0,none⟩),x.val] W fun e w'=>e = .returned (.bool true)∧AP J1 J2 w0 (k1+1) k2 w':=by
 obtain ⟨⟨U1,U2,a,b,c,d⟩,e⟩:=h;refine (g1.act U1 k1 W x hk a ht hn).mono ?_;rintro e' w' ⟨rfl,a',hf⟩;refine ⟨rfl,⟨Grow U1 W w',U2,a',g2.stay _ _ _ _ b (fun q x=>hf.block q (g2.lt _ _ _ b q x) (fun y=>c q y x)) hf.size,fun q x y=>?_,fun q x=>?_⟩,AR e hf (fun q x=>d q (.inl x))⟩
 ·rcases x with x|x
  ·exact c q x y
  ·have:=g2.lt _ _ _ b q y
   omega
 ·rcases x with (x|x)|x
  ·exact d q (.inl x)
  ·exact bK e.size x.1
  ·exact d q (.inr x)
theorem AP.looks (g1:uP b1 J1) (g2:uP b2 J2) (h:AP J1 J2 w0 k1 k2 W) (hk:k1≤200001) :
  Calls prog 19 #[.pointer (some ⟨b1,0,none⟩)] W fun e w'=>e = .returned (.bool true)∧AP J1 J2 w0 k1 k2 w':=by
 have h':=h;obtain ⟨⟨U1,U2,a,b,c,d⟩,e⟩:=h;refine (g1.looks U1 k1 W hk a).mono ?_;rintro e' w' ⟨rfl,hb⟩;exact ⟨rfl,h'.below g1 g2 hb⟩
theorem AP.last (g1:uP b1 J1) (g2:uP b2 J2) (h:AP J1 J2 w0 k1 k2 W) (hk:k1≤200001) :
  Calls prog 20 #[.pointer (some ⟨b1,0,none⟩)] W fun e w'=>e = .returned (.bool true)∧∃ U,J2 U k2 w'∧(∀ q,U q→w0.heap.size≤q)∧Below w0.heap.size w0 w':=by
 obtain ⟨⟨U1,U2,a,b,c,d⟩,e⟩:=h;refine (g1.last U1 k1 W hk a).mono ?_;rintro e' w' ⟨rfl,hf⟩;exact ⟨rfl,U2,g2.stay _ _ _ _ b (fun q x=>hf.block q (g2.lt _ _ _ b q x) (fun y=>c q y x)) hf.size,fun q x=>d q (.inr x),AR e hf (fun q x=>d q (.inl x))⟩
end
def aAc (kind th cap st co:Int) (nx ou:List Int) (vn vo:Value):Prop :=
 ∀ W,Sl W vn (ints nx)→Sl W vo (ints ou)→Calls prog 17 #[.agg #[.int .i64 kind,.int .i64 th,.int .i64 cap,.int .i64 st,.int .i64 co,vn,vo]] W fun e w'=>Below W.heap.size W w'∧(e = .returned (.tuple #[.pointer none,.bool true])∨∃ b J U,e = .returned (.tuple #[.pointer (some ⟨b,0,none⟩),.bool true])∧uP b J∧J U 0 w'∧∀ q,U q→W.heap.size≤q)
theorem AP.two {b1:Nat} {J1 J2:(Nat→Prop)→Nat→World→Prop} {U1 U2:Nat→Prop} {w0 w1 w2:World} (g1:uP b1 J1) (a:J1 U1 0 w1) (h1:∀ q,U1 q→w0.heap.size≤q) (eN:Below w0.heap.size w0 w1) (bI:Below w1.heap.size w1 w2) (b:J2 U2 0 w2) (h2:∀ q,U2 q→w1.heap.size≤q):AP J1 J2 w0 0 0 w2:=by
 refine ⟨⟨U1,U2,g1.stay _ _ _ _ a (fun q x=>bI.block q (g1.lt _ _ _ a q x)) bI.size,b,fun q x y=>?_,fun q x=>?_⟩,aS eN bI eN.size⟩
 ·have:=g1.lt _ _ _ a q x
  have:=h2 q y;omega
 ·rcases x with x|x
  ·exact h1 q x
  ·have:=h2 q x
   have:=eN.size;omega
end Go.Proofs.YtefjhnhdagolhaaGreat
namespace Go.Proofs.YtefjhnhdagolhaaGreat
open Tryz
open Go.RowKit
open M (aM aC aD aR bJ Dd Plc)
attribute [local go_sem ↓] Go.wp_at_zero Go.wp_at_succ
namespace M
theorem SH {Y:aR} {j:Nat} {m:Mark} (h:Y.order[j]?=some m):Plc Y.bs.flatten m.t m.s j∧Y.all[j]?=some (m.b,m.t):=by
 unfold aR.order marks at h;rw [List.getElem?_mapIdx] at h;obtain ⟨x,hx,e⟩:=eZ.mp h;subst e;dsimp only;refine ⟨⟨?_,?_⟩,hx⟩
 ·rw [←Y.ME,sA,hx];rfl
 ·rw [←Y.ME,←List.map_take]
section
variable {σ:Type} {P:Plain σ} {n cap:Nat} {Y:aR} {D:List Dd} {u:Nat→Option Nat} {c:Nat}
end
end M
section
variable {σ:Type} {P:M.Plain σ} {tell:σ→List Int} {D:DL} {X:(Nat→Prop)→aR→World→Prop} {S:Nat→Prop} {w w1:World} {vd vu vs:Value} {Y Y':aR} {ds:List Dd} {us ss:List Int} {c:Nat} {sJ sN sI sL sM sO sK K t:Nat} {u:Nat→Option Nat}
end
end Go.Proofs.YtefjhnhdagolhaaGreat
namespace Go.Proofs.YtefjhnhdagolhaaGreat
open Tryz
open Go.RowKit
attribute [local go_sem ↓] Go.wp_at_zero Go.wp_at_succ
def EW (co:Int) (nx ou:List Int):M.Plain Int where
 first:=0
 apply s o:=if 0≤o.c∧o.c<co then (nx.getD (s*co+o.c).toNat 0,⟨1,ou.getD (s*co+o.c).toNat 0⟩) else (s,⟨4,0⟩)
theorem SQ {st co:Int} {nx ou:List Int} (ht:bR st co nx ou=true):0<st:=by
 simp only [bR,Bool.and_eq_true,decide_eq_true_eq] at ht;obtain ⟨⟨⟨⟨⟨⟨a,-⟩,-⟩,-⟩,-⟩,-⟩,-⟩:=ht;omega
theorem FX {l:List Int} {i:Nat} (h:i<l.length):l[i]?=some (l.getD i 0):=by simp [List.getD,h]
theorem ZR {st co s c:Int} {nx ou:List Int} (h:bR st co nx ou=true) (h0:0≤s) (h1:s<st) (c0:0≤c) (c1:c<co) :
  ∃ i:Nat,(i:Int)=s*co+c∧i<nx.length∧i<ou.length∧i<1024∧0≤s*co∧s*co≤1024∧0≤nx.getD i 0∧nx.getD i 0<st:=by
 simp only [bR,Bool.and_eq_true,decide_eq_true_eq,List.all_eq_true] at h;obtain ⟨⟨⟨⟨⟨⟨a1,a2⟩,a3⟩,a4⟩,a5⟩,a6⟩,a7⟩:=h;have p0:0≤s*co:=Int.mul_nonneg h0 (by omega);have p1:(s+1)*co≤st*co:=Int.mul_le_mul_of_nonneg_right (by omega) (by omega);have p2:=(UQ a1 a2 a3 a4).2;rw [Int.add_mul,Int.one_mul] at p1;have hl:(s*co+c).toNat<nx.length:=by omega
 refine ⟨(s*co+c).toNat,by omega,hl,by omega,by omega,p0,by omega,?_⟩;have:=a7 _ (AA hl);have e:nx.getD (s*co+c).toNat 0=nx[(s*co+c).toNat]:=by simp [List.getD,hl]
 rw [e];exact this
theorem PG (st co s c a b:Int) (s1 s2:Value) (w:World) (hc:¬(0≤c∧c<co)) :
  Calls prog 387 #[.agg #[.int .i64 st,.int .i64 co,s1,s2],.int .i64 s,.agg #[.int .i64 c,.int .i64 a,.int .i64 b]] w fun e w'=>e = .returned (.tuple #[.int .i64 s,.agg #[.int .i64 4,.int .i64 0]])∧Below w.heap.size w w':=by
 by_cases h0:c<0
 ·clear hc
  go_enter func387,ntmps387;go_wp2_with fail;generalize hW:World.alloc _ _=W;have hb0:Below w.heap.size w W:=by rw [←hW];exact ((aB w _).alloc (by simp) _).alloc (by simp;omega) _
  have hro:Row W (w.heap.size+1+1) 94 [.int .i64 0,.int .i64 0]:=by rw [←hW];exact aV (by simp)
  have hlt:=hro.lt;clear hW;refine (zC _).mono ?_;rintro e w4 ⟨rfl,hb⟩;have cK:=hro.old hb;have a0:w4.cell? ⟨w.heap.size+1+1,0,none⟩=some (.int .i64 0):=cK.cell_of rfl;have a1:w4.cell? ⟨w.heap.size+1+1,1,none⟩=some (.int .i64 0):=cK.cell_of rfl;have f0:=cK.frozen 0;have f1:=cK.frozen 1;have sB:=aA (cK.set 0 (.int .i64 4) |>.set 1 (.int .i64 0));have HB:=aA (aS hb0 hb hb0.size);clear hb hro cK hb0;go_wp2_with fail;have q1:=sB.out.cell_of (i:=0) rfl;have q2:=sB.out.cell_of (i:=1) rfl;exact cR (v:=.tuple #[.int .i64 s,.agg #[.int .i64 4,.int .i64 0]]) (by simp [results,results387,go_sem,q1,q2]) rfl ⟨rfl,(HB.out.setCell (by simp;omega) _).setCell (by simp;omega) _⟩
 ·have h1:co≤c:=by omega
  clear hc;go_enter func387,ntmps387;go_wp2_with fail;generalize hW:World.alloc _ _=W;have hb0:Below w.heap.size w W:=by rw [←hW];exact ((aB w _).alloc (by simp) _).alloc (by simp;omega) _
  have hro:Row W (w.heap.size+1+1) 94 [.int .i64 0,.int .i64 0]:=by rw [←hW];exact aV (by simp)
  have hlt:=hro.lt;clear hW;refine (zC _).mono ?_;rintro e w4 ⟨rfl,hb⟩;have cK:=hro.old hb;have a0:w4.cell? ⟨w.heap.size+1+1,0,none⟩=some (.int .i64 0):=cK.cell_of rfl;have a1:w4.cell? ⟨w.heap.size+1+1,1,none⟩=some (.int .i64 0):=cK.cell_of rfl;have f0:=cK.frozen 0;have f1:=cK.frozen 1;have sB:=aA (cK.set 0 (.int .i64 4) |>.set 1 (.int .i64 0));have HB:=aA (aS hb0 hb hb0.size);clear hb hro cK hb0;go_wp2_with fail;have q1:=sB.out.cell_of (i:=0) rfl;have q2:=sB.out.cell_of (i:=1) rfl;exact cR (v:=.tuple #[.int .i64 s,.agg #[.int .i64 4,.int .i64 0]]) (by simp [results,results387,go_sem,q1,q2]) rfl ⟨rfl,(HB.out.setCell (by simp;omega) _).setCell (by simp;omega) _⟩
theorem RB (st co s c a b x y:Int) (g1 g2 m1 k1 m2 k2 i:Nat) (w:World) (c0:0≤c) (c1:c<co) (hi:(i:Int)=s*co+c) (p0:0≤s*co) (p1:s*co≤1024) (hi1:i<1024) (h1:i<m1) (h2:i<m2) (x1:w.cell? ⟨g1,i,none⟩=some (.int .i64 x)) (y1:w.cell? ⟨g2,i,none⟩=some (.int .i64 y)) :
  Calls prog 387 #[.agg #[.int .i64 st,.int .i64 co,.slice (some ⟨g1,0,none⟩) m1 k1,.slice (some ⟨g2,0,none⟩) m2 k2],.int .i64 s,.agg #[.int .i64 c,.int .i64 a,.int .i64 b]] w fun e w'=>e = .returned (.tuple #[.int .i64 x,.agg #[.int .i64 1,.int .i64 y]])∧Below w.heap.size w w':=by
 have h0:¬c<0:=by omega
 have hc:¬co≤c:=by omega
 have hm:wrap64 (s*co)=s*co:=by unfold wrap64;omega
 have ha:wrap64 (s*co+c)=(i:Int):=by rw [←hi];unfold wrap64;omega
 have hi':s*co+c=(i:Int):=hi.symm;have hi0:(0:Int)≤(i:Int):=by omega
 have aLD:(i:Int)<(m1:Int):=by omega
 have aLE:(i:Int)<(m2:Int):=by omega
 have aLF:(i:Int)≤9223372036854775807:=by omega
 clear hi;have hg1:g1<w.heap.size:=mX w _ x1;have hg2:g2<w.heap.size:=mX w _ y1;go_enter func387,ntmps387;go_upto_region 1 with fail;generalize hW:World.alloc (World.alloc (World.alloc w _) _) _=W;have hb0:Below w.heap.size w W:=by rw [←hW];exact ((aB w _).alloc (by simp) _).alloc (by simp;omega) _
 have r3:Row W w.heap.size 152 [.int .i64 st,.int .i64 co,.slice (some ⟨g1,0,none⟩) m1 k1,.slice (some ⟨g2,0,none⟩) m2 k2]:=by rw [←hW];exact ((aV rfl).alloc _).alloc _
 have r5:Row W (w.heap.size+1) 36 [.int .i64 c,.int .i64 a,.int .i64 b]:=by rw [←hW];exact (aV (by simp)).alloc _
 have r7:Row W (w.heap.size+1+1) 94 [.int .i64 0,.int .i64 0]:=by rw [←hW];exact aV (by simp)
 have x1':=aI hb0 x1;have y1':=aI hb0 y1;have o0:=r5.cell_of (i:=0) rfl;have d1:=r3.cell_of (i:=1) rfl;have d2:=r3.cell_of (i:=2) rfl;have d3:=r3.cell_of (i:=3) rfl;have hlt:=r7.lt;have fG:=aA hb0;have DF:=aA r7;clear hW hb0 r3 r5 r7 x1 y1;go_upto_region 4 with fail;have FC:W.there (w.heap.size+1+1) 0 2:=DF.out.there (by simp);have hk9:=fun (W':World) (vs:List Value) (p:Addr) (hp:p.block<w.heap.size+1+1)=>(cO (B:=w.heap.size+1+1) (b:=w.heap.size+1+1) (bQ _) vs 0 W' (aT _ _)).cell (p:=p) hp
 refine fH (S:=(fun w'=>w'.there (w.heap.size+1+1) 0 2∧Below w.heap.size w w'∧w'.cell? ⟨w.heap.size,2,none⟩=some (.slice (some ⟨g1,0,none⟩) m1 k1)∧w'.cell? ⟨w.heap.size,3,none⟩=some (.slice (some ⟨g2,0,none⟩) m2 k2)∧w'.cell? ⟨g1,i,none⟩=some (.int .i64 x)∧w'.cell? ⟨g2,i,none⟩=some (.int .i64 y))) 15 rfl (by kernel_rfl) ?_ (fun hHeld=>?_)
 ·exact ⟨FC,fG.out.drew,d2,d3,x1',y1'⟩
 iterate 12 (refine tk 14 (by rfl) (by kernel_rfl) (by exact fun _ _ _ h=>h) (.inl ⟨by rfl,fun w hS=>by (try dsimp only at hS);go_simp;(try with_reducible rfl)⟩) (by assumption) ?_;try go_frame)
 refine cT 12 (by rfl) (by kernel_rfl) (fun K hK=>?_);go_simp;refine (uU _ _).mono ?_;rintro e w2 ⟨rfl,bI⟩;go_wp2_with fail;refine hK.out _ _ ?_ (fun hHeld=>?_)
 ·exact ⟨aU bI hHeld.1,aS hHeld.2.1 bI hHeld.2.1.size,aI bI hHeld.2.2.1,aI bI hHeld.2.2.2.1,aI bI hHeld.2.2.2.2.1,aI bI hHeld.2.2.2.2.2⟩
 clear hK K
 (try go_frame)
 iterate 1 (refine tk 14 (by rfl) (by kernel_rfl) (by exact fun _ _ _ h=>h) (.inl ⟨by rfl,fun w hS=>by (try dsimp only at hS);go_simp;(try with_reducible rfl)⟩) (by assumption) ?_;try go_frame)
 refine cT 14 (by rfl) (by kernel_rfl) (fun K hK=>?_);rw [aJ (by rfl)];have e1:=pO _ (w.heap.size+1+1) 0 [.int .i64 1,.int .i64 y] hHeld.1;refine nK _ _ _ rfl _ 0 #[.int .i64 1,.int .i64 y] rfl rfl hHeld.1 (by kernel_rfl) (by simp [Value.oneCell']) ?_;refine hK.out _ _ ?_ (fun hHeld=>?_)
 ·exact ⟨EA hHeld.1 _ _ _,cO (by omega) _ _ _ hHeld.2.1,(hk9 _ _ _ (by dsimp only;omega)).trans hHeld.2.2.1,(hk9 _ _ _ (by dsimp only;omega)).trans hHeld.2.2.2.1,(hk9 _ _ _ (by dsimp only;omega)).trans hHeld.2.2.2.2.1,(hk9 _ _ _ (by dsimp only;omega)).trans hHeld.2.2.2.2.2⟩
 clear hK K
 (try go_frame)
 refine cC (by kernel_rfl) ?_ _;have q1:=e1 0 _ rfl;have q2:=e1 1 _ rfl;have HB9:=aA hHeld.2.1;clear hHeld;go_wp2_with fail;exact cR (v:=.tuple #[.int .i64 x,.agg #[.int .i64 1,.int .i64 y]]) (by simp [results,results387,go_sem,q1,q2]) rfl ⟨rfl,HB9.out⟩
theorem WA (a b c d:Value) (w:World):(method 553 152 (.agg #[a,b,c,d]) "Apply").run prog w = .ok (387,.agg #[a,b,c,d]) w:=by kernel_rfl
theorem VZ (a b c d s o:Value) (w:World):(callFunc 387 #[.agg #[a,b,c,d],s,o]).run prog w = .ok (.enter 387 #[.agg #[a,b,c,d],s,o]) w:=by kernel_rfl
def sD (w:World) (g:Nat) (l:List Int):Prop:=g<w.heap.size∧∀ i x,l[i]?=some x→w.cell? ⟨g,i,none⟩=some (.int .i64 x)
theorem sD.stay {w w':World} {g:Nat} {l:List Int} (h:sD w g l) (hk:w'.heap[g]?=w.heap[g]?):sD w' g l:=by
 refine ⟨?_,fun i x hx=>?_⟩
 ·rw [Array.getElem?_eq_getElem h.1] at hk
  exact (Array.getElem?_eq_some_iff.mp hk).1
 ·rw [World.cell?_of_block (w:=w) hk]
  exact h.2 i x hx
theorem sD.later {w w':World} {g:Nat} {l:List Int} (h:sD w g l) (hb:Below w.heap.size w w'):sD w' g l:=h.stay (hb.block g h.1)
def jz (g1 g2:Nat) (st:Int) (nx ou:List Int):int.SR Int where
 sz _:=0
 rep I w s c:=c=[.int .i64 s]∧(0≤s∧s<st)∧(I g1∧sD w g1 nx)∧I g2∧sD w g2 ou
 len h:=by rw [h.1];rfl
 shape h v hv:=by rw [h.1] at hv;exact ⟨_,oP.mp hv⟩
 stay hk h:=⟨h.1,h.2.1,⟨(hk _ h.2.2.1.1 h.2.2.1.2.1).1,h.2.2.1.2.stay (hk _ h.2.2.1.1 h.2.2.1.2.1).2⟩,(hk _ h.2.2.2.1 h.2.2.2.2.1).1,h.2.2.2.2.stay (hk _ h.2.2.2.1 h.2.2.2.2.1).2⟩
theorem aDp {st co:Int} {nx ou:List Int} (ht:bR st co nx ou=true) (g1 k1 g2 k2:Nat) (L:int.Lt) (ho:L.oT=152) (hv:L.ov = .agg #[.int .i64 st,.int .i64 co,.slice (some ⟨g1,0,none⟩) nx.length k1,.slice (some ⟨g2,0,none⟩) ou.length k2]) :
  int.bG (jz g1 g2 st nx ou) (EW co nx ou) L 387 (.agg #[.int .i64 st,.int .i64 co,.slice (some ⟨g1,0,none⟩) nx.length k1,.slice (some ⟨g2,0,none⟩) ou.length k2]):=by
 refine ⟨⟨aW _,fun _ _=>aW _⟩,fun W=>by rw [ho,hv];exact WA _ _ _ _ W,fun s o W=>VZ _ _ _ _ s o W,fun I W s x op hr _ hI=>?_⟩;obtain ⟨hx,⟨h0,h1⟩,⟨i1,c1⟩,i2,c2⟩:=hr;have hx:x = .int .i64 s:=by simpa using hx
 subst hx
 by_cases hc:0≤op.c∧op.c<co
 ·obtain ⟨i,hi,l1,l2,l3,p0,p1,n0,n1⟩:=ZR ht h0 h1 hc.1 hc.2
  have e:(EW co nx ou).apply s op=(nx.getD i 0,⟨1,ou.getD i 0⟩):=by
   show (if _ then _ else _)=_;rw [aJ hc,←hi];rfl
  refine (RB st co s op.c op.a op.b _ _ g1 g2 _ k1 _ k2 i W hc.1 hc.2 hi p0 p1 l3 l1 l2 (c1.2 i _ (FX l1)) (c2.2 i _ (FX l2))).mono ?_;rintro e' w' ⟨rfl,hb⟩;rw [e];exact ⟨_,rfl,⟨rfl,⟨n0,n1⟩,⟨.inl i1,c1.later hb⟩,.inl i2,c2.later hb⟩,hb⟩
 ·have e:(EW co nx ou).apply s op=(s,⟨4,0⟩):=by
   show (if _ then _ else _)=_;rw [aN hc]
  refine (PG st co s op.c op.a op.b _ _ W hc).mono ?_;rintro e' w' ⟨rfl,hb⟩;rw [e];exact ⟨_,rfl,⟨rfl,⟨h0,h1⟩,⟨.inl i1,c1.later hb⟩,.inl i2,c2.later hb⟩,hb⟩
theorem aDq {st co:Int} {nx ou:List Int} (g1 k1 g2 k2:Nat) (L:int.Lt) (ho:L.oT=152) (hv:L.ov = .agg #[.int .i64 st,.int .i64 co,.slice (some ⟨g1,0,none⟩) nx.length k1,.slice (some ⟨g2,0,none⟩) ou.length k2]) :
  int.tR (jz g1 g2 st nx ou) L (fun s=>[s]) 388 (.agg #[.int .i64 st,.int .i64 co,.slice (some ⟨g1,0,none⟩) nx.length k1,.slice (some ⟨g2,0,none⟩) ou.length k2]) where
 m W:=by rw [ho,hv];kernel_rfl
 c s W:=ZQ _ _ _ _ s W
 f I W s x hr _ _:=by
  have e:x=s:=by simpa using hr.1
  subst e;exact yd _ _ _ _ x W
end Go.Proofs.YtefjhnhdagolhaaGreat
namespace Go.Proofs.YtefjhnhdagolhaaGreat
open Tryz
open M (aR bJ Dd Plc)
namespace M
def tg:Nat→List (List Nat)→List (Nat×Nat)
 |_,[]=>[]
 |o,p::bs=>(p.map fun t=>(o,t))++tg (o+1) bs
section
variable {σ:Type} {P:Plain σ} {n cap:Nat} {Y:aR} {D:List Dd} {u:Nat→Option Nat} {c k:Nat} {sn:List Bool}
end
end M
section
variable {σ:Type} {P:M.Plain σ} {n cap:Nat} {Y:aR} {D:List Dd} {u:Nat→Option Nat} {c k:Nat}
end
end Go.Proofs.YtefjhnhdagolhaaGreat
namespace Go.Proofs.YtefjhnhdagolhaaGreat
open Tryz
open Go.RowKit
open M (aM aC aD aR bJ Dd Plc)
attribute [local go_sem ↓] Go.wp_at_zero Go.wp_at_succ
section
variable {σ:Type} {P:M.Plain σ} {tell:σ→List Int} {w:World} {Y:aR} {ds:List Dd} {c n cap:Nat} {u:Nat→Option Nat}
theorem mg {w:World} {b:Nat} {t:TypeId} {x0 x1 x2 x3 x4 x5 x6:Value} (h:Row w b t [x0,x1,x2,x3,x4,x5,x6]):w.cell? ⟨b,0,none⟩=some x0∧w.cell? ⟨b,1,none⟩=some x1∧w.cell? ⟨b,2,none⟩=some x2∧w.cell? ⟨b,3,none⟩=some x3∧w.cell? ⟨b,4,none⟩=some x4∧w.cell? ⟨b,5,none⟩=some x5∧w.cell? ⟨b,6,none⟩=some x6:=⟨h.cell_of rfl,h.cell_of rfl,h.cell_of rfl,h.cell_of rfl,h.cell_of rfl,h.cell_of rfl,h.cell_of rfl⟩
end
end Go.Proofs.YtefjhnhdagolhaaGreat
namespace Go.Proofs.YtefjhnhdagolhaaGreat
open Tryz
open Go.RowKit
open M (aR)
attribute [local go_sem ↓] Go.wp_at_zero Go.wp_at_succ
theorem dh (kind th cap st co kind' th' cap' st' co':Int) (nx ou xh xj:List Int) (a1 a2 a3 a4:Option Addr) (c1 c2 c3 c4:Nat) (l l':List AK) (hl:l.length≤200000) (hl':l'.length≤200000) (hi:∀ x∈l,MA x.t∧MA x.n) (hi':∀ x∈l',MA x.t∧MA x.n) (s s':Value) (w:World) (hs:Scr w s l) (hs':Scr w s' l')
  (hn:Sl w (.slice a1 nx.length c1) (ints nx)) (ho:Sl w (.slice a2 ou.length c2) (ints ou)) (hn':Sl w (.slice a3 xh.length c3) (ints xh)) (ho':Sl w (.slice a4 xj.length c4) (ints xj))
  (h1:aAc kind th cap st co nx ou (.slice a1 nx.length c1) (.slice a2 ou.length c2)) (h2:aAc kind' th' cap' st' co' xh xj (.slice a3 xh.length c3) (.slice a4 xj.length c4)) :
  Calls prog 8 #[.agg #[.int .i64 kind,.int .i64 th,.int .i64 cap,.int .i64 st,.int .i64 co,.slice a1 nx.length c1,.slice a2 ou.length c2],.agg #[.int .i64 kind',.int .i64 th',.int .i64 cap',.int .i64 st',.int .i64 co',.slice a3 xh.length c3,.slice a4 xj.length c4],s,s'] w fun e w'=>e = .returned (.bool true)∧Below w.heap.size w w':=by
 obtain ⟨sa,sc,rfl,hs⟩:=hs;obtain ⟨sa',sc',rfl,hs'⟩:=hs';have HS:=aA hs;have HS':=aA hs';have HI:=aA hi;have HI':=aA hi';have H1:=aA (fun (W:World) (hW:Below w.heap.size w W)=>h1 W (hn.below hW) (ho.below hW));have H2:=aA (fun (W:World) (hW:Below w.heap.size w W)=>h2 W (hn'.below hW) (ho'.below hW));clear hs hs' hi hi' h1 h2 hn ho hn' ho';go_enter func8,ntmps8;go_upto_region 1 with fail;generalize hW:World.alloc (World.alloc w _) _=W;have hb0:Below w.heap.size w W:=by rw [←hW];exact (aB w _).alloc (by simp) _
 have rB:Row W w.heap.size 26 [.int .i64 kind,.int .i64 th,.int .i64 cap,.int .i64 st,.int .i64 co,.slice a1 nx.length c1,.slice a2 ou.length c2]:=by rw [←hW];exact (aV rfl).alloc _
 have rC:Row W (w.heap.size+1) 26 [.int .i64 kind',.int .i64 th',.int .i64 cap',.int .i64 st',.int .i64 co',.slice a3 xh.length c3,.slice a4 xj.length c4]:=by rw [←hW];exact aV (by simp)
 obtain ⟨x0,x1,x2,x3,x4,x5,x6⟩:=mg rB;have HB:=aA hb0;have HRC:=aA rC;clear rB rC hb0 hW;go_wp2_with fail;refine (H1.out _ HB.out).mono ?_;rintro e w1 ⟨eN,yG⟩;obtain ⟨y0,y1,y2,y3,y4,y5,y6⟩:=mg (HRC.out.old eN);have hB1:=aS HB.out eN HB.out.size;have H2W:=aA (H2.out w1 hB1);have oU:=aA (aP eN hB1);clear eN hB1 x0 x1 x2 x3 x4 x5 x6 H1 H2 HRC
 rcases yG with rfl|⟨b,J,U,rfl,g1,j1,u1⟩
 all_goals
  go_wp2_with fail;refine H2W.out.mono ?_;rintro e w2 ⟨bI,BA⟩;have pW:=aA (aP bI (aS oU.out.2 bI oU.out.2.size));clear bI y0 y1 y2 y3 y4 y5 y6 H2W
  rcases BA with rfl|⟨b',J',U',rfl,g2,j2,u2⟩
 ·go_wp2
  go_ret;exact ⟨rfl,pW.out.2⟩
 ·go_wp2
  go_ret;exact ⟨rfl,pW.out.2⟩
 ·go_wp2
  go_ret;exact ⟨rfl,pW.out.2⟩
 ·have hap:AP J J' W 0 0 w2:=AP.two g1 j1 u1 oU.out.1 pW.out.1 j2 u2
  have HG:=aA (aP g1 g2);have zi:=aA hap;clear hap g1 g2 j1 j2 u1 u2;go_wp2
  go_loopw [10,13] (fun o i w'=>∃ k:Nat,k≤200000∧(k≤l.length∨k≤l'.length)∧i = .int .i64 (k:Int)∧o = .bool true∧AP J J' W k k w') (fun _ i _=>l.length+l'.length-(intOf i).toNat)
  case atStart=>exact ⟨0,aW _,.inl (aW _),rfl,rfl,zi.out⟩
  case round =>
   clear zi;obtain ⟨k,hk,hkk,rfl,rfl,hap⟩:=hrel;have hB:=aS HB.out hap.bl HB.out.size;have WU:(0:Int)≤(k:Int):=by omega
   by_cases k1:k<l.length
   ·have k1':(k:Int)<(l.length:Int):=by omega
    obtain ⟨g,off,rfl,hcs⟩:=HS.out (by omega);have he:l[k]?=some l[k]:=eT k1;obtain ⟨d0,d1,d2,d3,d4,d5⟩:=hcs k _ he;obtain ⟨i1,i2⟩:=HI.out _ (PS he);generalize l[k]=x at he d0 d1 d2 d3 d4 d5 i1 i2;replace d0:=aI hB d0;replace d1:=aI hB d1;replace d2:=aI hB d2;replace d3:=aI hB d3;replace d4:=aI hB d4;replace d5:=aI hB d5;have WJ:=aA (hap.act HG.out.1 HG.out.2 x (by omega) i1 i2);unfold AK.val at WJ;clear hB hap hcs he i1 i2
    by_cases k2:k<l'.length
    ·have k2':(k:Int)<(l'.length:Int):=by omega
     go_wp2_with fail;refine WJ.out.mono ?_;rintro e wA ⟨rfl,uz⟩;clear d0 d1 d2 d3 d4 d5 WJ;have hB:=aS HB.out uz.bl HB.out.size;obtain ⟨g',off',rfl,hcs⟩:=HS'.out (by omega);have he:l'[k]?=some l'[k]:=eT k2;obtain ⟨d0,d1,d2,d3,d4,d5⟩:=hcs k _ he;obtain ⟨i1,i2⟩:=HI'.out _ (PS he);generalize l'[k]=x at he d0 d1 d2 d3 d4 d5 i1 i2;replace d0:=aI hB d0;replace d1:=aI hB d1;replace d2:=aI hB d2;replace d3:=aI hB d3;replace d4:=aI hB d4;replace d5:=aI hB d5;have JD:=aA (uz.swap.act HG.out.2 HG.out.1 x (by omega) i1 i2);unfold AK.val at JD;clear hB uz hcs he i1 i2;go_wp2_with fail;refine JD.out.mono ?_;rintro e wB ⟨rfl,aAJ⟩;have XX:=aAJ.swap;clear d0 d1 d2 d3 d4 d5 JD aAJ;have qm:=aA (XX.looks HG.out.1 HG.out.2 (by omega));clear XX;go_wp2_with fail;refine qm.out.mono ?_;rintro e wC ⟨rfl,XY⟩;have XA:=aA (XY.swap.looks HG.out.2 HG.out.1 (by omega));clear XY qm;go_wp2_with fail;refine XA.out.mono ?_;rintro e wD ⟨rfl,XZ⟩;have HP4:=aA XZ.swap;clear XZ XA;go_wp2;go_roundw
     case rel=>exact ⟨k+1,by omega,by omega,by go_num,rfl,HP4.out⟩
     case measure=>simp [intOf];omega
    ·have k2':¬(k:Int)<(l'.length:Int):=by omega
     go_wp2_with fail;refine WJ.out.mono ?_;rintro e wA ⟨rfl,uz⟩;have XX:=uz.mono HG.out.1 HG.out.2 (k:=k+1) (bQ _) (by omega);clear d0 d1 d2 d3 d4 d5 WJ uz;have qm:=aA (XX.looks HG.out.1 HG.out.2 (by omega));clear XX;go_wp2_with fail;refine qm.out.mono ?_;rintro e wC ⟨rfl,XY⟩;have XA:=aA (XY.swap.looks HG.out.2 HG.out.1 (by omega));clear XY qm;go_wp2_with fail;refine XA.out.mono ?_;rintro e wD ⟨rfl,XZ⟩;have HP4:=aA XZ.swap;clear XZ XA;go_wp2;go_roundw
     case rel=>exact ⟨k+1,by omega,by omega,by go_num,rfl,HP4.out⟩
     case measure=>simp [intOf];omega
   ·have k1':¬(k:Int)<(l.length:Int):=by omega
    by_cases k2:k<l'.length
    ·have k2':(k:Int)<(l'.length:Int):=by omega
     obtain ⟨g',off',rfl,hcs⟩:=HS'.out (by omega);have he:l'[k]?=some l'[k]:=eT k2;obtain ⟨d0,d1,d2,d3,d4,d5⟩:=hcs k _ he;obtain ⟨i1,i2⟩:=HI'.out _ (PS he);generalize l'[k]=x at he d0 d1 d2 d3 d4 d5 i1 i2;replace d0:=aI hB d0;replace d1:=aI hB d1;replace d2:=aI hB d2;replace d3:=aI hB d3;replace d4:=aI hB d4;replace d5:=aI hB d5;have JD:=aA (hap.swap.act HG.out.2 HG.out.1 x (by omega) i1 i2);unfold AK.val at JD;clear hB hap hcs he i1 i2;go_wp2_with fail;refine JD.out.mono ?_;rintro e wB ⟨rfl,aAJ⟩;have XX:=aAJ.swap.mono HG.out.1 HG.out.2 (k:=k+1) (by omega) (bQ _);clear d0 d1 d2 d3 d4 d5 JD aAJ;have qm:=aA (XX.looks HG.out.1 HG.out.2 (by omega));clear XX;go_wp2_with fail;refine qm.out.mono ?_;rintro e wC ⟨rfl,XY⟩;have XA:=aA (XY.swap.looks HG.out.2 HG.out.1 (by omega));clear XY qm;go_wp2_with fail;refine XA.out.mono ?_;rintro e wD ⟨rfl,XZ⟩;have HP4:=aA XZ.swap;clear XZ XA;go_wp2;go_roundw
     case rel=>exact ⟨k+1,by omega,by omega,by go_num,rfl,HP4.out⟩
     case measure=>simp [intOf];omega
    ·have k2':¬(k:Int)<(l'.length:Int):=by omega
     have HL1:=aA (hap.last HG.out.1 HG.out.2 (by omega));clear hap hB;go_wp2_with fail;refine HL1.out.mono ?_;rintro e wE ⟨rfl,UE,jE,uE,bE⟩;have NB:=aA (HG.out.2.last UE k wE (by omega) jE);have HE:=aA (aP uE bE);clear jE uE bE HL1;go_wp2_with fail;refine NB.out.mono ?_;rintro e wF ⟨rfl,fF⟩;have HF:=aA (aS HB.out (AR HE.out.2 fF HE.out.1) HB.out.size);clear fF NB HE;go_wp2;go_ret;exact ⟨rfl,HF.out⟩
end Go.Proofs.YtefjhnhdagolhaaGreat
