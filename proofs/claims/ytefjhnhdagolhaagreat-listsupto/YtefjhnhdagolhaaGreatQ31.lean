import Derived.Test.YtefjhnhdagolhaaGreatQ30
import Derived.Test.YtefjhnhdagolhaaGreatQ13
import Derived.Deep.LoopGhost
namespace Go.Proofs.YtefjhnhdagolhaaGreat
open Go.RowKit
open M (aI aC aD aR aT cnt marks tagged num YI)
attribute [local go_sem ↓] Go.wp_at_zero Go.wp_at_succ
structure DW {σ:Type} (P:M.Plain σ) (Au:Nat→World→Prop) (L:DL) (S:Nat→Prop) (Y:aR) (w:World):Prop where
 doc:Doc L S Y w
 yi:YI P L.n L.cap Y
 au:∃ B,(∀ k,S k→B≤k)∧B≤w.heap.size∧Au B w
structure DS {σ:Type} (P:M.Plain σ) (tell:σ→List Int) (sz:σ→Nat) (HM:World→Value→σ→Prop) (Au:Nat→World→Prop) (L:DL):Prop where
 d:VX L P tell sz HM (XL L)
 au:∀ B w w',Au B w→(∀ k,k<B→w'.heap[k]?=w.heap[k]?)→Au B w'
 vn:∃ a l c,L.vn = .slice a l c
 vo:∃ a l c,L.vo = .slice a l c
structure lM {σ:Type} (P:M.Plain σ) (Au:Nat→World→Prop) (L:DL) (S:Nat→Prop) (w:World) (Y':aR) (w':World):Prop where
 dw:DW P Au L (Grow S w w') Y' w'
 fr:Fr S w w'
def fJ (L:DL) (K:Nat) (Y:aR):Prop:=(∀ t,t<L.n→(Y.th t).ops.length≤K)∧Y.bs.length≤K
section
variable {σ:Type} {L:DL} {P:M.Plain σ} {tell:σ→List Int} {sz:σ→Nat} {HM:World→Value→σ→Prop} {Au:Nat→World→Prop} {S:Nat→Prop} {Y Y' vK:aR} {w w1 w2:World} {t K:Nat}
theorem DW.n (h:DW P Au L S Y w):1≤L.n∧L.n≤64∧L.cap≤64:=by obtain ⟨bC,vo,vp,vb,bv,q⟩:=h.doc;exact ⟨q.n1,q.n64,q.vD⟩
theorem DW.left (ds:DS P tell sz HM Au L) (h:DW P Au L S Y w) (hl:dL L S w Y' w1) (hy:YI P L.n L.cap Y'):lM P Au L S w Y' w1:=by
 obtain ⟨B,h1,h2,h3⟩:=h.au
 refine ⟨⟨hl.doc,hy,B,fun k hk=>?_,Nat.le_trans h2 hl.fr.size,ds.au B w w1 h3 fun k hk=>hl.fr.block k (by omega) fun c=>by have:=h1 k c;omega⟩,hl.fr⟩
 rcases hk with hk|hk
 ·exact h1 k hk
 ·omega
theorem DW.below (ds:DS P tell sz HM Au L) (h:DW P Au L S Y w) (hb:Below w.heap.size w w1):lM P Au L S w Y w1:=h.left ds (dL.below h.doc hb) h.yi
theorem lM.next (h:lM P Au L S w Y' w1) (h':lM P Au L (Grow S w w1) w1 vK w2):lM P Au L S w vK w2:=by
 have hl:=dL.next (⟨h.dw.doc,h.fr⟩:dL L S w Y' w1) ⟨h'.dw.doc,h'.fr⟩
 obtain ⟨B,h1,h2,h3⟩:=h'.dw.au
 refine ⟨⟨hl.doc,h'.dw.yi,B,fun k hk=>?_,h2,h3⟩,hl.fr⟩
 rcases hk with hk|hk
 ·exact h1 k (.inl (.inl hk))
 ·rcases Nat.lt_or_ge k w1.heap.size with q|q
  ·exact h1 k (.inl (.inr ⟨hk.1,q⟩))
  ·exact h1 k (.inr ⟨q,hk.2⟩)
theorem DW.stay (ds:DS P tell sz HM Au L) (h:DW P Au L S Y w) (hk:∀ k,S k∨(∀ j,S j→k<j)→k<w.heap.size→w1.heap[k]?=w.heap[k]?) (hz:w.heap.size≤w1.heap.size):DW P Au L S Y w1:=by
 obtain ⟨B,h1,h2,h3⟩:=h.au
 refine ⟨h.doc.stay (fun k hS=>hk k (.inl hS) (h.doc.lt k hS)) (fun _ h=>h) (fun k hS=>Nat.lt_of_lt_of_le (h.doc.lt k hS) hz),h.yi,B,h1,Nat.le_trans h2 hz,ds.au B w w1 h3 fun k hkB=>hk k (.inr fun j hj=>Nat.lt_of_lt_of_le hkB (h1 j hj)) (by omega)⟩
theorem DW.aGq (h:DW P Au L S Y w) (hK:fJ L 1000000000 Y) (ht:t<L.n) (hp:(Y.th t).part≠0):aDd L Y t:=by
 have y:=h.yi.ok
 have T:=y.th t ht
 obtain ⟨q1,q2,q3⟩:=h.n
 have f:=y.fl t ht
 have b:=hK.1 t ht
 refine ⟨(T.p2 hp).1,(T.p2 hp).2,by omega,T.p1,by omega,by omega,T.bc,hK.2,fun h8 FF=>Nat.le_trans (y.pl t ht h8 FF) q2,fun h7 k hk=>?_⟩
 have:=y.ops k hk
 have:=hK.1 k hk
 have:=y.rd t ht (by omega) (by omega) k hk
 have:=(y.fl k hk).1
 omega
theorem DW.ask (ds:DS P tell sz HM Au L) (h:DW P Au L S Y w) (hK:fJ L 1000000000 Y):NG L P tell sz HM (XL L) Y w:=by
 obtain ⟨bC,vo,vp,vb,bv,q⟩:=h.doc
 have:=h.yi.all h.n.2.1 hK.1
 refine ⟨ds.d,h.yi.ok.mem,h.yi.ok.ops,by omega,⟨w.heap.size,Nat.le_refl _,fun k5=>?_⟩,ds.vn,ds.vo⟩
 obtain ⟨g1,g2,h1,h2,h3,h4,-⟩:=q.au k5
 exact ⟨g1,g2,h1,h2,h3,h4,h3.lt,h4.lt⟩
theorem vV (ds:DS P tell sz HM Au L) (h:DW P Au L S Y w) (hK:fJ L 1000000000 Y) (o:M.Op) :
  (∀ x:Int,¬(0≤x∧x<L.n)→Calls Tryz.prog 43 #[.pointer (some ⟨L.b,0,none⟩),.int .i64 x,.agg #[.int .i64 o.c,.int .i64 o.a,.int .i64 o.b]] w fun e w'=>e = .returned (.int .i64 3)∧lM P Au L S w Y w')
  ∧ (∀ t,t<L.n→(Y.th t).part≠0→Calls Tryz.prog 43 #[.pointer (some ⟨L.b,0,none⟩),.int .i64 (t:Int),.agg #[.int .i64 o.c,.int .i64 o.a,.int .i64 o.b]] w fun e w'=>e = .returned (.int .i64 4)∧lM P Au L S w Y w')
  ∧ ∀ t,t<L.n→(Y.th t).part=0→Calls Tryz.prog 43 #[.pointer (some ⟨L.b,0,none⟩),.int .i64 (t:Int),.agg #[.int .i64 o.c,.int .i64 o.a,.int .i64 o.b]] w fun e w'=>e = .returned (.int .i64 0)∧lM P Au L S w (M.cQ Y t o) w':=by
 obtain ⟨bC,vo,vp,vb,bv,q⟩:=h.doc
 refine ⟨fun x hx=>?_,fun t ht hp=>?_,fun t ht hp=>?_⟩
 ·refine (tA q x hx o).mono ?_
  rintro e w' ⟨rfl,hb⟩
  exact ⟨rfl,h.below ds hb⟩
 ·refine (qO q ht hp o).mono ?_
  rintro e w' ⟨rfl,hb⟩
  exact ⟨rfl,h.below ds hb⟩
 ·refine (zX q ht hp o (hK.1 t ht)).mono ?_
  rintro e w' ⟨rfl,hb⟩
  exact ⟨rfl,h.left ds hb (h.yi.begin ht hp o)⟩
theorem DT (ds:DS P tell sz HM Au L) (h:DW P Au L S Y w) (hK:fJ L 1000000000 Y) :
  (∀ x:Int,¬(0≤x∧x<L.n)→Calls Tryz.prog 53 #[.pointer (some ⟨L.b,0,none⟩),.int .i64 x] w fun e w'=>e = .returned (.tuple #[.int .i64 0,.int .i64 3])∧lM P Au L S w Y w')
  ∧ (∀ t,t<L.n→(Y.th t).part=0→Calls Tryz.prog 53 #[.pointer (some ⟨L.b,0,none⟩),.int .i64 (t:Int)] w fun e w'=>e = .returned (.tuple #[.int .i64 0,.int .i64 5])∧lM P Au L S w Y w')
  ∧ ∀ t,t<L.n→(Y.th t).part≠0→Calls Tryz.prog 53 #[.pointer (some ⟨L.b,0,none⟩),.int .i64 (t:Int)] w fun e w'=>e = .returned (.tuple #[.int .i64 (zW (M.cP L.n L.cap Y t).2),.int .i64 0])∧lM P Au L S w (M.cP L.n L.cap Y t).1 w':=by
 obtain ⟨bC,vo,vp,vb,bv,q⟩:=h.doc
 refine ⟨fun x hx=>?_,fun t ht hp=>?_,fun t ht hp=>?_⟩
 ·refine (GG q x hx).mono ?_
  rintro e w' ⟨rfl,rfl⟩
  exact ⟨rfl,h.below ds (Below.refl _ _)⟩
 ·refine (DM q ht hp).mono ?_
  rintro e w' ⟨rfl,rfl⟩
  exact ⟨rfl,h.below ds (Below.refl _ _)⟩
 ·refine (DN q ht (h.aGq hK ht hp)).mono ?_
  rintro e w' ⟨rfl,hb⟩
  exact ⟨rfl,h.left ds hb (h.yi.step (Nat.lt_of_lt_of_le (by decide) h.n.1) ht hp)⟩
def gN (P:M.Plain σ) (Y:aR) (t:Nat):M.MD:=(M.replay P (fun k i=>((Y.th k).ops).getD i ⟨0,0,0⟩) Y.bs).an t
theorem XO (P:M.Plain σ) (Y:aR) (t:Nat):(eK P Y Y.order.length).an t=gN P Y t:=by rw [gA,tB];rfl
def PO (P:M.Plain σ) (Y:aR) (t:Nat):Value:=if (Y.th t).part≠0 then .tuple #[.agg #[.int .i64 0,.int .i64 0],.int .i64 4] else if (Y.th t).ended=0 then .tuple #[.agg #[.int .i64 0,.int .i64 0],.int .i64 5] else .tuple #[.agg #[.int .i64 (gN P Y t).s,.int .i64 (gN P Y t).v],.int .i64 0]
theorem yI (ds:DS P tell sz HM Au L) (h:DW P Au L S Y w) (hK:fJ L 1000000000 Y) :
  (∀ x:Int,¬(0≤x∧x<L.n)→Calls Tryz.prog 54 #[.pointer (some ⟨L.b,0,none⟩),.int .i64 x] w fun e w'=>e = .returned (.tuple #[.agg #[.int .i64 0,.int .i64 0],.int .i64 3])∧Below w.heap.size w w')
  ∧ ∀ t,t<L.n→Calls Tryz.prog 54 #[.pointer (some ⟨L.b,0,none⟩),.int .i64 (t:Int)] w fun e w'=>e = .returned (PO P Y t)∧Below w.heap.size w w':=by
 obtain ⟨bC,vo,vp,vb,bv,q⟩:=h.doc
 refine ⟨fun x hx=>zZ q x hx,fun t ht=>?_⟩
 unfold PO
 by_cases hp:(Y.th t).part=0
 ·rw [if_neg (by simpa using hp)]
  by_cases he:(Y.th t).ended=0
  ·rw [if_pos he]
   exact yG q ht hp he
  ·rw [if_neg he,←XO]
   have:=h.yi.ok.fl t ht
   have:=hK.1 t ht
   exact yH (h.ask ds hK) q ht hp he (h.yi.ok.idle t ht hp) (by omega)
 ·rw [if_pos hp]
  exact yF q ht hp
theorem XP (ds:DS P tell sz HM Au L) (h:DW P Au L S Y w) (hK:fJ L 1000000000 Y) :
  Calls Tryz.prog 55 #[.pointer (some ⟨L.b,0,none⟩)] w fun e w'=>∃ v,e = .returned v∧w'.ownsRow w.heap.size 81 3 v Y.order.length (cU Y.order)∧Below w.heap.size w w':=by
 obtain ⟨bC,vo,vp,vb,bv,q⟩:=h.doc
 exact GI q (Nat.le_trans (h.ask ds hK).all (by decide))
theorem XQ (ds:DS P tell sz HM Au L) (h:DW P Au L S Y w) (hK:fJ L 1000000000 Y) :
  Calls Tryz.prog 56 #[.pointer (some ⟨L.b,0,none⟩)] w fun e w'=>∃ v,e = .returned v∧w'.ownsRow w.heap.size 3 1 v (tell (eK P Y Y.order.length).st).length (ints (tell (eK P Y Y.order.length).st))∧Below w.heap.size w w':=by
 obtain ⟨bC,vo,vp,vb,bv,q⟩:=h.doc
 exact docState (h.ask ds hK) q
end
end Go.Proofs.YtefjhnhdagolhaaGreat
namespace Go.Proofs.YtefjhnhdagolhaaGreat
open Go.RowKit
open M (aI aC aD aR aT cnt marks tagged num YI)
attribute [local go_sem ↓] Go.wp_at_zero Go.wp_at_succ
theorem fJ.mono {L:DL} {K K':Nat} {Y:aR} (h:fJ L K Y) (hk:K≤K'):fJ L K' Y:=⟨fun t ht=>Nat.le_trans (h.1 t ht) hk,Nat.le_trans h.2 hk⟩
theorem fJ.step {L:DL} {K:Nat} {Y:aR} (h:fJ L K Y) (t:Nat):fJ L (K+1) (M.cP L.n L.cap Y t).1 :=
 ⟨fun k hk=>by rw [M.AR];exact Nat.le_succ_of_le (h.1 k hk),Nat.le_trans (M.SA _ _ _ _).1 (Nat.succ_le_succ h.2)⟩
theorem fJ.begin {L:DL} {K:Nat} {Y:aR} (h:fJ L K Y) (t:Nat) (o:M.Op):fJ L (K+1) (M.cQ Y t o):=by
 refine ⟨fun k hk=>?_,Nat.le_succ_of_le h.2⟩
 unfold M.cQ M.aR.set
 by_cases e:k=t
 ·subst e
  simp only [aC,List.length_append,List.length_singleton]
  exact Nat.succ_le_succ (h.1 k hk)
 ·simp only [aD _ _ e]
  exact Nat.le_succ_of_le (h.1 k hk)
structure mG {σ:Type} (P:M.Plain σ) (L:DL) (t K:Nat) (Y':aR) (g:Nat) (Y:aR):Prop where
 yi:YI P L.n L.cap Y
 fin:M.fin L.n L.cap t Y=Y'
 jN:(Y.th t).jN L.n L.cap≤g
 gl:g≤5000
 lim:fJ L (K+(5000-g)) Y
 ops:(Y.th t).ops≠[]
theorem mG.step {σ:Type} {P:M.Plain σ} {L:DL} {t K g:Nat} {Y Y':aR} (h:mG P L t K Y' g Y) (hn:0<L.n) (ht:t<L.n) (hp:(Y.th t).part≠0):0<g∧mG P L t K Y' (g-1) (M.cP L.n L.cap Y t).1:=by
 have h1:=M.pW hn (h.yi.ok.th t ht) hp
 have h2:=h.jN
 have h3:=h.gl
 refine ⟨by omega,h.yi.step hn ht hp,(M.SB hn ht h.yi (by omega) hp).trans h.fin,by omega,by omega,(h.lim.step t).mono (by omega),by rw [M.AR];exact h.ops⟩
theorem mG.end {σ:Type} {P:M.Plain σ} {L:DL} {t K g:Nat} {Y Y':aR} (h:mG P L t K Y' g Y) (hp:(Y.th t).part=0):Y=Y':=(M.SC hp).symm.trans h.fin
theorem mG.begin {σ:Type} {P:M.Plain σ} {L:DL} {t K:Nat} {Y:aR} (hy:YI P L.n L.cap Y) (rN:L.n≤64) (hc:L.cap≤64) (ht:t<L.n) (hp:(Y.th t).part=0) (hK:fJ L K Y) (o:M.Op):mG P L t (K+1) (M.fin L.n L.cap t (M.cQ Y t o)) 5000 (M.cQ Y t o):=by
 refine ⟨hy.begin ht hp o,rfl,?_,Nat.le_refl _,(hK.begin t o).mono (by omega),?_⟩
 ·rw [M.wQ];have:=M.FJ rN hc;omega
 ·unfold M.cQ M.aR.set
  simp [aC]
section
variable {σ:Type} {L:DL} {P:M.Plain σ} {tell:σ→List Int} {sz:σ→Nat} {HM:World→Value→σ→Prop} {Au:Nat→World→Prop} {S:Nat→Prop} {Y:aR} {w:World} {t K:Nat}
def ZI (P:M.Plain σ) (n cap:Nat) (Y:aR) (t:Nat) (o:M.Op):Value:=if (Y.th t).part≠0 then .tuple #[.agg #[.int .i64 0,.int .i64 0],.int .i64 4] else .tuple #[.agg #[.int .i64 (gN P (M.fin n cap t (M.cQ Y t o)) t).s,.int .i64 (gN P (M.fin n cap t (M.cQ Y t o)) t).v],.int .i64 0]
def ZJ (n cap:Nat) (Y:aR) (t:Nat) (o:M.Op):aR:=if (Y.th t).part≠0 then Y else M.fin n cap t (M.cQ Y t o)
set_option maxRecDepth 20000 in
set_option maxHeartbeats 1000000 in
theorem BA (x er:Int) (o:M.Op) (her:er≠0)
  (hc:∀ W,Below w.heap.size w W→Calls Tryz.prog 43 #[.pointer (some ⟨L.b,0,none⟩),.int .i64 x,.agg #[.int .i64 o.c,.int .i64 o.a,.int .i64 o.b]] W fun e w'=>e = .returned (.int .i64 er)∧Below W.heap.size W w') :
  Calls Tryz.prog 47 #[.pointer (some ⟨L.b,0,none⟩),.int .i64 x,.agg #[.int .i64 o.c,.int .i64 o.a,.int .i64 o.b]] w fun e w'=>e = .returned (.tuple #[.agg #[.int .i64 0,.int .i64 0],.int .i64 er])∧Below w.heap.size w w':=by
 have aDw:(er == 0)=false:=by simp [her]
 go_enter Tryz.func47,Tryz.ntmps47
 go_upto_region 1 with fail
 generalize hW:World.alloc (World.alloc w _) _=W
 have hb:Below w.heap.size w W:=by rw [←hW];exact ((Below.refl _ _).alloc (Nat.le_refl _) _).alloc (by simp) _
 have r0:Row W w.heap.size 36 [.int .i64 o.c,.int .i64 o.a,.int .i64 o.b]:=by rw [←hW];exact (Row.new' rfl).alloc _
 have r1:Row W (w.heap.size+1) 94 [.int .i64 0,.int .i64 0]:=by rw [←hW];exact Row.new' (by simp)
 have x0:=r0.cell_of (i:=0) rfl
 have x1:=r0.cell_of (i:=1) rfl
 have x2:=r0.cell_of (i:=2) rfl
 have jF:=aA r1
 have HB:=aA hb
 have HC:=aA (hc W hb)
 clear hW r0 r1 hb hc
 go_wp2_with fail
 refine HC.out.mono ?_
 rintro e w3 ⟨rfl,cH⟩
 have r3:=jF.out.old cH
 have y0:=r3.cell_of (i:=0) rfl
 have y1:=r3.cell_of (i:=1) rfl
 have z0:=r3.frozen 0
 have z1:=r3.frozen 1
 have zH:=aA (r3.set 0 (.int .i64 0) |>.set 1 (.int .i64 0))
 have pY:=aA (Below.next HB.out cH HB.out.size)
 clear cH r3
 go_wp2_with fail
 have q1:=zH.out.cell_of (i:=0) rfl
 have q2:=zH.out.cell_of (i:=1) rfl
 exact bodyPost_ret (v:=.tuple #[.agg #[.int .i64 0,.int .i64 0],.int .i64 er]) (by simp [results,Tryz.results47,go_sem,q1,q2]) rfl ⟨rfl,(pY.out.setCell (by simp) _).setCell (by simp) _⟩
structure DoI (P:M.Plain σ) (Au:Nat→World→Prop) (L:DL) (S:Nat→Prop) (w:World) (t K:Nat) (Y':aR) (g:Nat) (Y:aR) (how:Value) (w':World):Prop where
 go:mG P L t K Y' g Y
 dg:lM P Au L S w Y w'
 how:(how = .int .i64 1∧(Y.th t).part≠0)∨(how = .int .i64 2∧(Y.th t).part=0)
def DoL (P:M.Plain σ) (Au:Nat→World→Prop) (L:DL) (S:Nat→Prop) (w:World) (t K:Nat) (Y':aR) (g:Nat) (how:Value) (w':World):Prop:=∃ Y,DoI P Au L S w t K Y' g Y how w'
set_option maxRecDepth 20000 in
set_option maxHeartbeats 2000000 in
theorem LG (ds:DS P tell sz HM Au L) (h:DW P Au L S Y w) (hK:fJ L K Y) (qP:K+6000≤1000000000) (ht:t<L.n) (hp:(Y.th t).part=0) (o:M.Op) :
  Calls Tryz.prog 47 #[.pointer (some ⟨L.b,0,none⟩),.int .i64 (t:Int),.agg #[.int .i64 o.c,.int .i64 o.a,.int .i64 o.b]] w fun e w'=>e = .returned (.tuple #[.agg #[.int .i64 (gN P (M.fin L.n L.cap t (M.cQ Y t o)) t).s,.int .i64 (gN P (M.fin L.n L.cap t (M.cQ Y t o)) t).v],.int .i64 0])∧lM P Au L S w (M.fin L.n L.cap t (M.cQ Y t o)) w':=by
 obtain ⟨lD,rS,xQ⟩:=h.n
 have WA:=mG.begin h.yi rS xQ ht hp hK o
 have lC:((M.cQ Y t o).th t).part≠0:=by unfold M.cQ M.aR.set;simp [aC]
 generalize ZK:M.cQ Y t o=Y1 at *
 generalize hY':M.fin L.n L.cap t Y1=Y' at *
 go_enter Tryz.func47,Tryz.ntmps47
 go_upto_region 1 with fail
 generalize hW:World.alloc (World.alloc w _) _=W
 have hb:Below w.heap.size w W:=by rw [←hW];exact ((Below.refl _ _).alloc (Nat.le_refl _) _).alloc (by simp) _
 have r0:Row W w.heap.size 36 [.int .i64 o.c,.int .i64 o.a,.int .i64 o.b]:=by rw [←hW];exact (Row.new' rfl).alloc _
 have r1:Row W (w.heap.size+1) 94 [.int .i64 0,.int .i64 0]:=by rw [←hW];exact Row.new' (by simp)
 have x0:=r0.cell_of (i:=0) rfl
 have x1:=r0.cell_of (i:=1) rfl
 have x2:=r0.cell_of (i:=2) rfl
 have HB:=aA hb
 -- the object's blocks in W are its elder ones
 have gJ:DW P Au L S Y W:=h.stay ds (fun k _ hk=>hb.block k hk) hb.size
 have ZL:=aA (((vV ds gJ (hK.mono (by omega)) o).2.2 t ht hp))
 rw [ZK] at ZL
 have NH:¬S (w.heap.size+1):=fun c=>by have:=h.doc.lt _ c;omega
 have aGr:=aA (show Fr S w W from Fr.cV hb)
 have jF:=aA r1
 have WB:=aA ds
 have ZM:=aA WA
 have ZN:w.heap.size+1<W.heap.size:=r1.lt
 have OZ:w.heap.size≤W.heap.size:=hb.size
 have HH:=aA h
 clear hW r0 r1 hb h ds WA ZK hY' hK gJ
 go_wp2_with fail
 refine ZL.out.mono ?_
 rintro e w3 ⟨rfl,EZ⟩
 have EX:=aA EZ
 clear EZ
 go_wp2_with fail
 go_loopg [9] 5000 (fun g how w'=>DoL P Au L S W t (K+1) Y' g how w')
 case atStart=>exact ⟨Y1,ZM.out,EX.out,.inl ⟨rfl,lC⟩⟩
 case round =>
  obtain ⟨Yc,hI⟩:=hrel
  have uF:=hI.go
  have ZO:=hI.dg
  have hl:fJ L 1000000000 Yc:=uF.lim.mono (by have:=uF.gl;omega)
  rcases hI.how with ⟨rfl,sA⟩|⟨rfl,sA⟩
  ·have HS:=aA ((DT WB.out ZO.dw hl).2.2 t ht sA)
   have hst:=uF.step (by omega) ht sA
   have vI:=uF.yi.word (by omega) ht sA
   have hpost:=aA (show ∀ w',lM P Au L (Grow S W wr) wr (M.cP L.n L.cap Yc t).1 w'→DoL P Au L S W t (K+1) Y' (gk-1) (.int .i64 (zW (M.cP L.n L.cap Yc t).2)) w' from fun w' hd=>⟨_,hst.2,ZO.next hd,by
    rw [vI]
    by_cases q:((M.cP L.n L.cap Yc t).1.th t).part=0
    ·exact .inr ⟨by simp [zW,q],q⟩
    ·exact .inl ⟨by simp [zW,q],q⟩⟩)
   have hgk:0<gk:=hst.1
   clear hI uF ZO hst vI hl
   go_wp2_with fail
   refine HS.out.mono ?_
   rintro e w5 ⟨rfl,ZP⟩
   have HP:=aA (hpost.out w5 ZP)
   clear ZP
   generalize zW (M.cP L.n L.cap Yc t).2=ew at *
   go_wp2_with fail
   go_roundg (gk-1)
   case measure=>omega
   case rel=>exact HP.out
  ·have hYe:=uF.end sA
   subst hYe
   have MU:(Yc.th t).ended≠0:=by
    rw [uF.yi.ok.ide t ht sA]
    exact fun c=>uF.ops (List.eq_nil_of_length_eq_zero c)
   have HA:=aA ((yI WB.out ZO.dw hl).2 t ht)
   have e9:PO P Yc t = .tuple #[.agg #[.int .i64 (gN P Yc t).s,.int .i64 (gN P Yc t).v],.int .i64 0]:=by unfold PO;rw [if_neg (by simpa using sA),if_neg MU]
   rw [e9] at HA
   have hr:Row wr (w.heap.size+1) 94 [.int .i64 0,.int .i64 0]:=jF.out.of_block (ZO.fr.block _ jF.out.lt NH)
   have hzr:W.heap.size≤wr.heap.size:=ZO.fr.size
   have HDG:=aA ZO
   have HR:=aA hr
   clear hI uF ZO hl sA MU e9 hr EX ZM
   go_wp2_with fail
   refine HA.out.mono ?_
   rintro e w5 ⟨rfl,nP⟩
   have r5:=HR.out.old nP
   have y0:=r5.cell_of (i:=0) rfl
   have y1:=r5.cell_of (i:=1) rfl
   have z0:=r5.frozen 0
   have z1:=r5.frozen 1
   have zH:=aA (r5.set 0 (.int .i64 (gN P Yc t).s) |>.set 1 (.int .i64 (gN P Yc t).v))
   have qL:=aA nP
   clear nP r5
   go_wp2_with fail
   have q1:=zH.out.cell_of (i:=0) rfl
   have q2:=zH.out.cell_of (i:=1) rfl
   refine bodyPost_ret (v:=.tuple #[.agg #[.int .i64 (gN P Yc t).s,.int .i64 (gN P Yc t).v],.int .i64 0]) (by simp [results,Tryz.results47,go_sem,q1,q2]) rfl ⟨rfl,?_⟩
   refine HH.out.left WB.out ⟨?_,?_⟩ HDG.out.dw.yi
   ·have hd:=HDG.out.dw.doc
    have aJ7:=qL.out.size
    refine hd.stay (fun k hk=>?_) (fun k hk=>?_) (fun k hk=>?_)
    ·have hkr:=hd.lt k hk
     have hne:k≠w.heap.size+1:=by
      rintro rfl
      rcases hk with c|c
      ·exact NH c
      ·omega
     rw [Below.heap_setCell _ _ _ k hne,Below.heap_setCell _ _ _ k hne]
     exact qL.out.block k hkr
    ·rcases hk with c|c
     ·exact .inl c
     ·exact .inr ⟨by omega,by simp [World.setCell];omega⟩
    ·rcases hk with c|c
     ·have:=HH.out.doc.lt k c
      simp [World.setCell];omega
     ·exact c.2
   ·refine ((aGr.out.trans HDG.out.fr).trans (Fr.cV qL.out)).grow (own':=fun k=>k=w.heap.size+1) (((Fr.refl (fun k=>k=w.heap.size+1) _).here (b:=w.heap.size+1) rfl _ _).here (b:=w.heap.size+1) rfl _ _) (fun k hk=>.inr (by omega))
theorem aDz (ds:DS P tell sz HM Au L) (h:DW P Au L S Y w) (hK:fJ L K Y) (qP:K+6000≤1000000000) (o:M.Op) :
  (∀ x:Int,¬(0≤x∧x<L.n)→Calls Tryz.prog 47 #[.pointer (some ⟨L.b,0,none⟩),.int .i64 x,.agg #[.int .i64 o.c,.int .i64 o.a,.int .i64 o.b]] w fun e w'=>e = .returned (.tuple #[.agg #[.int .i64 0,.int .i64 0],.int .i64 3])∧lM P Au L S w Y w')
  ∧ ∀ t,t<L.n→Calls Tryz.prog 47 #[.pointer (some ⟨L.b,0,none⟩),.int .i64 (t:Int),.agg #[.int .i64 o.c,.int .i64 o.a,.int .i64 o.b]] w fun e w'=>e = .returned (ZI P L.n L.cap Y t o)∧lM P Au L S w (ZJ L.n L.cap Y t o) w':=by
 obtain ⟨bC,vo,vp,vb,bv,q⟩:=h.doc
 have st:∀ W,Below w.heap.size w W→DR L S Y W bC vo vp vb bv:=fun W hb=>q.stay (fun k hS=>hb.block k (q.lt k hS)) (fun _ h=>h) (fun k hS=>Nat.lt_of_lt_of_le (q.lt k hS) hb.size)
 refine ⟨fun x hx=>?_,fun t ht=>?_⟩
 ·refine (BA (w:=w) (L:=L) x 3 o (by decide) fun W hb=>tA (st W hb) x hx o).mono ?_
  rintro e w' ⟨rfl,hb⟩
  exact ⟨rfl,h.below ds hb⟩
 ·unfold ZI ZJ
  by_cases hp:(Y.th t).part=0
  ·rw [if_neg (by simpa using hp),if_neg (by simpa using hp)]
   exact LG ds h hK qP ht hp o
  ·rw [if_pos hp,if_pos hp]
   refine (BA (w:=w) (L:=L) (t:Int) 4 o (by decide) fun W hb=>qO (st W hb) ht hp o).mono ?_
   rintro e w' ⟨rfl,hb⟩
   exact ⟨rfl,h.below ds hb⟩
end
end Go.Proofs.YtefjhnhdagolhaaGreat
