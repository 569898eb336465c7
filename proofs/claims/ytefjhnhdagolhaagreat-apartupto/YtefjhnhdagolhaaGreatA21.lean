import Derived.Test.YtefjhnhdagolhaaGreatA20
import Derived.Test.YtefjhnhdagolhaaGreatA15
import Derived.Deep.LoopGhost
set_option maxHeartbeats 2000000
set_option maxRecDepth 20000
namespace Go.Proofs.YtefjhnhdagolhaaGreat
open Tryz
open Go.RowKit
open M (aM aC aD aR bJ cnt marks tagged num YI)
attribute [local go_sem ↓] Go.wp_at_zero Go.wp_at_succ
structure DW {σ:Type} (P:M.Plain σ) (Au:Nat→World→Prop) (L:DL) (S:Nat→Prop) (Y:aR) (w:World):Prop where
 doc:Doc L S Y w
 yi:YI P L.n L.cap Y
 au:∃ B,(∀ k,S k→B≤k)∧B≤w.heap.size∧Au B w
structure DS {σ:Type} (P:M.Plain σ) (tell:σ→List Int) (sz:σ→Nat) (HM:World→Value→σ→Prop) (Au:Nat→World→Prop) (L:DL):Prop where
 d:qi L P tell sz HM (bh L)
 au:∀ B w w',Au B w→(∀ k,k<B→w'.heap[k]?=w.heap[k]?)→Au B w'
 vn:∃ a l c,L.vn = .slice a l c
 vo:∃ a l c,L.vo = .slice a l c
structure xN {σ:Type} (P:M.Plain σ) (Au:Nat→World→Prop) (L:DL) (S:Nat→Prop) (w:World) (Y':aR) (w':World):Prop where
 dw:DW P Au L (Grow S w w') Y' w'
 fr:Fr S w w'
def jM (L:DL) (K:Nat) (Y:aR):Prop:=(∀ t,t<L.n→(Y.th t).ops.length≤K)∧Y.bs.length≤K
section
variable {σ:Type} {L:DL} {P:M.Plain σ} {tell:σ→List Int} {sz:σ→Nat} {HM:World→Value→σ→Prop} {Au:Nat→World→Prop} {S:Nat→Prop} {Y Y' NF:aR} {w w1 w2:World} {t K:Nat}
theorem DW.n (h:DW P Au L S Y w):1≤L.n∧L.n≤64∧L.cap≤64:=by obtain ⟨bZ,vo,vp,vb,bv,q⟩:=h.doc;exact ⟨q.n1,q.n64,q.RK⟩
theorem DW.left (ds:DS P tell sz HM Au L) (h:DW P Au L S Y w) (hl:eO L S w Y' w1) (hy:YI P L.n L.cap Y'):xN P Au L S w Y' w1:=by
 obtain ⟨B,h1,h2,h3⟩:=h.au;refine ⟨⟨hl.doc,hy,B,fun k hk=>?_,bK h2 hl.fr.size,ds.au B w w1 h3 fun k hk=>hl.fr.block k (by omega) fun c=>by have:=h1 k c;omega⟩,hl.fr⟩
 rcases hk with hk|hk
 ·exact h1 k hk
 ·omega
theorem DW.below (ds:DS P tell sz HM Au L) (h:DW P Au L S Y w) (hb:Below w.heap.size w w1):xN P Au L S w Y w1:=h.left ds (eO.below h.doc hb) h.yi
theorem xN.next (h:xN P Au L S w Y' w1) (h':xN P Au L (Grow S w w1) w1 NF w2):xN P Au L S w NF w2:=by
 have hl:=eO.next (⟨h.dw.doc,h.fr⟩:eO L S w Y' w1) ⟨h'.dw.doc,h'.fr⟩;obtain ⟨B,h1,h2,h3⟩:=h'.dw.au;refine ⟨⟨hl.doc,h'.dw.yi,B,fun k hk=>?_,h2,h3⟩,hl.fr⟩
 rcases hk with hk|hk
 ·exact h1 k (.inl (.inl hk))
 ·rcases Nat.lt_or_ge k w1.heap.size with q|q
  ·exact h1 k (.inl (.inr ⟨hk.1,q⟩))
  ·exact h1 k (.inr ⟨q,hk.2⟩)
theorem DW.stay (ds:DS P tell sz HM Au L) (h:DW P Au L S Y w) (hk:∀ k,S k∨(∀ j,S j→k<j)→k<w.heap.size→w1.heap[k]?=w.heap[k]?) (hz:w.heap.size≤w1.heap.size):DW P Au L S Y w1:=by
 obtain ⟨B,h1,h2,h3⟩:=h.au;refine ⟨h.doc.stay (fun k hS=>hk k (.inl hS) (h.doc.lt k hS)) (fun _ h=>h) (fun k hS=>cH (h.doc.lt k hS) hz),h.yi,B,h1,bK h2 hz,ds.au B w w1 h3 fun k hkB=>hk k (.inr fun j hj=>cH hkB (h1 j hj)) (by omega)⟩
theorem DW.aMQ (h:DW P Au L S Y w) (hK:jM L 1000000000 Y) (ht:t<L.n) (hp:(Y.th t).part≠0):aGG L Y t:=by
 have y:=h.yi.ok;have T:=y.th t ht;obtain ⟨q1,q2,q3⟩:=h.n;have f:=y.fl t ht;have b:=hK.1 t ht;refine ⟨(T.p2 hp).1,(T.p2 hp).2,by omega,T.p1,by omega,by omega,T.bc,hK.2,fun h8 od=>bK (y.pl t ht h8 od) q2,fun h7 k hk=>?_⟩;have:=y.ops k hk;have:=hK.1 k hk;have:=y.rd t ht (by omega) (by omega) k hk;have:=(y.fl k hk).1;omega
theorem DW.ask (ds:DS P tell sz HM Au L) (h:DW P Au L S Y w) (hK:jM L 1000000000 Y):kj L P tell sz HM (bh L) Y w:=by
 obtain ⟨bZ,vo,vp,vb,bv,q⟩:=h.doc;have:=h.yi.all h.n.2.1 hK.1;refine ⟨ds.d,h.yi.ok.mem,h.yi.ok.ops,by omega,⟨w.heap.size,bQ _,fun k5=>?_⟩,ds.vn,ds.vo⟩;obtain ⟨g1,g2,h1,h2,h3,h4,-⟩:=q.au k5;exact ⟨g1,g2,h1,h2,h3,h4,h3.lt,h4.lt⟩
theorem LX (ds:DS P tell sz HM Au L) (h:DW P Au L S Y w) (hK:jM L 1000000000 Y) (o:M.Op) :
  (∀ x:Int,¬(0≤x∧x<L.n)→Calls prog 43 #[.pointer (some ⟨L.b,0,none⟩),.int .i64 x,.agg #[.int .i64 o.c,.int .i64 o.a,.int .i64 o.b]] w fun e w'=>e = .returned (.int .i64 3)∧xN P Au L S w Y w')
  ∧ (∀ t,t<L.n→(Y.th t).part≠0→Calls prog 43 #[.pointer (some ⟨L.b,0,none⟩),.int .i64 (t:Int),.agg #[.int .i64 o.c,.int .i64 o.a,.int .i64 o.b]] w fun e w'=>e = .returned (.int .i64 4)∧xN P Au L S w Y w')
  ∧ ∀ t,t<L.n→(Y.th t).part=0→Calls prog 43 #[.pointer (some ⟨L.b,0,none⟩),.int .i64 (t:Int),.agg #[.int .i64 o.c,.int .i64 o.a,.int .i64 o.b]] w fun e w'=>e = .returned (.int .i64 0)∧xN P Au L S w (M.eE Y t o) w':=by
 obtain ⟨bZ,vo,vp,vb,bv,q⟩:=h.doc;refine ⟨fun x hx=>?_,fun t ht hp=>?_,fun t ht hp=>?_⟩
 ·refine (FO q x hx o).mono ?_
  rintro e w' ⟨rfl,hb⟩;exact ⟨rfl,h.below ds hb⟩
 ·refine (DT q ht hp o).mono ?_
  rintro e w' ⟨rfl,hb⟩;exact ⟨rfl,h.below ds hb⟩
 ·refine (QD q ht hp o (hK.1 t ht)).mono ?_
  rintro e w' ⟨rfl,hb⟩;exact ⟨rfl,h.left ds hb (h.yi.begin ht hp o)⟩
theorem TI (ds:DS P tell sz HM Au L) (h:DW P Au L S Y w) (hK:jM L 1000000000 Y) :
  (∀ x:Int,¬(0≤x∧x<L.n)→Calls prog 53 #[.pointer (some ⟨L.b,0,none⟩),.int .i64 x] w fun e w'=>e = .returned (.tuple #[.int .i64 0,.int .i64 3])∧xN P Au L S w Y w')
  ∧ (∀ t,t<L.n→(Y.th t).part=0→Calls prog 53 #[.pointer (some ⟨L.b,0,none⟩),.int .i64 (t:Int)] w fun e w'=>e = .returned (.tuple #[.int .i64 0,.int .i64 5])∧xN P Au L S w Y w')
  ∧ ∀ t,t<L.n→(Y.th t).part≠0→Calls prog 53 #[.pointer (some ⟨L.b,0,none⟩),.int .i64 (t:Int)] w fun e w'=>e = .returned (.tuple #[.int .i64 (QK (M.dZ L.n L.cap Y t).2),.int .i64 0])∧xN P Au L S w (M.dZ L.n L.cap Y t).1 w':=by
 obtain ⟨bZ,vo,vp,vb,bv,q⟩:=h.doc;refine ⟨fun x hx=>?_,fun t ht hp=>?_,fun t ht hp=>?_⟩
 ·refine (XS q x hx).mono ?_
  rintro e w' ⟨rfl,rfl⟩;exact ⟨rfl,h.below ds (aT _ _)⟩
 ·refine (TU q ht hp).mono ?_
  rintro e w' ⟨rfl,rfl⟩;exact ⟨rfl,h.below ds (aT _ _)⟩
 ·refine (TT q ht (h.aMQ hK ht hp)).mono ?_
  rintro e w' ⟨rfl,hb⟩;exact ⟨rfl,h.left ds hb (h.yi.step (cH (by decide) h.n.1) ht hp)⟩
def pS (P:M.Plain σ) (Y:aR) (t:Nat):M.az:=(M.replay P (fun k i=>((Y.th k).ops).getD i ⟨0,0,0⟩) Y.bs).an t
theorem aCC (P:M.Plain σ) (Y:aR) (t:Nat):(gU P Y Y.order.length).an t=pS P Y t:=by rw [lD,GR];rfl
def sg (P:M.Plain σ) (Y:aR) (t:Nat):Value:=if (Y.th t).part≠0 then .tuple #[.agg #[.int .i64 0,.int .i64 0],.int .i64 4] else if (Y.th t).ended=0 then .tuple #[.agg #[.int .i64 0,.int .i64 0],.int .i64 5] else .tuple #[.agg #[.int .i64 (pS P Y t).s,.int .i64 (pS P Y t).v],.int .i64 0]
theorem MZ (ds:DS P tell sz HM Au L) (h:DW P Au L S Y w) (hK:jM L 1000000000 Y) :
  (∀ x:Int,¬(0≤x∧x<L.n)→Calls prog 54 #[.pointer (some ⟨L.b,0,none⟩),.int .i64 x] w fun e w'=>e = .returned (.tuple #[.agg #[.int .i64 0,.int .i64 0],.int .i64 3])∧Below w.heap.size w w')
  ∧ ∀ t,t<L.n→Calls prog 54 #[.pointer (some ⟨L.b,0,none⟩),.int .i64 (t:Int)] w fun e w'=>e = .returned (sg P Y t)∧Below w.heap.size w w':=by
 obtain ⟨bZ,vo,vp,vb,bv,q⟩:=h.doc;refine ⟨fun x hx=>QC q x hx,fun t ht=>?_⟩;unfold sg
 by_cases hp:(Y.th t).part=0
 ·rw [aN (by simpa using hp)]
  by_cases he:(Y.th t).ended=0
  ·rw [aJ he]
   exact NT q ht hp he
  ·rw [aN he,←aCC]
   have:=h.yi.ok.fl t ht;have:=hK.1 t ht;exact NS (h.ask ds hK) q ht hp he (h.yi.ok.idle t ht hp) (by omega)
 ·rw [aJ hp]
  exact NR q ht hp
theorem aCy (ds:DS P tell sz HM Au L) (h:DW P Au L S Y w) (hK:jM L 1000000000 Y) :
  Calls prog 55 #[.pointer (some ⟨L.b,0,none⟩)] w fun e w'=>∃ v,e = .returned v∧w'.ownsRow w.heap.size 81 3 v Y.order.length (eB Y.order)∧Below w.heap.size w w':=by
 obtain ⟨bZ,vo,vp,vb,bv,q⟩:=h.doc;exact XQ q (bK (h.ask ds hK).all (by decide))
theorem aCz (ds:DS P tell sz HM Au L) (h:DW P Au L S Y w) (hK:jM L 1000000000 Y) :
  Calls prog 56 #[.pointer (some ⟨L.b,0,none⟩)] w fun e w'=>∃ v,e = .returned v∧w'.ownsRow w.heap.size 3 1 v (tell (gU P Y Y.order.length).st).length (ints (tell (gU P Y Y.order.length).st))∧Below w.heap.size w w':=by
 obtain ⟨bZ,vo,vp,vb,bv,q⟩:=h.doc;exact docState (h.ask ds hK) q
end
theorem jM.mono {L:DL} {K K':Nat} {Y:aR} (h:jM L K Y) (hk:K≤K'):jM L K' Y:=⟨fun t ht=>bK (h.1 t ht) hk,bK h.2 hk⟩
theorem jM.step {L:DL} {K:Nat} {Y:aR} (h:jM L K Y) (t:Nat):jM L (K+1) (M.dZ L.n L.cap Y t).1 :=
 ⟨fun k hk=>by rw [M.SK];exact Nat.le_succ_of_le (h.1 k hk),bK (M.aBI _ _ _ _).1 (Nat.succ_le_succ h.2)⟩
theorem jM.begin {L:DL} {K:Nat} {Y:aR} (h:jM L K Y) (t:Nat) (o:M.Op):jM L (K+1) (M.eE Y t o):=by
 refine ⟨fun k hk=>?_,Nat.le_succ_of_le h.2⟩;unfold M.eE M.aR.set
 by_cases e:k=t
 ·subst e
  simp only [aC,eD,JA];exact Nat.succ_le_succ (h.1 k hk)
 ·simp only [aD _ _ e]
  exact Nat.le_succ_of_le (h.1 k hk)
structure vZ {σ:Type} (P:M.Plain σ) (L:DL) (t K:Nat) (Y':aR) (g:Nat) (Y:aR):Prop where
 yi:YI P L.n L.cap Y
 fin:M.fin L.n L.cap t Y=Y'
 sU:(Y.th t).sU L.n L.cap≤g
 gl:g≤5000
 lim:jM L (K+(5000-g)) Y
 ops:(Y.th t).ops≠[]
theorem vZ.step {σ:Type} {P:M.Plain σ} {L:DL} {t K g:Nat} {Y Y':aR} (h:vZ P L t K Y' g Y) (hn:0<L.n) (ht:t<L.n) (hp:(Y.th t).part≠0):0<g∧vZ P L t K Y' (g-1) (M.dZ L.n L.cap Y t).1:=by
 have h1:=M.CS hn (h.yi.ok.th t ht) hp;have h2:=h.sU;have h3:=h.gl;refine ⟨by omega,h.yi.step hn ht hp,(M.aAy hn ht h.yi (by omega) hp).trans h.fin,by omega,by omega,(h.lim.step t).mono (by omega),by rw [M.SK];exact h.ops⟩
theorem vZ.end {σ:Type} {P:M.Plain σ} {L:DL} {t K g:Nat} {Y Y':aR} (h:vZ P L t K Y' g Y) (hp:(Y.th t).part=0):Y=Y':=(M.aAx hp).symm.trans h.fin
theorem vZ.begin {σ:Type} {P:M.Plain σ} {L:DL} {t K:Nat} {Y:aR} (hy:YI P L.n L.cap Y) (vO:L.n≤64) (hc:L.cap≤64) (ht:t<L.n) (hp:(Y.th t).part=0) (hK:jM L K Y) (o:M.Op):vZ P L t (K+1) (M.fin L.n L.cap t (M.eE Y t o)) 5000 (M.eE Y t o):=by
 refine ⟨hy.begin ht hp o,rfl,?_,bQ _,(hK.begin t o).mono (by omega),?_⟩
 ·rw [M.OV];have:=M.XH vO hc;omega
 ·unfold M.eE M.aR.set
  simp [aC]
section
variable {σ:Type} {L:DL} {P:M.Plain σ} {tell:σ→List Int} {sz:σ→Nat} {HM:World→Value→σ→Prop} {Au:Nat→World→Prop} {S:Nat→Prop} {Y:aR} {w:World} {t K:Nat}
def doW (P:M.Plain σ) (n cap:Nat) (Y:aR) (t:Nat) (o:M.Op):Value:=if (Y.th t).part≠0 then .tuple #[.agg #[.int .i64 0,.int .i64 0],.int .i64 4] else .tuple #[.agg #[.int .i64 (pS P (M.fin n cap t (M.eE Y t o)) t).s,.int .i64 (pS P (M.fin n cap t (M.eE Y t o)) t).v],.int .i64 0]
def doY (n cap:Nat) (Y:aR) (t:Nat) (o:M.Op):aR:=if (Y.th t).part≠0 then Y else M.fin n cap t (M.eE Y t o)
theorem RM (x er:Int) (o:M.Op) (her:er≠0)
  (hc:∀ W,Below w.heap.size w W→Calls prog 43 #[.pointer (some ⟨L.b,0,none⟩),.int .i64 x,.agg #[.int .i64 o.c,.int .i64 o.a,.int .i64 o.b]] W fun e w'=>e = .returned (.int .i64 er)∧Below W.heap.size W w') :
  Calls prog 47 #[.pointer (some ⟨L.b,0,none⟩),.int .i64 x,.agg #[.int .i64 o.c,.int .i64 o.a,.int .i64 o.b]] w fun e w'=>e = .returned (.tuple #[.agg #[.int .i64 0,.int .i64 0],.int .i64 er])∧Below w.heap.size w w':=by
 have aLy:(er == 0)=false:=by simp [her]
 go_enter func47,ntmps47;go_upto_region 1 with fail;generalize hW:World.alloc (World.alloc w _) _=W;have hb:Below w.heap.size w W:=by rw [←hW];exact ((aT _ _).alloc (bQ _) _).alloc (by simp) _
 have r0:Row W w.heap.size 36 [.int .i64 o.c,.int .i64 o.a,.int .i64 o.b]:=by rw [←hW];exact (aV rfl).alloc _
 have r1:Row W (w.heap.size+1) 94 [.int .i64 0,.int .i64 0]:=by rw [←hW];exact aV (by simp)
 have x0:=r0.cell_of (i:=0) rfl;have x1:=r0.cell_of (i:=1) rfl;have x2:=r0.cell_of (i:=2) rfl;have pX:=aA r1;have HB:=aA hb;have HC:=aA (hc W hb);clear hW r0 r1 hb hc;go_wp2_with fail;refine HC.out.mono ?_;rintro e w3 ⟨rfl,cP⟩;have r3:=pX.out.old cP;have y0:=r3.cell_of (i:=0) rfl;have y1:=r3.cell_of (i:=1) rfl;have z0:=r3.frozen 0;have z1:=r3.frozen 1;have sB:=aA (r3.set 0 (.int .i64 0) |>.set 1 (.int .i64 0));have oV:=aA (aS HB.out cP HB.out.size);clear cP r3;go_wp2_with fail;have q1:=sB.out.cell_of (i:=0) rfl;have q2:=sB.out.cell_of (i:=1) rfl;exact cR (v:=.tuple #[.agg #[.int .i64 0,.int .i64 0],.int .i64 er]) (by simp [results,results47,go_sem,q1,q2]) rfl ⟨rfl,(oV.out.setCell (by simp) _).setCell (by simp) _⟩
structure DoI (P:M.Plain σ) (Au:Nat→World→Prop) (L:DL) (S:Nat→Prop) (w:World) (t K:Nat) (Y':aR) (g:Nat) (Y:aR) (how:Value) (w':World):Prop where
 go:vZ P L t K Y' g Y
 dg:xN P Au L S w Y w'
 how:(how = .int .i64 1∧(Y.th t).part≠0)∨(how = .int .i64 2∧(Y.th t).part=0)
def DoL (P:M.Plain σ) (Au:Nat→World→Prop) (L:DL) (S:Nat→Prop) (w:World) (t K:Nat) (Y':aR) (g:Nat) (how:Value) (w':World):Prop:=∃ Y,DoI P Au L S w t K Y' g Y how w'
theorem gh (ds:DS P tell sz HM Au L) (h:DW P Au L S Y w) (hK:jM L K Y) (KN:K+6000≤1000000000) (ht:t<L.n) (hp:(Y.th t).part=0) (o:M.Op) :
  Calls prog 47 #[.pointer (some ⟨L.b,0,none⟩),.int .i64 (t:Int),.agg #[.int .i64 o.c,.int .i64 o.a,.int .i64 o.b]] w fun e w'=>e = .returned (.tuple #[.agg #[.int .i64 (pS P (M.fin L.n L.cap t (M.eE Y t o)) t).s,.int .i64 (pS P (M.fin L.n L.cap t (M.eE Y t o)) t).v],.int .i64 0])∧xN P Au L S w (M.fin L.n L.cap t (M.eE Y t o)) w':=by
 obtain ⟨xV,LN,YB⟩:=h.n;have hGo:=vZ.begin h.yi LN YB ht hp hK o;have yG:((M.eE Y t o).th t).part≠0:=by unfold M.eE M.aR.set;simp [aC]
 generalize hY1:M.eE Y t o=Y1 at *;generalize hY':M.fin L.n L.cap t Y1=Y' at *;go_enter func47,ntmps47;go_upto_region 1 with fail;generalize hW:World.alloc (World.alloc w _) _=W;have hb:Below w.heap.size w W:=by rw [←hW];exact ((aT _ _).alloc (bQ _) _).alloc (by simp) _
 have r0:Row W w.heap.size 36 [.int .i64 o.c,.int .i64 o.a,.int .i64 o.b]:=by rw [←hW];exact (aV rfl).alloc _
 have r1:Row W (w.heap.size+1) 94 [.int .i64 0,.int .i64 0]:=by rw [←hW];exact aV (by simp)
 have x0:=r0.cell_of (i:=0) rfl;have x1:=r0.cell_of (i:=1) rfl;have x2:=r0.cell_of (i:=2) rfl;have HB:=aA hb
 -- the object's blocks in W are its elder ones
 have sZ:DW P Au L S Y W:=h.stay ds (fun k _ hk=>hb.block k hk) hb.size;have HBg:=aA (((LX ds sZ (hK.mono (by omega)) o).2.2 t ht hp));rw [hY1] at HBg;have hnS:¬S (w.heap.size+1):=fun c=>by have:=h.doc.lt _ c;omega
 have aJU:=aA (show Fr S w W from Fr.cA hb);have pX:=aA r1;have HDS:=aA ds;have HGo:=aA hGo;have hzW:w.heap.size+1<W.heap.size:=r1.lt;have hzw:w.heap.size≤W.heap.size:=hb.size;have HH:=aA h;clear hW r0 r1 hb h ds hGo hY1 hY' hK sZ;go_wp2_with fail;refine HBg.out.mono ?_;rintro e w3 ⟨rfl,hg3⟩;have WL:=aA hg3;clear hg3;go_wp2_with fail
 go_loopg [9] 5000 (fun g how w'=>DoL P Au L S W t (K+1) Y' g how w')
 case atStart=>exact ⟨Y1,HGo.out,WL.out,.inl ⟨rfl,yG⟩⟩
 case round =>
  obtain ⟨Yc,hI⟩:=hrel;have WT:=hI.go;have hdg:=hI.dg;have hl:jM L 1000000000 Yc:=WT.lim.mono (by have:=WT.gl;omega)
  rcases hI.how with ⟨rfl,RS⟩|⟨rfl,RS⟩
  ·have HS:=aA ((TI HDS.out hdg.dw hl).2.2 t ht RS)
   have hst:=WT.step (by omega) ht RS;have RU:=WT.yi.word (by omega) ht RS;have hpost:=aA (show ∀ w',xN P Au L (Grow S W wr) wr (M.dZ L.n L.cap Yc t).1 w'→DoL P Au L S W t (K+1) Y' (gk-1) (.int .i64 (QK (M.dZ L.n L.cap Yc t).2)) w' from fun w' hd=>⟨_,hst.2,hdg.next hd,by
    rw [RU]
    by_cases q:((M.dZ L.n L.cap Yc t).1.th t).part=0
    ·exact .inr ⟨by simp [QK,q],q⟩
    ·exact .inl ⟨by simp [QK,q],q⟩⟩)
   have hgk:0<gk:=hst.1;clear hI WT hdg hst RU hl;go_wp2_with fail;refine HS.out.mono ?_;rintro e w5 ⟨rfl,hd5⟩;have HP:=aA (hpost.out w5 hd5);clear hd5;generalize QK (M.dZ L.n L.cap Yc t).2=ew at *;go_wp2_with fail
   go_roundg (gk-1)
   case measure=>omega
   case rel=>exact HP.out
  ·have hYe:=WT.end RS
   subst hYe;have hen:(Yc.th t).ended≠0:=by
    rw [WT.yi.ok.ide t ht RS];exact fun c=>WT.ops (List.eq_nil_of_length_eq_zero c)
   have HA:=aA ((MZ HDS.out hdg.dw hl).2 t ht);have e9:sg P Yc t = .tuple #[.agg #[.int .i64 (pS P Yc t).s,.int .i64 (pS P Yc t).v],.int .i64 0]:=by unfold sg;rw [aN (by simpa using RS),aN hen]
   rw [e9] at HA;have hr:Row wr (w.heap.size+1) 94 [.int .i64 0,.int .i64 0]:=pX.out.of_block (hdg.fr.block _ pX.out.lt hnS);have hzr:W.heap.size≤wr.heap.size:=hdg.fr.size;have HDG:=aA hdg;have HR:=aA hr;clear hI WT hdg hl RS hen e9 hr WL HGo;go_wp2_with fail;refine HA.out.mono ?_;rintro e w5 ⟨rfl,xU⟩;have r5:=HR.out.old xU;have y0:=r5.cell_of (i:=0) rfl;have y1:=r5.cell_of (i:=1) rfl;have z0:=r5.frozen 0;have z1:=r5.frozen 1;have sB:=aA (r5.set 0 (.int .i64 (pS P Yc t).s) |>.set 1 (.int .i64 (pS P Yc t).v));have JE:=aA xU;clear xU r5;go_wp2_with fail;have q1:=sB.out.cell_of (i:=0) rfl;have q2:=sB.out.cell_of (i:=1) rfl;refine cR (v:=.tuple #[.agg #[.int .i64 (pS P Yc t).s,.int .i64 (pS P Yc t).v],.int .i64 0]) (by simp [results,results47,go_sem,q1,q2]) rfl ⟨rfl,?_⟩;refine HH.out.left HDS.out ⟨?_,?_⟩ HDG.out.dw.yi
   ·have hd:=HDG.out.dw.doc
    have aRv:=JE.out.size;refine hd.stay (fun k hk=>?_) (fun k hk=>?_) (fun k hk=>?_)
    ·have hkr:=hd.lt k hk
     have hne:k≠w.heap.size+1:=by
      rintro rfl
      rcases hk with c|c
      ·exact hnS c
      ·omega
     rw [cZ _ _ _ k hne,cZ _ _ _ k hne];exact JE.out.block k hkr
    ·rcases hk with c|c
     ·exact .inl c
     ·exact .inr ⟨by omega,by simp [World.setCell];omega⟩
    ·rcases hk with c|c
     ·have:=HH.out.doc.lt k c
      simp [World.setCell];omega
     ·exact c.2
   ·refine ((aJU.out.trans HDG.out.fr).trans (Fr.cA JE.out)).grow (own':=fun k=>k=w.heap.size+1) (((Fr.refl (fun k=>k=w.heap.size+1) _).here (b:=w.heap.size+1) rfl _ _).here (b:=w.heap.size+1) rfl _ _) (fun k hk=>.inr (by omega))
theorem aGe (ds:DS P tell sz HM Au L) (h:DW P Au L S Y w) (hK:jM L K Y) (KN:K+6000≤1000000000) (o:M.Op) :
  (∀ x:Int,¬(0≤x∧x<L.n)→Calls prog 47 #[.pointer (some ⟨L.b,0,none⟩),.int .i64 x,.agg #[.int .i64 o.c,.int .i64 o.a,.int .i64 o.b]] w fun e w'=>e = .returned (.tuple #[.agg #[.int .i64 0,.int .i64 0],.int .i64 3])∧xN P Au L S w Y w')
  ∧ ∀ t,t<L.n→Calls prog 47 #[.pointer (some ⟨L.b,0,none⟩),.int .i64 (t:Int),.agg #[.int .i64 o.c,.int .i64 o.a,.int .i64 o.b]] w fun e w'=>e = .returned (doW P L.n L.cap Y t o)∧xN P Au L S w (doY L.n L.cap Y t o) w':=by
 obtain ⟨bZ,vo,vp,vb,bv,q⟩:=h.doc;have st:∀ W,Below w.heap.size w W→DR L S Y W bZ vo vp vb bv:=fun W hb=>q.stay (fun k hS=>hb.block k (q.lt k hS)) (fun _ h=>h) (fun k hS=>cH (q.lt k hS) hb.size)
 refine ⟨fun x hx=>?_,fun t ht=>?_⟩
 ·refine (RM (w:=w) (L:=L) x 3 o (by decide) fun W hb=>FO (st W hb) x hx o).mono ?_
  rintro e w' ⟨rfl,hb⟩;exact ⟨rfl,h.below ds hb⟩
 ·unfold doW doY
  by_cases hp:(Y.th t).part=0
  ·rw [aN (by simpa using hp),aN (by simpa using hp)]
   exact gh ds h hK KN ht hp o
  ·rw [aJ hp,aJ hp]
   refine (RM (w:=w) (L:=L) (t:Int) 4 o (by decide) fun W hb=>DT (st W hb) ht hp o).mono ?_;rintro e w' ⟨rfl,hb⟩;exact ⟨rfl,h.below ds hb⟩
end
end Go.Proofs.YtefjhnhdagolhaaGreat
